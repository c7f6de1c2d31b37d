import PyProof.Rows.All
import Wide.All
import OpenK.AllK
import Wide.FinOn
import Lean
import PyProof.EqAt
import PyProof.EqKinds
import PyProof.TupleCall
import PyProof.Rows.BitMore
import PyProof.ConsumeWalk
import PyProof.Rows.SetFrom
import PyProof.WalksMore
import PyProof.FactsAll.subtypes_4
import PyProof.StationsW
import PyProof.ExcClass3
import PyProof.ExcBaseAll.ValueError
import PyProof.RulesAs
import PyProof.ExcArgsOwn
import PyProof.ExcAttrAll.ValueError
import PyProof.InstStoreFacts
import PyProof.ExcClass2
import PyProof.ExcInit
import PyProof.NsDelKeeps
import PyProof.Rows.CatchTuple
import PyProof.StrBlockL
import PyProof.StrCalls2
import PyProof.FitsInt
import PyProof.StrCalls
import PyProof.SliceStr2
import PyProof.StrBlockI
import PyProof.Rows.SortWalk
import PyProof.Rows.TupDisplay
import PyProof.EnumMake
import PyProof.Rows.EnumRows
import PyProof.SumAny
import PyProof.StrOps2
import PyProof.Rows.StrSplitAre
import PyProof.StrLawsTight
import PyProof.StrLawsIn
import PyProof.Draws
import PyProof.StrLawsIdx
import PyProof.Rows.CallKwBuiltin
import PyProof.FString
import PyProof.Rows.StrNews2
import PyProof.Rows.StrFromFirst
import PyProof.Rows.MinMaxN
import PyProof.NeKinds
import PyProof.Rows.StrSplitJoin
import PyProof.Rows.StrJoin2
import PySem.Challenge.RW_spinboard_k95_plays_written
-- CHANGE: your row's module here, as the last of these rows
set_option Elab.async false
set_option linter.all false
set_option maxRecDepth 100000
/-! THE HAND LAYER, for ints, bools, texts, own classes, LISTS and tuples (index, slices, in, append, pop ..), calls, loops. Paste it whole ahead of your own text; what your proof does not reach may be deleted. -/
namespace L2
open PySem PySem.Spec PyProof.Rows

abbrev Key := Sum Int Str
def keyIs : Key → Value → Bool
  | .inl k, v => Value.isInt k v
  | .inr x, v => Value.isStrOf x v
def keyH (w : World) : Key → Int
  | .inl k => hashInt k
  | .inr x => hashStr w x
theorem keyIs_shape : ∀ {k : Key} {v : Value}, keyIs k v = true → (∃ i t, k = Sum.inl i ∧ v = Value.int i t) ∨ (∃ x t, k = Sum.inr x ∧ v = Value.str x t)
  | .inl i, v, h => by
    obtain ⟨t, e⟩ := Value.isInt_shape (k := i) (v := v) h
    exact .inl ⟨i, t, rfl, e⟩
  | .inr x, v, h => by
    obtain ⟨t, e⟩ := Value.isStrOf_shape (x := x) (v := v) h
    exact .inr ⟨x, t, rfl, e⟩
theorem keyIs_int (i : Int) (t : Tok) : keyIs (.inl i) (.int i t) = true := by simp [keyIs, Value.isInt]
theorem keyIs_str (x : Str) (t : Tok) : keyIs (.inr x) (.str x t) = true := by simp [keyIs, Value.isStrOf]
theorem key_ll (a b : Int) : decide ((Sum.inl a : Key) = Sum.inl b) = (a == b) := by
  by_cases e : a = b
  · subst e; simp
  · have h : ¬ (Sum.inl a : Key) = Sum.inl b := fun q => e (Sum.inl.inj q)
    rw [decide_eq_false h]
    exact (beq_eq_false_iff_ne.mpr e).symm
theorem key_rr (a b : Str) : decide ((Sum.inr a : Key) = Sum.inr b) = decide (a = b) := by
  by_cases e : a = b
  · subst e; simp
  · have h : ¬ (Sum.inr a : Key) = Sum.inr b := fun q => e (Sum.inr.inj q)
    rw [decide_eq_false h, decide_eq_false e]
theorem key_lr (a : Int) (b : Str) : decide ((Sum.inl a : Key) = Sum.inr b) = false := decide_eq_false (fun q => nomatch q)
theorem key_rl (a : Str) (b : Int) : decide ((Sum.inr a : Key) = Sum.inl b) = false := decide_eq_false (fun q => nomatch q)

def mixKind (prog : Program) (w : World) : PySem.KeyKind prog w Key where
  is := keyIs
  hash := keyH w
  inj := fun v a b ha hb => by
    rcases keyIs_shape ha with ⟨i, t, rfl, rfl⟩ | ⟨x, t, rfl, rfl⟩
    · rcases keyIs_shape hb with ⟨j, u, rfl, e⟩ | ⟨y, u, rfl, e⟩
      · injection e with e1 _; rw [e1]
      · exact nomatch e
    · rcases keyIs_shape hb with ⟨j, u, rfl, e⟩ | ⟨y, u, rfl, e⟩
      · exact nomatch e
      · injection e with e1 _; rw [e1]
  byValue := fun k v h => by
    rcases keyIs_shape h with ⟨i, t, rfl, rfl⟩ | ⟨x, t, rfl, rfl⟩ <;> rfl
  pyHash := fun hv h => by
    rcases keyIs_shape hv with ⟨i, t, rfl, rfl⟩ | ⟨x, t, rfl, rfl⟩
    · exact wpAny_pyHash_int h
    · exact wpAny_pyHash_str h
  eqBool := fun hu hv h => by
    rcases keyIs_shape hu with ⟨i, t, rfl, rfl⟩ | ⟨x, t, rfl, rfl⟩
    · rcases keyIs_shape hv with ⟨j, u, rfl, rfl⟩ | ⟨y, u, rfl, rfl⟩
      · rw [key_ll] at h; exact wpAny_eqBool_int h
      · rw [key_lr] at h; exact SeqAt.EqAt.int_str i t y u _ _ _ _ h
    · rcases keyIs_shape hv with ⟨j, u, rfl, rfl⟩ | ⟨y, u, rfl, rfl⟩
      · rw [key_rl] at h; exact SeqAt.EqAt.str_int x t j u _ _ _ _ h
      · rw [key_rr] at h; exact wpAny_eqBool_str h
  «strs» := fun k x t v h => by
    rcases keyIs_shape h with ⟨i, u, rfl, e⟩ | ⟨y, u, rfl, e⟩
    · exact nomatch e
    · injection e with e1 _
      subst e1
      cases v <;> rfl

theorem mixKind_int (prog : Program) (w : World) (i : Int) (t : Tok) : (mixKind prog w).is (.inl i) (.int i t) = true := keyIs_int i t
theorem mixKind_str (prog : Program) (w : World) (x : Str) (t : Tok) : (mixKind prog w).is (.inr x) (.str x t) = true := keyIs_str x t
end L2

namespace L2
open PySem PySem.Spec PyProof.Rows

inductive V where
  | non | bl (b : Bool) | int (i : Int) | str (x : Str) | byt (b : Array UInt8) | flt (b : UInt64) | ref (a : Addr) | ty (n : String)
  deriving DecidableEq

def RelV : V → Value → Prop
  | .non, u => u = Value.none
  | .bl b, u => u = Value.bool b
  | .int i, u => ∃ t, u = Value.int i t
  | .str x, u => ∃ t, u = Value.str x t
  | .byt b, u => ∃ t, u = Value.bytes b t
  | .flt b, u => ∃ t, u = Value.float b t
  | .ref a, u => u = Value.ref a
  | .ty n, u => u = Value.type n

abbrev Vals : List V → List Value → Prop := Paired RelV
theorem Vals.length {xs : List V} {us : List Value} (r : Vals xs us) : xs.length = us.length := Paired.length r
theorem Vals.get : ∀ {xs : List V} {us : List Value} {i : Nat} {x : V}, Vals xs us → xs[i]? = some x → ∃ u, us[i]? = some u ∧ RelV x u
  | _, _, _, _, .nil, e => by simp at e
  | _, _, 0, _, .cons r _, e => by simp at e; subst e; exact ⟨_, rfl, r⟩
  | _, _, i + 1, x, .cons _ t, e => by
    obtain ⟨u, h1, h2⟩ := Vals.get (i := i) (x := x) t (by simpa using e)
    exact ⟨u, by simpa using h1, h2⟩
theorem Vals.set {x : V} {u : Value} (r : RelV x u) : ∀ {xs : List V} {us : List Value} (i : Nat), Vals xs us → Vals (xs.set i x) (us.set i u)
  | _, _, _, .nil => .nil
  | _, _, 0, .cons _ t => .cons r t
  | _, _, i + 1, .cons q t => .cons q (Vals.set r i t)
theorem Vals.append : ∀ {xs ys : List V} {us ws : List Value}, Vals xs us → Vals ys ws → Vals (xs ++ ys) (us ++ ws)
  | _, _, _, _, .nil, s => s
  | _, _, _, _, .cons r t, s => .cons r (Vals.append t s)
theorem Vals.take : ∀ {xs : List V} {us : List Value} (n : Nat), Vals xs us → Vals (xs.take n) (us.take n)
  | _, _, 0, _ => .nil
  | _, _, _ + 1, .nil => .nil
  | _, _, n + 1, .cons r t => .cons r (Vals.take n t)
theorem Vals.drop : ∀ {xs : List V} {us : List Value} (n : Nat), Vals xs us → Vals (xs.drop n) (us.drop n)
  | _, _, 0, r => r
  | _, _, _ + 1, .nil => .nil
  | _, _, n + 1, .cons _ t => Vals.drop n t
def RelO : Option V → Option Value → Prop
  | some v, some u => RelV v u
  | none, none => True
  | _, _ => False
def KV {κ : Type} : List (κ × V) → List (κ × Value) → Prop := Paired fun (p : κ × V) (q : κ × Value) => p.1 = q.1 ∧ RelV p.2 q.2

def kV : Key → V
  | .inl i => .int i
  | .inr x => .str x

inductive HO where
  /-- a list -/
  | lst (xs : List V)
  /-- a tuple (never changes) -/
  | tup (xs : List V)
  /-- a dict whose keys are ints and texts; one whose keys are tuples of ints and texts (the empty one is both) -/
  | dK (kvs : List (Key × V)) | dT (kvs : List (List Key × V))
  /-- a set of ints: its members, its size -/
  | set (S : Int → Bool) (n : Nat)
  /-- an instance of the class at C, its dict at dx, its attributes -/
  | ins (C dx : Addr) (fs : List (Str × V))
  /-- the dict of the instance at x -/
  | own (x : Addr)
  /-- the dict of an exception -/
  | xd (fs : List (Str × V))
  /-- a bound method, f of x -/
  | met (f x : Addr)
  /-- a range object lo, lo + 1, .. below hi -/
  | rng (lo hi : Int)
  /-- a thing that is known to the object (the script; a dict while a loop walks it): read, never written while it is so -/
  | frz (o : Obj) (u : HO)
  /-- a code object's table -/
  | tbl (ps : Array Value)
  /-- any other thing, by what is true of its one object (a def of one's own: SetO a S n := HO.ext fun h => ..) -/
  | ext (φ : Heap → Prop)

abbrev Hp := Addr → Option HO
def upd (H : Hp) (a : Addr) (o : HO) : Hp := fun b => if b = a then some o else H b
theorem upd_same {H : Hp} {a : Addr} {o : HO} : upd H a o a = some o := by unfold upd; rw [if_pos rfl]
theorem upd_ne {H : Hp} {a b : Addr} {o : HO} (h : b ≠ a) : upd H a o b = H b := by unfold upd; rw [if_neg h]
theorem ne_of {H : Hp} {a b : Addr} {o u : HO} (h : H a = some o) (h' : H b = some u) (d : o ≠ u) : a ≠ b := by
  intro e; subst e; rw [h] at h'; exact d (Option.some.inj h')
theorem ne_of_none {H : Hp} {a b : Addr} {o : HO} (h : H a = some o) (h' : H b = none) : a ≠ b := by
  intro e; subst e; rw [h] at h'; cases h'

section
variable (P : Program) (w : World)
def ObjOk (H : Hp) (h : Heap) (a : Addr) : HO → Prop
  | .lst xs => xs.length ≤ sizeLine ∧ ∃ (its : List Value) (n : Nat), Vals xs its ∧ h.get? a = some { cls := .type "list", data := .seq its.toArray n }
  | .tup xs => xs.length ≤ sizeLine ∧ ∃ its : List Value, Vals xs its ∧ IsTup h a its.toArray
  | .dK kvs => kvs.length ≤ sizeLine ∧ (a == sysModules) = false ∧ ∃ vs, KV kvs vs ∧ h.DictOf (mixKind P w) a vs
  | .dT kvs => kvs.length ≤ sizeLine ∧ (a == sysModules) = false ∧ ∃ xs : List (List Key × Addr × Value),
      Paired (fun (p : List Key × V) (q : List Key × Addr × Value) => p.1 = q.1 ∧ H q.2.1 = some (.tup (p.1.map kV)) ∧ RelV p.2 q.2.2) kvs xs ∧
      ∃ o es ep, h.get? a = some o ∧ o.ExactDict ∧ o.data = .dict es ep ∧ es.toList = xs.map (entryOfKey (tupleKind (mixKind P w))) ∧ (xs.map (·.1)).Nodup
  | .set S n => h.SetOf (intKind P w) a S n
  | .ins C dx fs => H dx = some (.own a) ∧ fs.length ≤ 1000 ∧ dx ≠ a ∧ h.get? a = some (PySem.W.instObj C dx) ∧
      ∃ mA, h.Ns1 dx mA ∧ (∀ f, RelO (fs.lookup f) (mA f)) ∧ PySem.Within mA (fs.map (·.1))
  | .own _ => ∃ o, h.get? a = some o
  | .xd fs => ∃ mA, h.Ns1 a mA ∧ ∀ f, RelO (fs.lookup f) (mA f)
  | .rng lo hi => ∃ t u v, h.get? a = some { cls := .type "range", data := .fields #[.int lo t, .int hi u, .int 1 v] }
  | .frz o u => h.get? a = some o ∧ ObjOk H h a u
  | .tbl ps => h.get? a = some { cls := .none, data := .fields ps }
  | .met f x => h.get? a = some (PySem.W.methodObj (.ref f) (.ref x))
  | .ext φ => φ h ∧ (∃ o, h.get? a = some o) ∧ ∀ h1 h2 : Heap, φ h1 → (∀ o, h1.get? a = some o → h2.get? a = some o) → φ h2
def HOk (H : Hp) (h : Heap) : Prop := ∀ a o, H a = some o → ObjOk P w H h a o
end

section
variable {P : Program} {w : World} {H H' : Hp} {h h' : Heap} {a : Addr} {o : HO}
theorem ObjOk.lt (x : ObjOk P w H h a o) : a < h.objs.size := by
  cases o with
  | lst xs => obtain ⟨_, _, _, _, e⟩ := x; exact Heap.lt_size e
  | tup xs => obtain ⟨_, _, _, p⟩ := x; exact p.lt
  | dK kvs => obtain ⟨_, _, _, _, o, _, _, e, _⟩ := x; exact Heap.lt_size e
  | dT kvs => obtain ⟨_, _, _, _, o, _, _, e, _⟩ := x; exact Heap.lt_size e
  | set S n => obtain ⟨o, _, _, _, e, _⟩ := x; exact Heap.lt_size e
  | ins C dx fs => obtain ⟨_, _, _, e, _⟩ := x; exact Heap.lt_size e
  | own y => obtain ⟨_, e⟩ := x; exact Heap.lt_size e
  | xd fs => obtain ⟨_, ⟨_, _, _, e, _⟩, _⟩ := x; exact Heap.lt_size e
  | rng lo hi => obtain ⟨_, _, _, e⟩ := x; exact Heap.lt_size e
  | frz ob u => obtain ⟨e, _⟩ := x; exact Heap.lt_size e
  | tbl ps => exact Heap.lt_size (show h.get? a = some _ from x)
  | met f y => exact Heap.lt_size (show h.get? a = some _ from x)
  | ext φ => obtain ⟨_, ⟨_, e⟩, _⟩ := x; exact Heap.lt_size e
theorem Paired.mapP {α β : Type} {F G : α → β → Prop} : ∀ {l₁ : List α} {l₂ : List β}, Paired F l₁ l₂ → (∀ a b, F a b → G a b) → Paired G l₁ l₂
  | _, _, .nil, _ => .nil
  | _, _, .cons r t, f => .cons (f _ _ r) (Paired.mapP t f)
theorem Paired.imp' {α β : Type} {F G : α → β → Prop} (f : ∀ a b, F a b → G a b) {l₁ : List α} {l₂ : List β} (r : Paired F l₁ l₂) : Paired G l₁ l₂ := Paired.mapP r f
theorem ObjOk.stay (x : ObjOk P w H h a o) (k : ∀ b u, (b = a ∨ H b = some (.own a)) → h.get? b = some u → h'.get? b = some u)
    (ho : ∀ b, H b = some (.own a) → H' b = some (.own a)) (ht : ∀ b xs, H b = some (.tup xs) → H' b = some (.tup xs)) : ObjOk P w H' h' a o := by
  induction o with
  | lst xs => obtain ⟨z, its, n, r, e⟩ := x; exact ⟨z, its, n, r, k _ _ (.inl rfl) e⟩
  | tup xs => obtain ⟨z, its, r, ob, e, c⟩ := x; exact ⟨z, its, r, ob, k _ _ (.inl rfl) e, c⟩
  | dK kvs => obtain ⟨z, y, vs, r, ob, es, ep, e, c⟩ := x; exact ⟨z, y, vs, r, ob, es, ep, k _ _ (.inl rfl) e, c⟩
  | dT kvs =>
    obtain ⟨z, y, xs, r, ob, es, ep, e, c⟩ := x
    exact ⟨z, y, xs, Paired.mapP r fun p q z => ⟨z.1, ht _ _ z.2.1, z.2.2⟩, ob, es, ep, k _ _ (.inl rfl) e, c⟩
  | set S n => obtain ⟨ob, es, ep, t, e, c⟩ := x; exact ⟨ob, es, ep, t, k _ _ (.inl rfl) e, c⟩
  | ins C dx fs =>
    obtain ⟨d, z, ne, e, mA, ⟨od, es, ep, e2, c⟩, r⟩ := x
    exact ⟨ho _ d, z, ne, k _ _ (.inl rfl) e, mA, ⟨od, es, ep, k _ _ (.inr d) e2, c⟩, r⟩
  | own y => obtain ⟨ob, e⟩ := x; exact ⟨ob, k _ _ (.inl rfl) e⟩
  | xd fs => obtain ⟨mA, ⟨od, es, ep, e, c⟩, r⟩ := x; exact ⟨mA, ⟨od, es, ep, k _ _ (.inl rfl) e, c⟩, r⟩
  | rng lo hi => obtain ⟨t, u, v, e⟩ := x; exact ⟨t, u, v, k _ _ (.inl rfl) e⟩
  | frz ob u ih => obtain ⟨e, q⟩ := x; exact ⟨k _ _ (.inl rfl) e, ih q⟩
  | tbl ps =>
    have e : h.get? a = some { cls := .none, data := .fields ps } := x
    show h'.get? a = some { cls := .none, data := .fields ps }
    exact k a _ (.inl rfl) e
  | met f y =>
    have e : h.get? a = some (PySem.W.methodObj (.ref f) (.ref y)) := x
    show h'.get? a = some (PySem.W.methodObj (.ref f) (.ref y))
    exact k a _ (.inl rfl) e
  | ext φ => obtain ⟨p, ⟨o, e⟩, st⟩ := x; exact ⟨st _ _ p fun o q => k _ _ (.inl rfl) q, ⟨o, k _ _ (.inl rfl) e⟩, st⟩
theorem HOk.lt (x : HOk P w H h) (e : H a = some o) : a < h.objs.size := (x a o e).lt
theorem HOk.fresh (x : HOk P w H h) (e : h.objs.size ≤ a) : H a = none := by
  cases q : H a with
  | none => rfl
  | some u => exact absurd (Nat.lt_of_lt_of_le (x.lt q) e) (Nat.lt_irrefl _)
theorem HOk.kept (x : HOk P w H h) (k : ∀ b u, h.get? b = some u → h'.get? b = some u) : HOk P w H h' := fun a o e =>
  (x a o e).stay (fun b u _ q => k b u q) (fun _ q => q) fun _ _ q => q
theorem HOk.laid (x : HOk P w H h) (k : ∀ b u, h.get? b = some u → h'.get? b = some u) (hp : h.objs.size ≤ a) (new : ObjOk P w (upd H a o) h' a o) : HOk P w (upd H a o) h' := fun b u e => by
  have hn := x.fresh hp
  by_cases hb : b = a
  · subst hb; rw [upd_same] at e; cases e; exact new
  · rw [upd_ne hb] at e
    exact (x b u e).stay (fun c v _ q => k c v q) (fun c q => by rw [upd_ne (ne_of_none q hn)]; exact q) fun c xs q => by rw [upd_ne (ne_of_none q hn)]; exact q
end

def Rd (H : Hp) (a : Addr) (u : HO) : Prop := H a = some u ∨ ∃ o, H a = some (.frz o u)
theorem Rd.ok {P : Program} {w : World} {H : Hp} {h : Heap} {a : Addr} {u : HO} (r : Rd H a u) (x : HOk P w H h) : ObjOk P w H h a u := by
  rcases r with r | ⟨o, r⟩
  · exact x a u r
  · obtain ⟨_, q⟩ := x a _ r
    exact q
def Mut : Option HO → Prop
  | some (.lst _) => True
  | some (.dK _) => True
  | some (.dT _) => True
  | some (.set _ _) => True
  | some (.ins _ _ _) => True
  | some (.ext _) => True
  | _ => False
section
variable {P : Program} {w : World} {H : Hp} {h h' : Heap} {x e : Addr} {o' : HO}
theorem HOk.write (ok : HOk P w H h) (mu : Mut (H x)) (he : e = x ∨ H e = some (.own x)) (k : ∀ b u, b ≠ e → h.get? b = some u → h'.get? b = some u) (heo : ∃ u, h'.get? e = some u)
    (new : ObjOk P w (upd H x o') h' x o') : HOk P w (upd H x o') h' := fun b u q => by
  have nown : ∀ c y, H c = some (.own y) → c ≠ x := fun c y r z => by subst z; rw [r] at mu; exact mu
  have ntup : ∀ c xs, H c = some (.tup xs) → c ≠ x := fun c xs r z => by subst z; rw [r] at mu; exact mu
  by_cases hb : b = x
  · subst hb; rw [upd_same] at q; cases q; exact new
  · rw [upd_ne hb] at q
    by_cases hbe : b = e
    · have q' : H b = some (.own x) := by
        rcases he with z | z
        · exact absurd (hbe.trans z) hb
        · rw [hbe]; exact z
      rw [q] at q'; cases q'
      obtain ⟨v, hv⟩ := heo
      exact ⟨v, by rw [hbe]; exact hv⟩
    · refine (ok b u q).stay (fun c v hc r => k c v ?_ r) (fun c r => by rw [upd_ne (nown c b r)]; exact r) fun c xs r => by rw [upd_ne (ntup c xs r)]; exact r
      rcases hc with rfl | hc
      · exact hbe
      · rintro rfl
        rcases he with z | z
        · exact nown c b hc z
        · rw [hc] at z; cases z; exact hb rfl
end

/-! ### kept unless tracked; of the frames at fs (the callers') the slots may change (an exception that passes writes there); of the records at ex (iterators) nothing is said -/
structure Un (fs ex : List Addr) (H H' : Hp) (h h' : Heap) : Prop where
  keep : ∀ b o, h.get? b = some o → H b = none → b ∉ fs → b ∉ ex → h'.get? b = some o
  slot : ∀ b o, h.get? b = some o → H b = none → b ∈ fs → b ∉ ex → ∃ sl, h'.get? b = some { o with slots := sl }
  free : ∀ b o, h.get? b = some o → H b = none → b ∉ ex → H' b = none
  there : ∀ b o, h.get? b = some o → b ∉ ex → ∃ o', h'.get? b = some o'
  tups : ∀ b xs, H b = some (.tup xs) → H' b = some (.tup xs)
  frzs : ∀ b o u, H b = some (.frz o u) → H' b = some (.frz o u)
  tbls : ∀ b ps, H b = some (.tbl ps) → ∃ more, H' b = some (.tbl (ps ++ more))
section
variable {fs fs' ex ex' : List Addr} {H H1 H2 : Hp} {h h1 h2 h' : Heap} {a x e : Addr} {o : HO}
theorem Un.any (u : Un fs ex H H1 h h1) {b : Addr} {ob : Obj} (q : h.get? b = some ob) (n : H b = none) (hx : b ∉ ex) : ∃ sl, h1.get? b = some { ob with slots := sl } := by
  by_cases hb : b ∈ fs
  · exact u.slot b ob q n hb hx
  · exact ⟨ob.slots, u.keep b ob q n hb hx⟩
theorem Un.kept (k : ∀ b u, h.get? b = some u → h'.get? b = some u) : Un fs ex H H h h' :=
  ⟨fun b ob q _ _ _ => k b ob q, fun b ob q _ _ _ => ⟨ob.slots, k b ob q⟩, fun _ _ _ n _ => n, fun b ob q _ => ⟨ob, k b ob q⟩, fun _ _ q => q, fun _ _ _ q => q, fun _ ps q => ⟨#[], by rw [q]; simp⟩⟩
theorem Un.refl : Un fs ex H H h h := Un.kept fun _ _ q => q
theorem Un.laid (k : ∀ b u, h.get? b = some u → h'.get? b = some u) (hp : h.objs.size ≤ a) (hn : H a = none) : Un fs ex H (upd H a o) h h' where
  keep := fun b u q _ _ _ => k b u q
  slot := fun b u q _ _ _ => ⟨u.slots, k b u q⟩
  free := fun b u q n _ => by rw [upd_ne (Nat.ne_of_lt (Nat.lt_of_lt_of_le (Heap.lt_size q) hp))]; exact n
  there := fun b u q _ => ⟨u, k b u q⟩
  tups := fun b xs q => by rw [upd_ne (ne_of_none q hn)]; exact q
  frzs := fun b u xs q => by rw [upd_ne (ne_of_none q hn)]; exact q
  tbls := fun b ps q => ⟨#[], by rw [upd_ne (ne_of_none q hn), q]; simp⟩
theorem Un.write (mu : Mut (H x)) (he : e = x ∨ H e = some (.own x)) (k : ∀ b u, b ≠ e → h.get? b = some u → h'.get? b = some u) (heo : ∃ u, h'.get? e = some u) : Un fs ex H (upd H x o) h h' := by
  have hx : ∀ b, H b = none → b ≠ x := fun b n z => by subst z; rw [n] at mu; exact mu
  have hb : ∀ b, H b = none → b ≠ e := fun b n z => by
    subst z
    rcases he with r | r
    · exact hx b n r
    · rw [n] at r; cases r
  have hm : ∀ b u, H b = some u → ¬ Mut (some u) → b ≠ x := fun b u q nm z => by subst z; rw [q] at mu; exact nm mu
  refine ⟨fun b u q n _ _ => k b u (hb b n) q, fun b u q n _ _ => ⟨u.slots, k b u (hb b n) q⟩, fun b u q n _ => by rw [upd_ne (hx b n)]; exact n, fun b u q _ => ?_,
    fun b xs q => by rw [upd_ne (hm b _ q fun z => z)]; exact q, fun b u xs q => by rw [upd_ne (hm b _ q fun z => z)]; exact q, fun b ps q => ⟨#[], by rw [upd_ne (hm b _ q fun z => z), q]; simp⟩⟩
  by_cases hbe : b = e
  · subst hbe; exact heo
  · exact ⟨u, k b u hbe q⟩
end

/-! ### the heap without what is tracked -/
def trk (h : Heap) (H : Hp) : List Addr := (List.range h.objs.size).filter fun a => (H a).isSome
def hidT (h : Heap) (H : Hp) : Heap := PySem.W.hideAll h (trk h H)
theorem hidT_size (h : Heap) (H : Hp) : (hidT h H).objs.size = h.objs.size := PySem.W.hideAll_size _ _
theorem hidT_get {h : Heap} {H : Hp} {b : Addr} {o : Obj} (e : h.get? b = some o) (n : H b = none) : (hidT h H).get? b = some o :=
  PySem.W.hideAll_get _ e fun hm => by
    have q : (H b).isSome = true := (List.mem_filter.mp hm).2
    rw [n] at q; simp at q
theorem of_hidT {h : Heap} {H : Hp} {b : Addr} {o : Obj} (e : (hidT h H).get? b = some o) : h.get? b = some o ∧ H b = none := by
  have e' : h.get? b = some o := PySem.W.of_hideAll (trk h H) e
  refine ⟨e', ?_⟩
  cases q : H b with
  | none => rfl
  | some x =>
    have hm : b ∈ trk h H := List.mem_filter.mpr ⟨List.mem_range.mpr (Heap.lt_size e'), by simp [q]⟩
    have z : (hidT h H).get? b = none := PySem.W.hideAll_none (trk h H) hm
    rw [z] at e; cases e

/-! ### OpenK's ledger, filled with every new object but one -/
end L2

namespace L2
open PySem PySem.Spec PyProof.Rows

structure Mod (K : PySem.W.Frag) (mg : Str → Option Value) (base : Heap) : Prop where
  kin : K.In base
  glob : base.Ns mainGlobals mg
  blt : ∃ mb, base.Ns builtinsNs mb ∧ ∀ x : Str, x ≠ "__name__" → mb x = bootBuiltins x
  nolimit : base.NoLimit

/-- the context: a def's body (or a comprehension's block) running. base: fixed through the whole law; s₀, H₀: the entry; outer: the frames whose slots others may change (a def's callers); stack: all frames that run;
   ex: iterators that were made ahead of the entry and are walked here (a comprehension's); fn: the names whose cells were made at the entry (a def: all; a comprehension's block: its own); calm: not within an except suite; pn: pins that every state bears; xe: what is wanted of an exception that leaves the code -/
structure Cx where
  prog : Program
  w : World
  K : PySem.W.Frag
  mg : Str → Option Value
  base : Heap
  A : Around
  N : List Str
  s₀ : Shared
  H₀ : Hp
  env : Env
  outer : List Env
  stack : List Env
  ex : List Addr
  fn : Str → Bool
  calm : Bool
  pn : List (Addr × Obj)
  xe : Value → Shared → Prop
def frs (l : List Env) : List Addr := l.filterMap (·.frame)
abbrev Cx.fs (X : Cx) : List Addr := frs X.outer

def Vis (sc : Scope) (x : Str) : Prop := sc.names.lookup x = some .local ∨ sc.names.lookup x = some .cell ∨ sc.names.lookup x = some .free
def Loc (sc : Scope) (x : Str) : Prop := sc.names.lookup x = some .local ∨ sc.names.lookup x = some .cell
def Look (env : Env) (h : Heap) (m : Str → Option Value) (x : Str) (u : Value) : Prop :=
  (env.kindOf x = some .local ∧ m x = some u) ∨ ((env.kindOf x = some .cell ∨ env.kindOf x = some .free) ∧ ∃ c, env.cells.lookup x = some c ∧ h.IsCell c (some u))

structure Cx.Ok (X : Cx) : Prop where
  mod : Mod X.K X.mg X.base
  kind : X.env.scope.kind = .function
  glob : X.env.globals = mainGlobals
  blt : X.env.builtins = builtinsNs
  above : X.s₀.heap.objs.size ≤ X.env.locals
  inj : ∀ x y c, X.env.cells.lookup x = some c → X.env.cells.lookup y = some c → x = y
  has : ∀ x, (X.env.kindOf x = some .cell ∨ X.env.kindOf x = some .free) → ∃ c, X.env.cells.lookup x = some c
  cab : ∀ x c, X.fn x = true → X.env.cells.lookup x = some c → X.s₀.heap.objs.size ≤ c
  hd : X.calm = true → X.A.handled = none
  frames : X.A.frames = some X.stack
  stk : X.stack = X.outer ∨ (X.stack = X.env :: X.outer ∧ X.env.frame = some X.env.locals)
  exf : ∀ b ∈ X.ex, b ≠ X.env.locals ∧ ∀ x c, X.env.cells.lookup x = some c → c ≠ b
  bs : ∀ b o, X.base.get? b = some o → X.s₀.heap.get? b = some o ∧ X.H₀ b = none
  bsz : X.base.objs.size ≤ X.s₀.heap.objs.size
  noex : ∀ b o, X.base.get? b = some o → b ∉ X.ex
  exfs : ∀ b ∈ X.ex, b ∉ X.fs
  funs : X.s₀.heap.FunFrames X.base X.outer
  frf : ∀ b ∈ X.fs, X.H₀ b = none

structure Inv (X : Cx) (pins : List (Addr × Obj)) (σ : List (Option V)) (H : Hp) (s : Shared) : Prop where
  ok : X.Ok
  os : s.os = X.s₀.os
  bare : AllBare s.gens
  base : Un X.fs X.ex X.H₀ H X.s₀.heap s.heap
  loc : ∃ m, s.heap.Ns X.env.locals m ∧ ∀ (i : Nat) (x : Str) (v : V), X.N[i]? = some x → σ[i]? = some (some v) → Vis X.env.scope x → ∃ u, RelV v u ∧ Look X.env s.heap m x u
  cell : ∀ x c, X.env.cells.lookup x = some c → ∃ v, s.heap.IsCell c v
  free : H X.env.locals = none
  freeC : ∀ x c, X.env.cells.lookup x = some c → H c = none
  pin : ∀ p ∈ X.pn ++ pins, s.heap.get? p.1 = some p.2 ∧ H p.1 = none ∧ p.1 ≠ X.env.locals ∧ p.1 ∉ X.fs ∧ ∀ v, p.2.data ≠ .cell v
  hok : HOk X.prog X.w H s.heap
  len : σ.length = X.N.length

section
variable {X : Cx} {pins : List (Addr × Obj)} {σ : List (Option V)} {H H' : Hp} {s : Shared} {h' : Heap}

theorem Cx.Ok.nofr (ok : X.Ok) {b : Addr} {o : Obj} (e : X.base.get? b = some o) : b ∉ X.fs := fun hb => by
  have := (ok.funs.mem hb).1
  rw [e] at this; cases this
theorem Inv.bs (I : Inv X pins σ H s) : ∀ b o, X.base.get? b = some o → s.heap.get? b = some o ∧ H b = none := fun b o e =>
  ⟨I.base.keep b o (I.ok.bs b o e).1 (I.ok.bs b o e).2 (I.ok.nofr e) (I.ok.noex b o e), I.base.free b o (I.ok.bs b o e).1 (I.ok.bs b o e).2 (I.ok.noex b o e)⟩
theorem Inv.bk (I : Inv X pins σ H s) : ∀ b o, X.base.get? b = some o → s.heap.get? b = some o := fun b o e => (I.bs b o e).1
theorem Inv.mod (I : Inv X pins σ H s) : Mod X.K X.mg X.base := I.ok.mod
theorem Inv.kIn (I : Inv X pins σ H s) : X.K.In s.heap := I.ok.mod.kin.keeps I.bk
theorem Inv.lt (I : Inv X pins σ H s) : X.env.locals < s.heap.objs.size := let ⟨_, hn, _⟩ := I.loc; hn.lt
theorem Inv.sz (I : Inv X pins σ H s) : X.s₀.heap.objs.size ≤ s.heap.objs.size := Nat.le_trans I.ok.above (Nat.le_of_lt I.lt)
theorem Inv.nofs (I : Inv X pins σ H s) {a : Addr} (h : s.heap.objs.size ≤ a) : a ∉ X.fs := fun hb => by
  obtain ⟨_, o, ho, _⟩ := I.ok.funs.mem hb
  exact absurd (Nat.lt_of_lt_of_le (Heap.lt_size ho) (Nat.le_trans I.sz h)) (Nat.lt_irrefl _)
theorem Inv.cne (I : Inv X pins σ H s) : ∀ x c, X.env.cells.lookup x = some c → c ≠ X.env.locals := fun x c e z => by
  obtain ⟨v, o, ho, hd⟩ := I.cell x c e
  obtain ⟨m, ⟨o', es, ep, ho', hd', _⟩, _⟩ := I.loc
  rw [z, ho'] at ho; cases ho; rw [hd'] at hd; cases hd
theorem Inv.funs (I : Inv X pins σ H s) : s.heap.FunFrames X.base X.outer := by
  have all : ∀ (l : List Env), (∀ b ∈ frs l, b ∈ X.fs) → X.s₀.heap.FunFrames X.base l → s.heap.FunFrames X.base l := by
    intro l
    induction l with
    | nil => intro _ _; trivial
    | cons env r ih =>
      intro hs hl
      obtain ⟨hk, ⟨L, o, hf, hn, ho, hd⟩, hr⟩ := hl
      have hL : L ∈ X.fs := hs L (by unfold frs; rw [List.filterMap_cons, hf]; exact List.mem_cons_self)
      obtain ⟨sl, e⟩ := I.base.slot L o ho (I.ok.frf L hL) hL fun z => I.ok.exfs L z hL
      exact ⟨hk, ⟨L, _, hf, hn, e, hd⟩, ih (fun b hb => hs b (by unfold frs; rw [List.filterMap_cons, hf]; exact List.mem_cons_of_mem _ hb)) hr⟩
  exact all X.outer (fun _ hb => hb) I.ok.funs

theorem Inv.stack (I : Inv X pins σ H s) : s.heap.FunFrames X.base X.stack := by
  rcases I.ok.stk with e | ⟨e, hf⟩
  · rw [e]; exact I.funs
  · rw [e]
    obtain ⟨m, hn, _⟩ := I.loc
    refine .cons (by rw [I.ok.kind]; decide) hf hn ?_ I.funs
    exact Heap.get?_none_of_le (Nat.le_trans I.ok.bsz I.ok.above)
theorem Inv.stkSub (I : Inv X pins σ H s) : ∀ b ∈ frs X.stack, b ∈ X.env.locals :: X.fs := fun b hb => by
  rcases I.ok.stk with e | ⟨e, hf⟩
  · rw [e] at hb; exact List.mem_cons_of_mem _ hb
  · rw [e] at hb
    unfold frs at hb
    rw [List.filterMap_cons, hf] at hb
    exact hb
theorem Inv.stkFree (I : Inv X pins σ H s) : ∀ b ∈ frs X.stack, H b = none := fun b hb => by
  rcases List.mem_cons.mp (I.stkSub b hb) with e | hb
  · rw [e]; exact I.free
  · obtain ⟨_, o, ho, _⟩ := I.ok.funs.mem hb
    exact I.base.free b o ho (I.ok.frf b hb) fun z => I.ok.exfs b z hb

theorem Inv.step {g' : Array GenState} {t' : Nat} {d' : Drawn} {ch : List Addr} (I : Inv X pins σ H s)
    (hch : ∀ b ∈ ch, (b ∈ X.ex ∨ X.s₀.heap.objs.size ≤ b) ∧ b ≠ X.env.locals ∧ (∀ x c, X.env.cells.lookup x = some c → c ≠ b) ∧ ∀ p ∈ X.pn ++ pins, p.1 ≠ b)
    (keep : ∀ b o, b ≠ X.env.locals → b ∉ X.fs → b ∉ ch → s.heap.get? b = some o → H b = none → h'.get? b = some o)
    (slot : ∀ b o, b ≠ X.env.locals → b ∈ X.fs → b ∉ ch → s.heap.get? b = some o → H b = none → ∃ sl, h'.get? b = some { o with slots := sl }) (free : ∀ b o, b ∉ ch → s.heap.get? b = some o → H b = none → H' b = none)
    (there : ∀ b o, b ∉ ch → s.heap.get? b = some o → ∃ o', h'.get? b = some o')
    (tups : ∀ b xs, H b = some (.tup xs) → H' b = some (.tup xs)) (frzs : ∀ b o u, H b = some (.frz o u) → H' b = some (.frz o u)) (tbls : ∀ b ps, H b = some (.tbl ps) → ∃ more, H' b = some (.tbl (ps ++ more)))
    (ns : ∀ m, s.heap.Ns X.env.locals m → h'.Ns X.env.locals m) (hok : HOk X.prog X.w H' h') (hg : AllBare g') :
    Inv X pins σ H' { s with heap := h', gens := g', drawn := d', toks := t' } := by
  have neL : ∀ b o, X.s₀.heap.get? b = some o → b ≠ X.env.locals := fun b o e => Nat.ne_of_lt (Nat.lt_of_lt_of_le (Heap.lt_size e) I.ok.above)
  have neC : ∀ b o, X.s₀.heap.get? b = some o → b ∉ X.ex → b ∉ ch := fun b o e hx hb => by
    rcases (hch b hb).1 with z | z
    · exact hx z
    · exact absurd (Nat.lt_of_lt_of_le (Heap.lt_size e) z) (Nat.lt_irrefl _)
  have cellK : ∀ x c, X.env.cells.lookup x = some c → ∀ v, s.heap.IsCell c v → h'.IsCell c v := fun x c e v ⟨o, ho, hd⟩ => by
    have nch : c ∉ ch := fun z => (hch c z).2.2.1 x c e rfl
    by_cases hc : c ∈ X.fs
    · obtain ⟨sl, q⟩ := slot c o (I.cne x c e) hc nch ho (I.freeC x c e)
      exact ⟨_, q, hd⟩
    · exact ⟨o, keep c o (I.cne x c e) hc nch ho (I.freeC x c e), hd⟩
  refine ⟨I.ok, I.os, hg, ⟨fun b o e n hb hx => ?_, fun b o e n hb hx => ?_, fun b o e n hx => ?_, fun b o e hx => ?_, fun b xs e => tups b xs (I.base.tups b xs e), fun b o xs e => frzs b o xs (I.base.frzs b o xs e), fun b ps e => ?_⟩, ?_, fun x c e => ?_, ?_, fun x c e => ?_, fun p hp => ?_, hok, I.len⟩
  · exact keep b o (neL b o e) hb (neC b o e hx) (I.base.keep b o e n hb hx) (I.base.free b o e n hx)
  · obtain ⟨sl, e1⟩ := I.base.slot b o e n hb hx
    obtain ⟨sl', e2⟩ := slot b _ (neL b o e) hb (neC b o e hx) e1 (I.base.free b o e n hx)
    exact ⟨sl', e2⟩
  · obtain ⟨o', e1⟩ := I.base.there b o e hx
    exact free b o' (neC b o e hx) e1 (I.base.free b o e n hx)
  · obtain ⟨o', e1⟩ := I.base.there b o e hx
    exact there b o' (neC b o e hx) e1
  · obtain ⟨m1, e1⟩ := I.base.tbls b ps e
    obtain ⟨m2, e2⟩ := tbls b _ e1
    exact ⟨m1 ++ m2, by rw [e2, Array.append_assoc]⟩
  · obtain ⟨m, hn, hl⟩ := I.loc
    refine ⟨m, ns m hn, fun i x v e1 e2 e3 => ?_⟩
    obtain ⟨u, r, l⟩ := hl i x v e1 e2 e3
    refine ⟨u, r, ?_⟩
    rcases l with l | ⟨k, c, e, z⟩
    · exact .inl l
    · exact .inr ⟨k, c, e, cellK x c e _ z⟩
  · obtain ⟨v, z⟩ := I.cell x c e
    exact ⟨v, cellK x c e v z⟩
  · obtain ⟨m, ⟨o, _, _, ho, _⟩, _⟩ := I.loc
    exact free _ o (fun z => (hch _ z).2.1 rfl) ho I.free
  · obtain ⟨v, o, ho, hd⟩ := I.cell x c e
    exact free c o (fun z => (hch c z).2.2.1 x c e rfl) ho (I.freeC x c e)
  · obtain ⟨e, n, ne, nf, d⟩ := I.pin p hp
    have nch : p.1 ∉ ch := fun z => (hch p.1 z).2.2.2 p hp rfl
    exact ⟨keep p.1 p.2 ne nf nch e n, free p.1 p.2 nch e n, ne, nf, d⟩
theorem Inv.un {t' : Nat} (I : Inv X pins σ H s) (u : Un X.fs [] H H' s.heap h') (hok : HOk X.prog X.w H' h') : Inv X pins σ H' { s with heap := h', toks := t' } := by
  obtain ⟨m, ⟨o, es, ep, ho, r⟩, _⟩ := id I.loc
  obtain ⟨sl, hL⟩ := u.any ho I.free (by simp)
  exact I.step (g' := s.gens) (d' := s.drawn) (ch := []) (fun _ z => nomatch z) (fun b o _ hb _ e n => u.keep b o e n hb (by simp)) (fun b o _ hb _ e n => u.slot b o e n hb (by simp)) (fun b o _ e n => u.free b o e n (by simp)) (fun b o _ e => u.there b o e (by simp)) u.tups u.frzs u.tbls (fun m' hm => by
    obtain ⟨o', es', ep', ho', r'⟩ := hm
    rw [ho] at ho'; cases ho'
    exact ⟨_, es', ep', hL, r'⟩) hok I.bare
theorem Inv.call {g' : Array GenState} {t' : Nat} {d' : Drawn} {ch : List Addr} (I : Inv X pins σ H s) (u : Un (frs X.stack) ch H H' s.heap h') (hok : HOk X.prog X.w H' h') (hg : AllBare g')
    (hch : ∀ b ∈ ch, (b ∈ X.ex ∨ X.s₀.heap.objs.size ≤ b) ∧ b ≠ X.env.locals ∧ (∀ x c, X.env.cells.lookup x = some c → c ≠ b) ∧ ∀ p ∈ X.pn ++ pins, p.1 ≠ b) :
    Inv X pins σ H' { s with heap := h', gens := g', drawn := d', toks := t' } := by
  obtain ⟨m, ⟨o, es, ep, ho, r⟩, _⟩ := id I.loc
  obtain ⟨sl, hL⟩ := u.any ho I.free fun z => (hch _ z).2.1 rfl
  exact I.step (ch := ch) hch (fun b o hL hb hc e n => u.keep b o e n (fun z => (List.mem_cons.mp (I.stkSub b z)).elim hL hb) hc) (fun b o _ _ hc e n => u.any e n hc) (fun b o hc e n => u.free b o e n hc) (fun b o hc e => u.there b o e hc) u.tups u.frzs u.tbls (fun m' hm => by
    obtain ⟨o', es', ep', ho', r'⟩ := hm
    rw [ho] at ho'; cases ho'
    exact ⟨_, es', ep', hL, r'⟩) hok hg
theorem Inv.turned {t' : Nat} {it : Addr} (I : Inv X pins σ H s) (k : ∀ b o, b ≠ it → s.heap.get? b = some o → h'.get? b = some o) (hn : H it = none) (hL : it ≠ X.env.locals)
    (h1 : it ∈ X.ex ∨ X.s₀.heap.objs.size ≤ it) (h2 : ∀ x c, X.env.cells.lookup x = some c → c ≠ it) (h3 : ∀ p ∈ X.pn ++ pins, p.1 ≠ it) : Inv X pins σ H { s with heap := h', toks := t' } := by
  have nit : ∀ b u, H b = some u → b ≠ it := fun b u e z => by rw [z, hn] at e; cases e
  refine I.step (g' := s.gens) (d' := s.drawn) (ch := [it]) (fun b hb => ?_) (fun b o _ _ hc e _ => k b o (fun z => hc (by simp [z])) e) (fun b o _ _ hc e _ => ⟨o.slots, k b o (fun z => hc (by simp [z])) e⟩) (fun _ _ _ _ n => n)
    (fun b o hc e => ⟨o, k b o (fun z => hc (by simp [z])) e⟩) (fun _ _ e => e) (fun _ _ _ e => e) (fun b ps e => ⟨#[], by rw [e]; simp⟩) (fun m hm => ?_) (fun b u e => ?_) I.bare
  · have e : b = it := by simpa using hb
    subst e
    exact ⟨h1, hL, h2, h3⟩
  · obtain ⟨o, es, ep, ho, r⟩ := hm
    exact ⟨o, es, ep, k _ o (Ne.symm hL) ho, r⟩
  · refine (I.hok b u e).stay (fun c v hc q => k c v ?_ q) (fun _ q => q) fun _ _ q => q
    rcases hc with z | z
    · rw [z]; exact nit b u e
    · exact nit c _ z
theorem Inv.tok (I : Inv X pins σ H s) (t : Nat) : Inv X pins σ H { s with toks := t } := I.un (h' := s.heap) (t' := t) Un.refl I.hok
theorem Inv.kept {t' : Nat} (I : Inv X pins σ H s) (k : ∀ b u, s.heap.get? b = some u → h'.get? b = some u) : Inv X pins σ H { s with heap := h', toks := t' } := I.un (Un.kept k) (I.hok.kept k)
theorem Inv.laid {a : Addr} {o : HO} {t' : Nat} (I : Inv X pins σ H s) (k : ∀ b u, s.heap.get? b = some u → h'.get? b = some u) (hp : s.heap.objs.size ≤ a) (new : ObjOk X.prog X.w (upd H a o) h' a o) :
    Inv X pins σ (upd H a o) { s with heap := h', toks := t' } := I.un (Un.laid k hp (I.hok.fresh hp)) (I.hok.laid k hp new)
theorem Inv.write {x e : Addr} {o : HO} {t' : Nat} (I : Inv X pins σ H s) (mu : Mut (H x)) (he : e = x ∨ H e = some (.own x)) (k : ∀ b u, b ≠ e → s.heap.get? b = some u → h'.get? b = some u) (heo : ∃ u, h'.get? e = some u)
    (new : ObjOk X.prog X.w (upd H x o) h' x o) : Inv X pins σ (upd H x o) { s with heap := h', toks := t' } := I.un (Un.write mu he k heo) (I.hok.write mu he k heo new)
theorem Inv.pins_of {pins' : List (Addr × Obj)} (I : Inv X pins σ H s) (h : ∀ p ∈ pins', s.heap.get? p.1 = some p.2 ∧ H p.1 = none ∧ p.1 ≠ X.env.locals ∧ p.1 ∉ X.fs ∧ ∀ v, p.2.data ≠ .cell v) : Inv X pins' σ H s :=
  ⟨I.ok, I.os, I.bare, I.base, I.loc, I.cell, I.free, I.freeC, fun p hp => (List.mem_append.mp hp).elim (fun z => I.pin p (List.mem_append_left _ z)) (h p), I.hok, I.len⟩

theorem nodup_ix {N : List Str} (hN : N.Nodup) {i j : Nat} {x : Str} (a : N[i]? = some x) (b : N[j]? = some x) : i = j := by
  obtain ⟨h1, e1⟩ := List.getElem?_eq_some_iff.mp a
  obtain ⟨h2, e2⟩ := List.getElem?_eq_some_iff.mp b
  exact (List.getElem_inj hN).mp (e1.trans e2.symm)

theorem store_ok2 {M : Model} {A : Around} {E : Value → Shared → Prop} {i : Nat} {x : Str} {v : V} {u : Value} {Q : Unit → Shared → Prop} (I : Inv X pins σ H s) (hN : X.N.Nodup) (hi : X.N[i]? = some x) (hx : Loc X.env.scope x) (r : RelV v u)
    (h : ∀ s', Inv X pins (σ.set i (some v)) H s' → (∃ a, Heap.SameBut a s.heap s'.heap ∧ (a = X.env.locals ∨ X.env.cells.lookup x = some a)) → Q () s') (hf : X.fn x = true ∨ X.env.scope.names.lookup x = some .local := by first | exact .inl rfl | exact .inr rfl | assumption) : wpAny M A (storeName X.env x u) Q E s := by
  obtain ⟨m, hn, hl⟩ := id I.loc
  have hcls : (X.env.scope.kind == .class || (X.env.scope.kind == .module && X.env.locals != X.env.globals)) = false := by rw [I.ok.kind]; rfl
  have hiσ : i < σ.length := by rw [I.len]; exact (List.getElem?_eq_some_iff.mp hi).1
  have cne := I.cne
  have tracked : ∀ {a : Addr} {h' : Heap}, (∃ o, s.heap.get? a = some o ∧ H a = none) → Heap.SameBut a s.heap h' → HOk X.prog X.w H h' := fun {a h'} ha hs b ob e => by
    obtain ⟨_, _, hfree⟩ := ha
    refine (I.hok b ob e).stay (fun c w' hc q => (hs.2 c ?_).trans q) (fun _ q => q) fun _ _ q => q
    rintro rfl
    rcases hc with rfl | hc
    · rw [hfree] at e; cases e
    · rw [hfree] at hc; cases hc
  rcases hx with hk | hk
  · refine wpAny_storeName_local hk hn (fun h' hn' hs => ?_) hcls
    obtain ⟨oL, _, _, hoL, _⟩ := id hn
    refine h _ ⟨I.ok, I.os, I.bare, ⟨fun b o e n hb hx => ?_, fun b o e n hb hx => ?_, I.base.free, fun b o e hx => ?_, I.base.tups, I.base.frzs, I.base.tbls⟩, ⟨_, hn', fun j y v' e1 e2 e3 => ?_⟩, fun y c e => ?_, I.free, I.freeC, fun p hp => ?_, tracked ⟨oL, hoL, I.free⟩ hs, by simpa using I.len⟩ ⟨_, hs, .inl rfl⟩
    · exact (hs.2 b (Nat.ne_of_lt (Nat.lt_of_lt_of_le (Heap.lt_size e) I.ok.above))).trans (I.base.keep b o e n hb hx)
    · obtain ⟨sl, e1⟩ := I.base.slot b o e n hb hx
      exact ⟨sl, (hs.2 b (Nat.ne_of_lt (Nat.lt_of_lt_of_le (Heap.lt_size e) I.ok.above))).trans e1⟩
    · obtain ⟨o', e1⟩ := I.base.there b o e hx
      exact ⟨o', (hs.2 b (Nat.ne_of_lt (Nat.lt_of_lt_of_le (Heap.lt_size e) I.ok.above))).trans e1⟩
    · by_cases hj : j = i
      · subst hj
        rw [hi] at e1; cases e1
        rw [List.getElem?_set_self hiσ] at e2
        cases e2
        exact ⟨u, r, .inl ⟨hk, by simp⟩⟩
      · rw [List.getElem?_set_ne (Ne.symm hj)] at e2
        obtain ⟨u', r', q⟩ := hl j y v' e1 e2 e3
        refine ⟨u', r', ?_⟩
        rcases q with ⟨k, e⟩ | ⟨k, c, e, z⟩
        · refine .inl ⟨k, ?_⟩
          have : y ≠ x := fun e => hj (nodup_ix hN e1 (e ▸ hi))
          simp [this, e]
        · exact .inr ⟨k, c, e, z.sameBut hs (cne y c e)⟩
    · obtain ⟨w', z⟩ := I.cell y c e
      exact ⟨w', z.sameBut hs (cne y c e)⟩
    · obtain ⟨e, n, ne, nf, d⟩ := I.pin p hp
      exact ⟨(hs.2 p.1 ne).trans e, n, ne, nf, d⟩
  · have hfn : X.fn x = true := by
      rcases hf with z | z
      · exact z
      · rw [z] at hk; cases hk
    obtain ⟨c, hc⟩ := I.ok.has x (.inl hk)
    obtain ⟨w', z⟩ := I.cell x c hc
    refine wpAny_storeName_cell I.ok.kind hk hc z (fun h' hc' hs => ?_)
    obtain ⟨oc, hoc, hocd⟩ := id z
    refine h { s with heap := h' } ⟨I.ok, I.os, I.bare, ⟨fun b o e n hb hx => ?_, fun b o e n hb hx => ?_, I.base.free, fun b o e hx => ?_, I.base.tups, I.base.frzs, I.base.tbls⟩, ⟨m, hn.sameBut hs (Ne.symm (cne x c hc)), fun j y v' e1 e2 e3 => ?_⟩, fun y c' e => ?_, I.free, I.freeC, fun p hp => ?_, tracked ⟨oc, hoc, I.freeC x c hc⟩ hs, by simpa using I.len⟩ ⟨c, hs, .inr hc⟩
    · exact (hs.2 b (Nat.ne_of_lt (Nat.lt_of_lt_of_le (Heap.lt_size e) (I.ok.cab x c hfn hc)))).trans (I.base.keep b o e n hb hx)
    · obtain ⟨sl, e1⟩ := I.base.slot b o e n hb hx
      exact ⟨sl, (hs.2 b (Nat.ne_of_lt (Nat.lt_of_lt_of_le (Heap.lt_size e) (I.ok.cab x c hfn hc)))).trans e1⟩
    · obtain ⟨o', e1⟩ := I.base.there b o e hx
      exact ⟨o', (hs.2 b (Nat.ne_of_lt (Nat.lt_of_lt_of_le (Heap.lt_size e) (I.ok.cab x c hfn hc)))).trans e1⟩
    · by_cases hj : j = i
      · subst hj
        rw [hi] at e1; cases e1
        rw [List.getElem?_set_self hiσ] at e2
        cases e2
        exact ⟨u, r, .inr ⟨.inl hk, c, hc, hc'⟩⟩
      · rw [List.getElem?_set_ne (Ne.symm hj)] at e2
        obtain ⟨u', r', q⟩ := hl j y v' e1 e2 e3
        refine ⟨u', r', ?_⟩
        rcases q with q | ⟨k, c', e, z'⟩
        · exact .inl q
        · refine .inr ⟨k, c', e, z'.sameBut hs ?_⟩
          rintro rfl
          exact hj (nodup_ix hN e1 (I.ok.inj _ _ _ e hc ▸ hi))
    · by_cases hcc : c' = c
      · subst hcc; exact ⟨_, hc'⟩
      · obtain ⟨w2, z2⟩ := I.cell y c' e
        exact ⟨w2, z2.sameBut hs hcc⟩
    · obtain ⟨e, n, ne, nf, d⟩ := I.pin p hp
      refine ⟨(hs.2 p.1 ?_).trans e, n, ne, nf, d⟩
      intro q
      rw [q, hoc] at e
      have q' : oc = p.2 := Option.some.inj e
      exact d w' (by rw [← q']; exact hocd)
theorem store_ok {M : Model} {A : Around} {E : Value → Shared → Prop} {i : Nat} {x : Str} {v : V} {u : Value} {Q : Unit → Shared → Prop} (I : Inv X pins σ H s) (hN : X.N.Nodup) (hi : X.N[i]? = some x) (hx : Loc X.env.scope x) (r : RelV v u)
    (h : ∀ s', Inv X pins (σ.set i (some v)) H s' → Q () s') (hf : X.fn x = true ∨ X.env.scope.names.lookup x = some .local := by first | exact .inl rfl | exact .inr rfl | assumption) : wpAny M A (storeName X.env x u) Q E s :=
  store_ok2 I hN hi hx r (fun s' I' _ => h s' I') hf
theorem Inv.call' {s' : Shared} {ch : List Addr} (I : Inv X pins σ H s) (ho : s'.os = s.os) (u : Un (frs X.stack) ch H H' s.heap s'.heap) (hok : HOk X.prog X.w H' s'.heap) (hg : AllBare s'.gens)
    (hch : ∀ b ∈ ch, (b ∈ X.ex ∨ X.s₀.heap.objs.size ≤ b) ∧ b ≠ X.env.locals ∧ (∀ x c, X.env.cells.lookup x = some c → c ≠ b) ∧ ∀ p ∈ X.pn ++ pins, p.1 ≠ b) : Inv X pins σ H' s' := by
  obtain ⟨h', g', d', t', o'⟩ := s'
  have e : o' = s.os := ho
  subst e
  exact I.call (g' := g') (t' := t') (d' := d') u hok hg hch
end

/-! ### the judgements -/
abbrev XK := Value → Option Addr → Hp → Prop
abbrev St := List (Option V)
abbrev VK := V → Hp → Prop
abbrev TE := St → Hp → VK → Prop
abbrev TT := St → Hp → (Bool → Hp → Prop) → Prop
abbrev TA := St → Hp → (List V → Hp → Prop) → Prop
structure Ends where
  nx : St → Hp → Prop
  rt : VK
  bk : St → Hp → Prop := fun _ _ => False
  ct : St → Hp → Prop := fun _ _ => False
abbrev TS := Ends → St → Hp → Prop

def EP (X : Cx) (pins : List (Addr × Obj)) (σ : St) (Q : VK) (u : Value) (s' : Shared) : Prop := ∃ v H', Inv X pins σ H' s' ∧ RelV v u ∧ Q v H'
def TP (X : Cx) (pins : List (Addr × Obj)) (σ : St) (Q : Bool → Hp → Prop) (b : Bool) (s' : Shared) : Prop := ∃ H', Inv X pins σ H' s' ∧ Q b H'
def AP (X : Cx) (pins : List (Addr × Obj)) (σ : St) (Q : List V → Hp → Prop) (us : List Value) (s' : Shared) : Prop := ∃ vs H', Inv X pins σ H' s' ∧ Vals vs us ∧ Q vs H'
def SP (X : Cx) (pins : List (Addr × Obj)) (D : Ends) (f : Flow) (s' : Shared) : Prop :=
  match f with
  | .next => ∃ σ' H', Inv X pins σ' H' s' ∧ D.nx σ' H'
  | .brk => ∃ σ' H', Inv X pins σ' H' s' ∧ D.bk σ' H'
  | .cont => ∃ σ' H', Inv X pins σ' H' s' ∧ D.ct σ' H'
  | .ret u => ∃ v σ' H', Inv X pins σ' H' s' ∧ RelV v u ∧ D.rt v H'

def PE (X : Cx) (e : Expr) (t : TE) : Prop :=
  ∀ (pins : List (Addr × Obj)) (s : Shared) (σ : St) (H : Hp) (Q : VK), Inv X pins σ H s → t σ H Q → wpAny (model X.prog X.w) X.A (eval e X.env) (EP X pins σ Q) X.xe s
def PT (X : Cx) (e : Expr) (t : TT) : Prop :=
  ∀ (pins : List (Addr × Obj)) (s : Shared) (σ : St) (H : Hp) (Q : Bool → Hp → Prop), Inv X pins σ H s → t σ H Q → wpAny (model X.prog X.w) X.A (isTrue e X.env (eval e X.env)) (TP X pins σ Q) X.xe s
def PW (X : Cx) (e : Expr) (t : TT) : Prop :=
  ∀ (whole : Sem Value) (pins : List (Addr × Obj)) (s : Shared) (σ : St) (H : Hp) (Q : Bool → Hp → Prop), Inv X pins σ H s → t σ H Q → wpAny (model X.prog X.w) X.A (isTrue e X.env whole) (TP X pins σ Q) X.xe s
theorem PW.pt {X : Cx} {e : Expr} {t : TT} (h : PW X e t) : PT X e t := h _
def PA (X : Cx) (es : List Expr) (t : TA) : Prop :=
  ∀ (pos : Pos) (pins : List (Addr × Obj)) (s : Shared) (σ : St) (H : Hp) (Q : List V → Hp → Prop), Inv X pins σ H s → t σ H Q → wpAny (model X.prog X.w) X.A (spliced (backTo pos (starEach es X.env))) (AP X pins σ Q) X.xe s
def PS (X : Cx) (st : Stmt) (t : TS) : Prop :=
  ∀ (pins : List (Addr × Obj)) (s : Shared) (σ : St) (H : Hp) (D : Ends), Inv X pins σ H s → t D σ H → wpAny (model X.prog X.w) X.A (exec st X.env) (SP X pins D) X.xe s
def PSs (X : Cx) (st : List Stmt) (t : TS) : Prop :=
  ∀ (pins : List (Addr × Obj)) (s : Shared) (σ : St) (H : Hp) (D : Ends), Inv X pins σ H s → t D σ H → wpAny (model X.prog X.w) X.A (execs st X.env) (SP X pins D) X.xe s
theorem thn {α : Type} {t : Sem α} {Q Q' : α → Shared → Prop} {M : Model} {A : Around} {E : Value → Shared → Prop} {s : Shared} (h : wpAny M A t Q E s) (hQ : ∀ a s, Q a s → Q' a s) : wpAny M A t Q' E s := wpAny_mono h hQ fun _ _ x => x
end L2

namespace L2
open PySem PySem.Spec PyProof.Rows
section
variable {X : Cx}

theorem bin {a b : Expr} {ta tb : TE} (ha : PE X a ta) (hb : PE X b tb) {pins : List (Addr × Obj)} {s : Shared} {σ : St} {H : Hp} {R : V → V → Hp → Prop} (I : Inv X pins σ H s) (h : ta σ H fun x H1 => tb σ H1 fun y H2 => R x y H2)
    {α : Type} {Q : α → Shared → Prop} {f : Value → Value → Sem α}
    (hf : ∀ v u s2 x y H2, Inv X pins σ H2 s2 → RelV x v → RelV y u → R x y H2 → wpAny (model X.prog X.w) X.A (f v u) Q X.xe s2) :
    wpAny (model X.prog X.w) X.A (eval a X.env) (fun v s₁ => wpAny (model X.prog X.w) X.A (eval b X.env) (fun u s₂ => wpAny (model X.prog X.w) X.A (f v u) Q X.xe s₂) X.xe s₁) X.xe s := by
  refine thn (ha pins s σ H _ I h) fun v s1 ⟨x, H1, I1, r1, q1⟩ => ?_
  refine thn (hb pins s1 σ H1 _ I1 q1) fun u s2 ⟨y, H2, I2, r2, q2⟩ => ?_
  exact hf v u s2 x y H2 I2 r1 r2 q2

/-! ### names and constants -/
def tVar (i : Nat) : TE := fun σ H Q => ∃ v, σ[i]? = some (some v) ∧ Q v H
def tC (v : V) : TE := fun _ H Q => Q v H
theorem pe_var {i : Nat} {x : Str} {pos : Pos} (hN : X.N[i]? = some x) (hv : Vis X.env.scope x) (hd : (x == ("__debug__" : Str)) = false := by decide) (hcd : (x == ("__classdict__" : Str)) = false := by decide) : PE X (.Name x pos) (tVar i) := by
  intro pins s σ H Q I h
  obtain ⟨v, e, h⟩ := h
  obtain ⟨m, hn, hl⟩ := I.loc
  obtain ⟨u, r, l⟩ := hl i x v hN e hv
  have fin : EP X pins σ Q u s := ⟨v, H, I, r, h⟩
  rcases l with ⟨hk, hm⟩ | ⟨hk, c, hc, hcell⟩
  · exact wpAny_Name (wpAny_loadName_local I.ok.kind hk hn hm fin) hd
  · rcases hk with hk | hk
    · exact wpAny_Name (wpAny_loadName_cell I.ok.kind hk hc hcell fin) hd
    · exact wpAny_Name (wpAny_loadName_free I.ok.kind hk hc hcell fin hcd) hd
theorem pe_int {i j pos} : PE X (.Constant (.int i) j pos) (tC (.int i)) := fun _ _ _ H _ I h => wpAny_Constant_int ⟨.int i, H, I.tok _, ⟨_, rfl⟩, h⟩
theorem pe_bl {b j pos} : PE X (.Constant (.bool b) j pos) (tC (.bl b)) := fun _ _ _ H _ I h => Constant_bool ⟨.bl b, H, I, rfl, h⟩
theorem pe_non {j pos} : PE X (.Constant .none j pos) (tC .non) := fun _ _ _ H _ I h => Constant_none ⟨.non, H, I, rfl, h⟩
theorem pe_str {x j pos} : PE X (.Constant (.str x) j pos) (tC (.str x)) := fun _ _ _ H _ I h => Calls.Constant_str ⟨.str x, H, I.tok _, ⟨_, rfl⟩, h⟩

def Gl (X : Cx) (x : Str) : Prop := X.env.kindOf x = some .globalImplicit
theorem ld_glob {E : Value → Shared → Prop} {pins : List (Addr × Obj)} {s : Shared} {σ : St} {H : Hp} {x : Str} {u : Value} {pos : Pos} {Q : Value → Shared → Prop} (I : Inv X pins σ H s) (hg : Gl X x) (hm : X.mg x = some u) (h : Q u s)
    (hd : (x == ("__debug__" : Str)) = false := by decide) : wpAny (model X.prog X.w) X.A (eval (.Name x pos) X.env) Q E s :=
  Calls.Name_function_global I.ok.kind hg (Calls.loadGlobal_global (by rw [I.ok.glob]; exact I.mod.glob.keeps I.bk) hm h) hd
theorem ld_blt {E : Value → Shared → Prop} {pins : List (Addr × Obj)} {s : Shared} {σ : St} {H : Hp} {x : Str} {u : Value} {pos : Pos} {Q : Value → Shared → Prop} (I : Inv X pins σ H s) (hg : Gl X x) (hm : X.mg x = none) (hv : bootBuiltins x = some u) (h : Q u s)
    (hn : x ≠ "__name__" := by decide) (hd : (x == ("__debug__" : Str)) = false := by decide) : wpAny (model X.prog X.w) X.A (eval (.Name x pos) X.env) Q E s := by
  obtain ⟨mb, h1, h2⟩ := I.mod.blt
  exact Calls.Name_function_global I.ok.kind hg (Calls.loadGlobal_builtin (by rw [I.ok.glob]; exact I.mod.glob.keeps I.bk) hm (by rw [I.ok.blt]; exact h1.keeps I.bk) ((h2 x hn).trans hv) h) hd
theorem pe_glob {x : Str} {v : V} {u : Value} {pos : Pos} (hg : Gl X x) (hm : X.mg x = some u) (r : RelV v u) (hd : (x == ("__debug__" : Str)) = false := by decide) : PE X (.Name x pos) (tC v) :=
  fun _ _ _ H _ I h => ld_glob I hg hm ⟨v, H, I, r, h⟩ hd
theorem pe_bltn {x : Str} {v : V} {u : Value} {pos : Pos} (hg : Gl X x) (hm : X.mg x = none) (hv : bootBuiltins x = some u) (r : RelV v u) (hn : x ≠ "__name__" := by decide) (hd : (x == ("__debug__" : Str)) = false := by decide) : PE X (.Name x pos) (tC v) :=
  fun _ _ _ H _ I h => ld_blt I hg hm hv ⟨v, H, I, r, h⟩ hn hd

/-! ### arithmetic -/
variable {a b : Expr} {ta tb : TE} {pos : Pos}
/-! ### comparisons -/
def PC (X : Cx) (op : CmpOp) (a b : Expr) (t : TE) : Prop :=
  ∀ (pins : List (Addr × Obj)) (s : Shared) (σ : St) (H : Hp) (Q : VK), Inv X pins σ H s → t σ H Q →
    wpAny (model X.prog X.w) X.A (eval a X.env) (fun v s₁ => wpAny (model X.prog X.w) X.A (eval b X.env) (fun u s₂ => wpAny (model X.prog X.w) X.A (compareOp op v u) (EP X pins σ Q) X.xe s₂) X.xe s₁) X.xe s
def tB (t : TE) : TT := fun σ H Q => t σ H fun x H1 => ∃ c, x = .bl c ∧ Q c H1
theorem pt_cmp {op : CmpOp} {t : TE} (h : PC X op a b t) (h1 : behindInMarks op b = false := by first | exact nobehind _ (by decide) (by decide) | rfl) : PT X (.Compare a [op] [b] pos) (tB t) := by
  intro pins s σ H Q I hw
  refine wpAny_isTrue_Compare1 (thn (h pins s σ H _ I hw) fun v s1 h1 => thn h1 fun u s2 h2 => thn h2 fun c s3 ⟨x, H1, I1, r1, q1⟩ => ?_) h1
  obtain ⟨d, rfl, q⟩ := q1
  cases r1
  exact wpAny_truthy_bool ⟨H1, I1, q⟩
theorem pt_val {e : Expr} {t : TE} (h : PE X e t) (he : ∀ whole, isTrue e X.env whole = (do let v ← whole; standAt e.pos; holding [v] (truthy v)) := by intro _; rfl) : PT X e (tB t) := by
  intro pins s σ H Q I hw
  refine isTrue_plain (thn (h pins s σ H _ I hw) fun v s1 ⟨x, H1, I1, r1, q1⟩ => ?_) (he _)
  obtain ⟨d, rfl, q⟩ := q1
  cases r1
  exact wpAny_truthy_bool ⟨H1, I1, q⟩

/-! ### and, or, not -/
variable {tA tB' : TT} {rest : List Expr}
def tAnd (t u : TT) : TT := fun σ H Q => t σ H fun c H1 => if c = true then u σ H1 Q else Q false H1
def tOr (t u : TT) : TT := fun σ H Q => t σ H fun c H1 => if c = true then Q true H1 else u σ H1 Q
def tNot (t : TT) : TT := fun σ H Q => t σ H fun c H1 => Q (!c) H1
theorem pw_and1 (ha : PT X a tA) : PW X (.BoolOp .And [a] pos) tA := by
  intro wh pins s σ H Q I h
  refine isTrue_and (thn (ha pins s σ H Q I h) fun c s1 e => ?_)
  cases c with
  | true => exact isTrue_and_nil e
  | false => exact e
theorem pw_or1 (ha : PT X a tA) : PW X (.BoolOp .Or [a] pos) tA := by
  intro wh pins s σ H Q I h
  refine isTrue_or (thn (ha pins s σ H Q I h) fun c s1 e => ?_)
  cases c with
  | false => exact isTrue_or_nil e
  | true => exact e
theorem pw_and (ha : PT X a tA) (hb : PW X (.BoolOp .And (b :: rest) pos) tB') : PW X (.BoolOp .And (a :: b :: rest) pos) (tAnd tA tB') := by
  intro wh pins s σ H Q I h
  refine isTrue_and (thn (ha pins s σ H _ I h) fun c s1 ⟨H1, I1, q1⟩ => ?_)
  cases c with
  | true => exact hb wh pins s1 σ H1 Q I1 q1
  | false => exact ⟨H1, I1, q1⟩
theorem pw_or (ha : PT X a tA) (hb : PW X (.BoolOp .Or (b :: rest) pos) tB') : PW X (.BoolOp .Or (a :: b :: rest) pos) (tOr tA tB') := by
  intro wh pins s σ H Q I h
  refine isTrue_or (thn (ha pins s σ H _ I h) fun c s1 ⟨H1, I1, q1⟩ => ?_)
  cases c with
  | true => exact ⟨H1, I1, q1⟩
  | false => exact hb wh pins s1 σ H1 Q I1 q1
theorem pt_not (ha : PT X a tA) : PT X (.UnaryOp .Not a pos) (tNot tA) := by
  intro pins s σ H Q I h
  exact isTrue_not (ha pins s σ H (fun c H1 => Q (!c) H1) I h)
def tAndV (ta tb : TE) : TE := fun σ H Q => ta σ H fun x H1 => ∃ c, x = .bl c ∧ if c = true then tb σ H1 Q else Q (.bl false) H1
def tOrV (ta tb : TE) : TE := fun σ H Q => ta σ H fun x H1 => ∃ c, x = .bl c ∧ if c = true then Q (.bl true) H1 else tb σ H1 Q
def tNotV (ta : TE) : TE := fun σ H Q => ta σ H fun x H1 => ∃ c, x = .bl c ∧ Q (.bl (!c)) H1
theorem pe_one {op} {t : TE} (h : PE X a t) : PE X (.BoolOp op [a] pos) t := fun pins s σ H Q I hw => BoolOp_one (h pins s σ H Q I hw)
theorem pe_and (ha : PE X a ta) (hb : PE X (.BoolOp .And (b :: rest) pos) tb) : PE X (.BoolOp .And (a :: b :: rest) pos) (tAndV ta tb) := by
  intro pins s σ H Q I h
  refine BoolOp_and (thn (ha pins s σ H _ I h) fun v s1 ⟨x, H1, I1, r1, q1⟩ => ?_)
  obtain ⟨c, rfl, q1⟩ := q1
  cases r1
  refine wpAny_truthy_bool ?_
  cases c with
  | true => exact hb pins s1 σ H1 Q I1 q1
  | false => exact ⟨.bl false, H1, I1, rfl, q1⟩
theorem pe_or (ha : PE X a ta) (hb : PE X (.BoolOp .Or (b :: rest) pos) tb) : PE X (.BoolOp .Or (a :: b :: rest) pos) (tOrV ta tb) := by
  intro pins s σ H Q I h
  refine BoolOp_or (thn (ha pins s σ H _ I h) fun v s1 ⟨x, H1, I1, r1, q1⟩ => ?_)
  obtain ⟨c, rfl, q1⟩ := q1
  cases r1
  refine wpAny_truthy_bool ?_
  cases c with
  | false => exact hb pins s1 σ H1 Q I1 q1
  | true => exact ⟨.bl true, H1, I1, rfl, q1⟩
theorem pe_not (ha : PE X a ta) : PE X (.UnaryOp .Not a pos) (tNotV ta) := by
  intro pins s σ H Q I h
  refine UnaryOp_ (thn (ha pins s σ H _ I h) fun v s1 ⟨x, H1, I1, r1, q1⟩ => ?_)
  obtain ⟨c, rfl, q1⟩ := q1
  cases r1
  exact not_of (wpAny_truthy_bool ⟨.bl (!c), H1, I1, rfl, q1⟩)
def tIf (t : TT) (ta tb : TE) : TE := fun σ H Q => t σ H fun c H1 => if c = true then ta σ H1 Q else tb σ H1 Q
theorem pe_ifExp {c : Expr} (hc : PT X c tA) (ha : PE X a ta) (hb : PE X b tb) : PE X (.IfExp c a b pos) (tIf tA ta tb) := by
  intro pins s σ H Q I h
  refine wpAny_IfExp (thn (hc pins s σ H _ I h) fun d s1 ⟨H1, I1, q1⟩ => ?_)
  cases d with
  | true => exact ha pins s1 σ H1 Q I1 q1
  | false => exact hb pins s1 σ H1 Q I1 q1
end
end L2

namespace L2
open PySem PySem.Spec PyProof.Rows

/-! ### a list, a tuple that is read: tracked, frozen, or an object of the module -/
def SqL (K : PySem.W.Frag) (H : Hp) (a : Addr) (xs : List V) : Prop :=
  Rd H a (.lst xs) ∨
    ∃ (o : Obj) (its : Array Value) (n : Nat), K.lookup a = some o ∧ o.cls = .type "list" ∧ o.dict = none ∧ o.data = .seq its n ∧ its.size ≤ sizeLine ∧ Vals xs its.toList
def SqT (K : PySem.W.Frag) (H : Hp) (a : Addr) (xs : List V) : Prop :=
  Rd H a (.tup xs) ∨
    ∃ (o : Obj) (its : Array Value) (n : Nat), K.lookup a = some o ∧ o.cls = .type "tuple" ∧ o.data = .seq its n ∧ its.size ≤ sizeLine ∧ Vals xs its.toList
def absV : Value → Option V
  | .none => some .non
  | .bool b => some (.bl b)
  | .int i _ => some (.int i)
  | .str x _ => some (.str x)
  | .bytes b _ => some (.byt b)
  | .float b _ => some (.flt b)
  | .ref a => some (.ref a)
  | .type n => some (.ty n)
  | _ => none
theorem RelV.abs {x : V} {u : Value} (r : RelV x u) : absV u = some x := by
  cases x with
  | non => cases r; rfl
  | bl _ => cases r; rfl
  | int _ => obtain ⟨t, rfl⟩ := r; rfl
  | str _ => obtain ⟨t, rfl⟩ := r; rfl
  | byt _ => obtain ⟨t, rfl⟩ := r; rfl
  | flt _ => obtain ⟨t, rfl⟩ := r; rfl
  | ref _ => cases r; rfl
  | ty _ => cases r; rfl
theorem RelV.inj {x y : V} {u : Value} (r : RelV x u) (q : RelV y u) : x = y := Option.some.inj (r.abs.symm.trans q.abs)
theorem Vals.inj {xs ys : List V} {us : List Value} (h : Vals xs us) (h' : Vals ys us) : xs = ys := by
  induction h generalizing ys with
  | nil => cases h'; rfl
  | cons r t ih => cases h' with
    | cons r' t' => rw [r.inj r', ih t']
section
variable {X : Cx} {pins : List (Addr × Obj)} {σ : St} {H : Hp} {s : Shared} {a : Addr} {xs ys : List V}
theorem SqL.of {K : PySem.W.Frag} (h : H a = some (.lst xs)) : SqL K H a xs := .inl (.inl h)
theorem SqT.of {K : PySem.W.Frag} (h : H a = some (.tup xs)) : SqT K H a xs := .inl (.inl h)
theorem Inv.list (I : Inv X pins σ H s) (h : SqL X.K H a xs) : ∃ its : List Value, Vals xs its ∧ PlainL s.heap a its.toArray ∧ xs.length ≤ sizeLine := by
  rcases h with h | ⟨o, its, n, hk, hc, hd, hs, hz, r⟩
  · obtain ⟨z, its, n, r, e⟩ := h.ok I.hok
    exact ⟨its, r, ⟨_, n, e, rfl, rfl, rfl⟩, z⟩
  · refine ⟨its.toList, r, ⟨o, n, I.kIn a o hk, hc, hd, by simpa using hs⟩, ?_⟩
    have e := r.length
    simp only [Array.length_toList] at e
    omega
theorem Inv.tuple (I : Inv X pins σ H s) (h : SqT X.K H a xs) : ∃ its : List Value, Vals xs its ∧ IsTup s.heap a its.toArray ∧ xs.length ≤ sizeLine := by
  rcases h with h | ⟨o, its, n, hk, hc, hs, hz, r⟩
  · obtain ⟨z, its, r, p⟩ := h.ok I.hok
    exact ⟨its, r, p, z⟩
  · refine ⟨its.toList, r, ⟨o, I.kIn a o hk, hc, n, by simpa using hs⟩, ?_⟩
    have e := r.length
    simp only [Array.length_toList] at e
    omega
theorem Inv.list_inj (I : Inv X pins σ H s) (h : SqL X.K H a xs) (h' : SqL X.K H a ys) : xs = ys := by
  obtain ⟨its, r, ⟨o, n, e, _, _, d⟩, _⟩ := I.list h
  obtain ⟨its', r', ⟨o', n', e', _, _, d'⟩, _⟩ := I.list h'
  rw [e] at e'; cases e'
  rw [d] at d'
  injection d' with d1 _
  have : its = its' := by simpa using congrArg Array.toList d1
  subst this
  exact r.inj r'
theorem Inv.tuple_inj (I : Inv X pins σ H s) (h : SqT X.K H a xs) (h' : SqT X.K H a ys) : xs = ys := by
  obtain ⟨its, r, ⟨o, e, _, n, d⟩, _⟩ := I.tuple h
  obtain ⟨its', r', ⟨o', e', _, n', d'⟩, _⟩ := I.tuple h'
  rw [e] at e'; cases e'
  rw [d] at d'
  injection d' with d1 _
  have : its = its' := by simpa using congrArg Array.toList d1
  subst this
  exact r.inj r'
end

/-! ### another wish about exceptions -/
abbrev Cx.wish (X : Cx) (E : Value → Shared → Prop) : Cx := { X with xe := E }
abbrev Cx.nox (X : Cx) : Cx := X.wish fun _ _ => False
theorem Cx.Ok.wish {X : Cx} (ok : X.Ok) (E : Value → Shared → Prop) : (X.wish E).Ok :=
  ⟨ok.mod, ok.kind, ok.glob, ok.blt, ok.above, ok.inj, ok.has, ok.cab, ok.hd, ok.frames, ok.stk, ok.exf, ok.bs, ok.bsz, ok.noex, ok.exfs, ok.funs, ok.frf⟩
theorem Cx.Ok.unwish {X : Cx} {E : Value → Shared → Prop} (ok : (X.wish E).Ok) : X.Ok :=
  ⟨ok.mod, ok.kind, ok.glob, ok.blt, ok.above, ok.inj, ok.has, ok.cab, ok.hd, ok.frames, ok.stk, ok.exf, ok.bs, ok.bsz, ok.noex, ok.exfs, ok.funs, ok.frf⟩
section
variable {X : Cx} {pins : List (Addr × Obj)} {σ : St} {H : Hp} {s : Shared} {E : Value → Shared → Prop}
theorem Inv.wish (I : Inv X pins σ H s) (E : Value → Shared → Prop) : Inv (X.wish E) pins σ H s := ⟨I.ok.wish E, I.os, I.bare, I.base, I.loc, I.cell, I.free, I.freeC, I.pin, I.hok, I.len⟩
theorem Inv.unwish (I : Inv (X.wish E) pins σ H s) : Inv X pins σ H s := ⟨I.ok.unwish, I.os, I.bare, I.base, I.loc, I.cell, I.free, I.freeC, I.pin, I.hok, I.len⟩
theorem SP.unwish {D : Ends} {f : Flow} {s' : Shared} (h : SP (X.wish E) pins D f s') : SP X pins D f s' := by
  cases f with
  | next => obtain ⟨σ', H', I, q⟩ := h; exact ⟨σ', H', I.unwish, q⟩
  | brk => obtain ⟨σ', H', I, q⟩ := h; exact ⟨σ', H', I.unwish, q⟩
  | cont => obtain ⟨σ', H', I, q⟩ := h; exact ⟨σ', H', I.unwish, q⟩
  | ret u => obtain ⟨v, σ', H', I, r, q⟩ := h; exact ⟨v, σ', H', I.unwish, r, q⟩
theorem PSs.nox {st : List Stmt} {t : TS} (h : PSs X.nox st t) : PSs X st t := fun pins s σ H D I hw =>
  wpAny_mono (h pins s σ H D (I.wish _) hw) (fun _ _ q => q.unwish) fun _ _ z => False.elim z
end

/-! ### blocks and small statements -/
section
variable {X : Cx} {st : Stmt} {rest : List Stmt} {t u : TS} {e : Expr} {te : TE} {pos : Pos}
def tNext : TS := fun D σ H => D.nx σ H
def tSeq (t u : TS) : TS := fun D σ H => t { D with nx := u D } σ H
theorem pss_nil : PSs X [] tNext := fun _ _ σ H _ I h => wpAny_execs_nil ⟨σ, H, I, h⟩
theorem pss_cons (h1 : PS X st t) (h2 : PSs X rest u) : PSs X (st :: rest) (tSeq t u) := by
  intro pins s σ H D I h
  refine wpAny_execs_cons (thn (h1 pins s σ H { D with nx := u D } I h) fun f s1 q => ?_)
  cases f with
  | next =>
    obtain ⟨σ', H', I', q⟩ := q
    exact h2 pins s1 σ' H' D I' q
  | ret v => exact q
  | brk => exact q
  | cont => exact q
theorem pss_one (h1 : PS X st t) : PSs X [st] t := by
  intro pins s σ H D I h
  refine wpAny_execs_cons (thn (h1 pins s σ H D I h) fun f s1 q => ?_)
  cases f with
  | next => exact wpAny_execs_nil q
  | ret v => exact q
  | brk => exact q
  | cont => exact q
theorem Inv.quiet {pins : List (Addr × Obj)} {σ : St} {H : Hp} {s : Shared} (I : Inv X pins σ H s) : interactive X.env = false := by simp [interactive, I.ok.kind]
def tDrop (te : TE) : TS := fun D σ H => te σ H fun _ H1 => D.nx σ H1
theorem ps_expr (he : PE X e te) (hs : swapsWith e none pos.line X.env = pure false := by rfl) : PS X (.Expr e pos) (tDrop te) := by
  intro pins s σ H D I h
  exact wpAny_Expr_any (thn (he pins s σ H _ I h) fun v s1 ⟨x, H1, I1, r1, q1⟩ => ⟨σ, H1, I1, q1⟩) I.quiet hs
def tRet (te : TE) : TS := fun D σ H => te σ H D.rt
theorem ps_ret (he : PE X e te) : PS X (.Return (some e) pos) (tRet te) := by
  intro pins s σ H D I h
  exact wpAny_Return_some (thn (he pins s σ H _ I h) fun v s1 ⟨x, H1, I1, r1, q1⟩ => ⟨x, σ, H1, I1, r1, q1⟩)
def tIfS (c : TT) (t u : TS) : TS := fun D σ H => c σ H fun b H1 => if b = true then t D σ H1 else u D σ H1
theorem ps_if {c : Expr} {a b : List Stmt} {tc : TT} (hc : PT X c tc) (ha : PSs X a t) (hb : PSs X b u) : PS X (.If c a b pos) (tIfS tc t u) := by
  intro pins s σ H D I h
  refine wpAny_If (thn (hc pins s σ H _ I h) fun d s1 ⟨H1, I1, q1⟩ => ?_)
  cases d with
  | true => exact ha pins s1 σ H1 D I1 q1
  | false => exact hb pins s1 σ H1 D I1 q1
end

/-! ### targets -/
abbrev TG := V → St → Hp → (St → Hp → Prop) → Prop
abbrev TGs := List V → St → Hp → (St → Hp → Prop) → Prop
def PG (X : Cx) (target : Expr) (t : TG) : Prop :=
  ∀ (pins : List (Addr × Obj)) (s : Shared) (σ : St) (H : Hp) (v : V) (u : Value) (Q : St → Hp → Prop), Inv X pins σ H s → RelV v u → t v σ H Q →
    wpAny (model X.prog X.w) X.A (assign target X.env u) (fun _ s' => ∃ σ' H', Inv X pins σ' H' s' ∧ Q σ' H') X.xe s
def PGs (X : Cx) (ts : List Expr) (t : TGs) : Prop :=
  ∀ (pins : List (Addr × Obj)) (s : Shared) (σ : St) (H : Hp) (vs : List V) (us : List Value) (Q : St → Hp → Prop), Inv X pins σ H s → Vals vs us → t vs σ H Q →
    wpAny (model X.prog X.w) X.A (assignInOrder ((assignEach ts X.env).map (·.2)) us) (fun _ s' => ∃ σ' H', Inv X pins σ' H' s' ∧ Q σ' H') X.xe s
abbrev TSet := V → V → V → Hp → (Hp → Prop) → Prop
def PSet (X : Cx) (t : TSet) : Prop :=
  ∀ (pins : List (Addr × Obj)) (s : Shared) (σ : St) (H : Hp) (o i v : V) (ov iv u : Value) (Q : Hp → Prop), Inv X pins σ H s → RelV o ov → RelV i iv → RelV v u → t o i v H Q →
    wpAny (model X.prog X.w) X.A (setItem ov iv u) (fun _ s' => ∃ H', Inv X pins σ H' s' ∧ Q H') X.xe s
section
variable {X : Cx} {pos : Pos}
def gName (i : Nat) : TG := fun v σ H Q => Q (σ.set i (some v)) H
theorem pg_name {i : Nat} {x : Str} (hN : X.N.Nodup) (hi : X.N[i]? = some x) (hx : Loc X.env.scope x) (hf : X.fn x = true ∨ X.env.scope.names.lookup x = some .local := by first | exact .inl rfl | exact .inr rfl | assumption) : PG X (.Name x pos) (gName i) := by
  intro pins s σ H v u Q I r h
  exact wpAny_assign_Name (store_ok I hN hi hx r (fun s' I' => ⟨_, H, I', h⟩) hf)
def gNil : TGs := fun vs σ H Q => vs = [] ∧ Q σ H
def gCons (t : TG) (u : TGs) : TGs := fun vs σ H Q => ∃ v r, vs = v :: r ∧ t v σ H fun σ' H' => u r σ' H' Q
theorem pgs_nil : PGs X [] gNil := by
  intro pins s σ H vs us Q I r h
  obtain ⟨e, h⟩ := h
  subst e
  cases r
  exact assignInOrder_nil ⟨σ, H, I, h⟩
theorem pgs_cons {e : Expr} {es : List Expr} {t : TG} {u : TGs} (h1 : PG X e t) (h2 : PGs X es u)
    (hs : (assignEach (e :: es) X.env).map (·.2) = assign e X.env :: (assignEach es X.env).map (·.2) := by rfl) : PGs X (e :: es) (gCons t u) := by
  intro pins s σ H vs us Q I r h
  obtain ⟨v, vr, e1, h⟩ := h
  subst e1
  cases r with
  | cons r rr =>
    rw [hs]
    refine assignInOrder_cons (thn (h1 pins s σ H _ _ _ I r h) fun _ s1 ⟨σ1, H1, I1, q1⟩ => ?_)
    exact h2 pins s1 σ1 H1 _ _ Q I1 rr q1
def gTup (K : PySem.W.Frag) (n : Nat) (t : TGs) : TG := fun v σ H Q => ∃ a xs, v = .ref a ∧ SqT K H a xs ∧ xs.length = n ∧ t xs σ H Q
theorem pg_tup {es : List Expr} {k : Nat} {t : TGs} {n : Nat} (hc : X.calm = true) (h : PGs X es t)
    (hn : (assignEach es X.env).length = n := by rfl) (hst : (assignEach es X.env).findIdx? (·.1) = none := by rfl) : PG X (.Tuple es k pos) (gTup X.K n t) := by
  intro pins s σ H v u Q I r hw
  obtain ⟨a, xs, e1, hq, hl, hw⟩ := hw
  subst e1
  cases r
  obtain ⟨its, rv, ht, hz⟩ := I.tuple hq
  refine assign_Tuple_tuple (I.ok.hd hc) ht (by simp [hn, ← hl, rv.length]) hst fun h' hx => ?_
  have I1 : Inv X pins σ H { s with heap := h' } := I.kept (t' := s.toks) fun b o e => hx b o (Nat.ne_of_lt (Heap.lt_size e)) e
  exact h pins _ σ H xs _ Q I1 (by simpa using rv) hw
def gSub (to ti : TE) (t : TSet) : TG := fun v σ H Q => to σ H fun o H1 => ti σ H1 fun i H2 => t o i v H2 fun H3 => Q σ H3
theorem pg_sub {o i : Expr} {to ti : TE} {t : TSet} (ho : PE X o to) (hi : PE X i ti) (hs : PSet X t)
    (ha : ∀ v, assign (.Subscript o i pos) X.env v = (do
      let ov ← holding [v] (eval o X.env)
      let iv ← holding [v, ov] (eval i X.env)
      standAt pos
      holding [v, ov, iv] (setItem ov iv v)
      release [v, ov, iv] []) := by intro _; rfl) : PG X (.Subscript o i pos) (gSub to ti t) := by
  intro pins s σ H v u Q I r h
  rw [ha]
  refine wpAny_bind (wpAny_holding (thn (ho pins s σ H _ I h) fun ov s1 ⟨x, H1, I1, r1, q1⟩ => ?_))
  refine wpAny_bind (wpAny_holding (thn (hi pins s1 σ H1 _ I1 q1) fun iv s2 ⟨y, H2, I2, r2, q2⟩ => ?_))
  refine wpAny_bind (wpAny_standAt (wpAny_bind (wpAny_holding (thn (hs pins s2 σ H2 x y v ov iv u _ I2 r1 r2 r q2) fun _ s3 ⟨H3, I3, q3⟩ => ?_))))
  exact wpAny_release ⟨σ, H3, I3, q3⟩
def tAsg (te : TE) (g : TG) : TS := fun D σ H => te σ H fun x H1 => g x σ H1 D.nx
theorem ps_asg {tg e : Expr} {te : TE} {g : TG} (he : PE X e te) (hg : PG X tg g) (hs : swapsWithSole [tg] e pos.line X.env = pure false := by rfl) (hw : swappedStores [tg] e X.env = pure none := by rfl)
    (h1 : (assignEach [tg] X.env).map (·.2) = [assign tg X.env] := by rfl) : PS X (.Assign [tg] e pos) (tAsg te g) := by
  intro pins s σ H D I h
  refine wpAny_Assign_stores (thn (he pins s σ H _ I h) fun v s1 ⟨x, H1, I1, r1, q1⟩ => ?_) hs hw
  rw [h1]
  exact thn (hg pins s1 σ H1 x v _ I1 r1 q1) fun _ s2 q => q
theorem ps_set {i : Nat} {x : Str} {e : Expr} {te : TE} {pos' : Pos} (hN : X.N.Nodup) (hi : X.N[i]? = some x) (hx : Loc X.env.scope x) (he : PE X e te) (hs : swapsWith e (some (.Name x pos')) pos.line X.env = pure false := by rfl) (hf : X.fn x = true ∨ X.env.scope.names.lookup x = some .local := by first | exact .inl rfl | exact .inr rfl | assumption) :
    PS X (.Assign [.Name x pos'] e pos) (tAsg te (gName i)) := by
  intro pins s σ H D I h
  refine wpAny_Assign_Name (thn (he pins s σ H _ I h) fun v s1 ⟨y, H1, I1, r1, q1⟩ => ?_) hs
  exact store_ok I1 hN hi hx r1 (fun s2 I2 => ⟨_, H1, I2, q1⟩) hf
end

/-! ### while -/
section
variable {X : Cx} {pos : Pos}
def tWhile (c : TT) (tb : TS) : TS := fun D σ H => ∃ W : Nat → St → Hp → Prop, (∃ m, W m σ H) ∧ ∀ m σ H, W m σ H →
  c σ H fun b H1 => if b = true then ∃ N : St → Hp → Prop, (∀ σ' H', N σ' H' → ∃ m', m' < m ∧ W m' σ' H') ∧ tb { D with nx := N, ct := N, bk := D.nx } σ H1 else D.nx σ H1
theorem ps_while {c : Expr} {body : List Stmt} {tc : TT} {tb : TS} (hp : PassesOwn (model X.prog X.w) X.A X.env X.xe) (hc : PT X c tc) (hb : PSs X body tb) : PS X (.While c body [] pos) (tWhile tc tb) := by
  intro pins s σ H D I h
  obtain ⟨W, ⟨m0, w0⟩, turn⟩ := h
  refine wpAny_While (codeAny_whileLoop (fun n s' => ∃ σ' H', Inv X pins σ' H' s' ∧ W n σ' H') ?_ m0 ⟨σ, H, I, w0⟩)
  rintro n s1 ⟨σ1, H1, I1, w1⟩
  refine wpAny_passesOwn hp (thn (hc pins s1 σ1 H1 _ I1 (turn n σ1 H1 w1)) fun b s2 ⟨H2, I2, q2⟩ => ?_)
  cases b with
  | true =>
    obtain ⟨N, hN, q2⟩ := q2
    rw [if_pos rfl]
    refine wpAny_passesOwn hp (thn (hb pins s2 σ1 H2 _ I2 q2) fun f s3 q3 => ?_)
    cases f with
    | next =>
      obtain ⟨σ3, H3, I3, n3⟩ := q3
      obtain ⟨m', hm, w3⟩ := hN σ3 H3 n3
      exact ⟨m', hm, σ3, H3, I3, w3⟩
    | cont =>
      obtain ⟨σ3, H3, I3, n3⟩ := q3
      obtain ⟨m', hm, w3⟩ := hN σ3 H3 n3
      exact ⟨m', hm, σ3, H3, I3, w3⟩
    | brk => exact q3
    | ret v => exact q3
  | false =>
    rw [if_neg Bool.false_ne_true]
    exact wpAny_execs_nil ⟨σ1, H2, I2, q2⟩
end

/-! ### what a loop or a comprehension walks -/
structure It where
  go : Nat → Hp → Prop
  yld : Nat → Hp → V → Hp → Prop
  stop : Nat → Hp → Prop
def FpOk (X : Cx) (pins : List (Addr × Obj)) (H : Hp) (b : Addr) : Prop :=
  H b = none ∧ b ≠ X.env.locals ∧ b ∉ X.fs ∧ (b ∈ X.ex ∨ X.s₀.heap.objs.size ≤ b) ∧ (∀ x c, X.env.cells.lookup x = some c → c ≠ b) ∧ ∀ p ∈ X.pn ++ pins, p.1 ≠ b
theorem Inv.fpOk {X : Cx} {pins : List (Addr × Obj)} {σ : St} {H H' : Hp} {s : Shared} {b : Addr} (I : Inv X pins σ H s) (hb : s.heap.objs.size ≤ b) (hn : H' b = none) : FpOk X pins H' b := by
  refine ⟨hn, Nat.ne_of_gt (Nat.lt_of_lt_of_le I.lt hb), I.nofs hb, .inr (Nat.le_trans I.sz hb), fun x c e z => ?_, fun p hp z => ?_⟩
  · obtain ⟨v, q⟩ := I.cell x c e
    exact absurd (Nat.lt_of_lt_of_le q.lt (by rw [z]; exact hb)) (Nat.lt_irrefl _)
  · exact absurd (Nat.lt_of_lt_of_le (Heap.lt_size (I.pin p hp).1) (by rw [z]; exact hb)) (Nat.lt_irrefl _)
structure Turn (P : Program) (w : World) (K : PySem.W.Frag) (tg : Expr) (J : It) (fp : List Addr) (it : Addr) (tn : Nat → Heap → Prop) : Prop where
  mem : it ∈ fp
  obj : ∀ i h, tn i h → ∀ b ∈ fp, ∃ o, h.get? b = some o ∧ ∀ v, o.data ≠ .cell v
  keep : ∀ i h h', tn i h → (∀ b ∈ fp, ∀ o, h.get? b = some o → h'.get? b = some o) → tn i h'
  item : ∀ (X : Cx), X.prog = P → X.w = w → X.K = K → X.calm = true → ∀ (i : Nat) (pins : List (Addr × Obj)) (s : Shared) (σ : St) (H : Hp) (E : Value → Shared → Prop), Inv X pins σ H s → (∀ b ∈ fp, FpOk X pins H b) → tn i s.heap → J.go i H →
    wpAny (model P w) X.A (pyNext (.ref it)) (fun r s1 => ∃ u, r = some u ∧
      wpAny (model P w) X.A (letOwnedTupleGo tg (.ref it) u) (fun _ s2 => ∃ x H', Inv X pins σ H' s2 ∧ RelV x u ∧ J.yld i H x H' ∧ tn (i + 1) s2.heap ∧ ∀ b ∈ fp, H' b = none) E s1) E s
  done : ∀ (X : Cx), X.prog = P → X.w = w → X.K = K → X.calm = true → ∀ (i : Nat) (pins : List (Addr × Obj)) (s : Shared) (σ : St) (H : Hp) (E : Value → Shared → Prop), Inv X pins σ H s → (∀ b ∈ fp, FpOk X pins H b) → tn i s.heap → J.stop i H →
    wpAny (model P w) X.A (pyNext (.ref it)) (fun r s1 => r = none ∧ Inv X pins σ H s1) E s
  self : ∀ (A : Around) (i : Nat) (s : Shared) (Q : Value → Shared → Prop) (E : Value → Shared → Prop), tn i s.heap → Q (.ref it) s → wpAny (model P w) A (pyIter (.ref it)) Q E s
abbrev TI := St → Hp → (It → Hp → Prop) → Prop
def PIE (X : Cx) (pins : List (Addr × Obj)) (σ : St) (tg : Expr) (R : It → Hp → Prop) (itv : Value) (s2 : Shared) : Prop :=
  ∃ (it : Addr) (fp : List Addr) (tn : Nat → Heap → Prop) (J : It) (H' : Hp), itv = .ref it ∧ Inv X pins σ H' s2 ∧ Turn X.prog X.w X.K tg J fp it tn ∧ tn 0 s2.heap ∧ (∀ b ∈ fp, FpOk X pins H' b) ∧ R J H'
def PI (X : Cx) (tg iter : Expr) (wi : TI) : Prop :=
  ∀ (pins : List (Addr × Obj)) (s : Shared) (σ : St) (H : Hp) (R : It → Hp → Prop), Inv X pins σ H s → wi σ H R →
    wpAny (model X.prog X.w) X.A (eval iter X.env) (fun v s1 => wpAny (model X.prog X.w) X.A (pyIter v) (PIE X pins σ tg R) X.xe s1) X.xe s

theorem go_of {M : Model} {A : Around} {E : Value → Shared → Prop} {s : Shared} {tg : Expr} {it : Addr} {u : Value} {o : Obj} {n : String} {vs : Array Value} {Q : Unit → Shared → Prop} (ho : s.heap.get? it = some o) (hc : o.cls = .type n) (hd : o.data = .fields vs)
    (hn : ["enumerate", "zip", "dict_itemiterator", "dict_reverseitemiterator", "odict_iterator", "itertools.zip_longest", "itertools.pairwise"].contains n = false) (hQ : Q () s) : wpAny M A (letOwnedTupleGo tg (.ref it) u) Q E s := by
  unfold letOwnedTupleGo
  cases tg <;> first
    | exact wpAny_pure hQ
    | (cases u <;> first
        | exact wpAny_pure hQ
        | (refine wpAny_bind (wpAny_load ho ?_)
           rw [hc, hd]
           show wpAny M A (if (["enumerate", "zip", "dict_itemiterator", "dict_reverseitemiterator", "odict_iterator", "itertools.zip_longest", "itertools.pairwise"].contains n && vs[0]? == some (rawInt _)) = true then _ else _) Q E s
           rw [if_neg (by intro h; rw [hn, Bool.false_and] at h; cases h)]
           exact wpAny_pure hQ))

def Itl (K : PySem.W.Frag) (a : Addr) : It :=
  ⟨fun i H => ∃ xs x, SqL K H a xs ∧ xs[i]? = some x, fun i H x H' => H' = H ∧ ∀ xs, SqL K H a xs → xs[i]? = some x, fun i H => ∃ xs, SqL K H a xs ∧ xs.length ≤ i⟩
def Itt (K : PySem.W.Frag) (a : Addr) : It :=
  ⟨fun i H => ∃ xs x, SqT K H a xs ∧ xs[i]? = some x, fun i H x H' => H' = H ∧ ∀ xs, SqT K H a xs → xs[i]? = some x, fun i H => ∃ xs, SqT K H a xs ∧ xs.length ≤ i⟩
def Itr (lo : Int) (n : Nat) : It := ⟨fun i _ => i < n, fun i H x H' => H' = H ∧ x = .int (lo + i), fun i _ => n ≤ i⟩
theorem turn_list {P : Program} {w : World} {K : PySem.W.Frag} {tg : Expr} (a it : Addr) : Turn P w K tg (Itl K a) [it] it (fun i h => h.IsListIter it a i) where
  mem := by simp
  obj := fun i h st b hb => by
    have e : b = it := by simpa using hb
    subst e
    obtain ⟨o, e, c, d⟩ := st
    exact ⟨o, e, fun v z => by rw [d] at z; cases z⟩
  keep := fun i h h' st k => st.at fun o e => k it (by simp) o e
  item := by
    intro X hP hw hK hc i pins s σ H E I hf st hg
    subst hP hw hK
    obtain ⟨xs, x, hq, hx⟩ := hg
    obtain ⟨its, rv, p, hz⟩ := I.list hq
    obtain ⟨u, hu, ru⟩ := rv.get hx
    obtain ⟨f0, f1, f2, f3, f4, f5⟩ := hf it (by simp)
    refine wpAny_pyNext_list_item st p.isList (x := u) (by simpa using hu) fun h' st' sb => ?_
    have I1 : Inv X pins σ H { s with heap := h' } := I.turned (t' := s.toks) (fun b o hb e => (sb.2 b hb).trans e) f0 f1 f3 f4 f5
    obtain ⟨o, e, c, d⟩ := id st'
    exact ⟨u, rfl, go_of (s := { s with heap := h' }) e c d (by decide) ⟨x, H, I1, ru, ⟨rfl, fun ys hy => by rw [I.list_inj hy hq]; exact hx⟩, st', fun b hb => (hf b hb).1⟩⟩
  done := by
    intro X hP hw hK hc i pins s σ H E I hf st hg
    subst hP hw hK
    obtain ⟨xs, hq, hx⟩ := hg
    obtain ⟨its, rv, p, hz⟩ := I.list hq
    obtain ⟨f0, f1, f2, f3, f4, f5⟩ := hf it (by simp)
    have hl := rv.length
    exact wpAny_pyNext_list_end (I.ok.hd hc) st p.isList (by simp; omega) fun h' eb => ⟨rfl, I.turned (t' := s.toks) (fun b o hb e => eb b o hb e) f0 f1 f3 f4 f5⟩
  self := fun _ _ _ _ _ st h => wpAny_pyIter_listiter st h
theorem turn_tuple {P : Program} {w : World} {K : PySem.W.Frag} {tg : Expr} (a it : Addr) : Turn P w K tg (Itt K a) [it] it (fun i h => h.IsTupleIter it a i) where
  mem := by simp
  obj := fun i h st b hb => by
    have e : b = it := by simpa using hb
    subst e
    obtain ⟨o, e, c, d⟩ := st
    exact ⟨o, e, fun v z => by rw [d] at z; cases z⟩
  keep := fun i h h' st k => st.at fun o e => k it (by simp) o e
  item := by
    intro X hP hw hK hc i pins s σ H E I hf st hg
    subst hP hw hK
    obtain ⟨xs, x, hq, hx⟩ := hg
    obtain ⟨its, rv, p, hz⟩ := I.tuple hq
    obtain ⟨u, hu, ru⟩ := rv.get hx
    obtain ⟨f0, f1, f2, f3, f4, f5⟩ := hf it (by simp)
    refine wpAny_pyNext_tuple_item st (show s.heap.IsTuple a its.toArray from p) (x := u) (by simpa using hu) fun h' st' sb => ?_
    have I1 : Inv X pins σ H { s with heap := h' } := I.turned (t' := s.toks) (fun b o hb e => (sb.2 b hb).trans e) f0 f1 f3 f4 f5
    obtain ⟨o, e, c, d⟩ := id st'
    exact ⟨u, rfl, go_of (s := { s with heap := h' }) e c d (by decide) ⟨x, H, I1, ru, ⟨rfl, fun ys hy => by rw [I.tuple_inj hy hq]; exact hx⟩, st', fun b hb => (hf b hb).1⟩⟩
  done := by
    intro X hP hw hK hc i pins s σ H E I hf st hg
    subst hP hw hK
    obtain ⟨xs, hq, hx⟩ := hg
    obtain ⟨its, rv, p, hz⟩ := I.tuple hq
    obtain ⟨f0, f1, f2, f3, f4, f5⟩ := hf it (by simp)
    have hl := rv.length
    exact wpAny_pyNext_tuple_end (I.ok.hd hc) st (show s.heap.IsTuple a its.toArray from p) (by simp; omega) fun h' eb => ⟨rfl, I.turned (t' := s.toks) (fun b o hb e => eb b o hb e) f0 f1 f3 f4 f5⟩
  self := fun _ _ _ _ _ st h => wpAny_pyIter_tupleiter st h
theorem turn_range {P : Program} {w : World} {K : PySem.W.Frag} {tg : Expr} (it : Addr) (lo : Int) (n : Nat) : Turn P w K tg (Itr lo n) [it] it (fun i h => IsRangeIter h it (lo + (i : Nat) * 1) ((n : Int) - (i : Nat)) 1) where
  mem := by simp
  obj := fun i h st b hb => by
    have e : b = it := by simpa using hb
    subst e
    exact ⟨_, st, fun v z => by
      have z' : Data.fields _ = Data.cell v := z
      cases z'⟩
  keep := fun i h h' st k => k it (by simp) _ st
  item := by
    intro X hP hw hK hc i pins s σ H E I hf st hg
    subst hP hw hK
    obtain ⟨f0, f1, f2, f3, f4, f5⟩ := hf it (by simp)
    have W := Walks.range (prog := X.prog) (w := X.w) (I.ok.hd hc) it lo 1 n
    refine W.item i s _ _ hg st fun v h' tk hv st' kk => ?_
    obtain ⟨t, rfl⟩ := hv
    have I1 : Inv X pins σ H { s with heap := h', toks := tk } := I.turned (fun b o hb e => kk b o (by simpa using hb) e) f0 f1 f3 f4 f5
    refine ⟨_, rfl, go_of (s := { s with heap := h', toks := tk }) (n := "range_iterator") st' rfl rfl (by decide) ⟨.int (lo + i), H, I1, ⟨t, ?_⟩, ⟨rfl, rfl⟩, st', fun b hb => (hf b hb).1⟩⟩
    rw [Int.mul_one]
  done := by
    intro X hP hw hK hc i pins s σ H E I hf st hg
    subst hP hw hK
    obtain ⟨f0, f1, f2, f3, f4, f5⟩ := hf it (by simp)
    exact wpAny_pyNext_range_end (I.ok.hd hc) st (by have : n ≤ i := hg; omega) fun h' eb => ⟨rfl, I.turned (t' := s.toks) (fun b o hb e => eb b o hb e) f0 f1 f3 f4 f5⟩
  self := fun _ _ _ _ _ st h => wpAny_pyIter_rangeiter st h
end L2

namespace L2
open PySem PySem.Spec PyProof.Rows
section
variable {X : Cx} {tg : Expr}
def iList (K : PySem.W.Frag) (tl : TE) : TI := fun σ H R => tl σ H fun x H1 => ∃ a, x = .ref a ∧ (∃ xs, SqL K H1 a xs) ∧ R (Itl K a) H1
def iTup (K : PySem.W.Frag) (tl : TE) : TI := fun σ H R => tl σ H fun x H1 => ∃ a, x = .ref a ∧ (∃ xs, SqT K H1 a xs) ∧ R (Itt K a) H1
theorem pi_list {l : Expr} {tl : TE} (hl : PE X l tl) : PI X tg l (iList X.K tl) := by
  intro pins s σ H R I h
  refine thn (hl pins s σ H _ I h) fun v s1 ⟨x, H1, I1, r1, q1⟩ => ?_
  obtain ⟨a, e, ⟨xs, hq⟩, q⟩ := q1
  subst e
  cases r1
  obtain ⟨its, rv, p, hz⟩ := I1.list hq
  refine wpAny_pyIter_list p.isList ?_
  refine ⟨s1.heap.objs.size, [s1.heap.objs.size], _, _, H1, rfl, I1.kept (t' := s1.toks) fun b o e => Heap.get?_push_of_some _ e, turn_list a _, ⟨_, Heap.get?_push_size _ rfl, rfl, rfl⟩, fun b hb => ?_, q⟩
  have e : b = s1.heap.objs.size := by simpa using hb
  subst e
  exact I1.fpOk (Nat.le_refl _) (I1.hok.fresh (Nat.le_refl _))
theorem pi_tup {l : Expr} {tl : TE} (hl : PE X l tl) : PI X tg l (iTup X.K tl) := by
  intro pins s σ H R I h
  refine thn (hl pins s σ H _ I h) fun v s1 ⟨x, H1, I1, r1, q1⟩ => ?_
  obtain ⟨a, e, ⟨xs, hq⟩, q⟩ := q1
  subst e
  cases r1
  obtain ⟨its, rv, p, hz⟩ := I1.tuple hq
  refine wpAny_pyIter_tuple (show s1.heap.IsTuple a its.toArray from p) ?_
  refine ⟨s1.heap.objs.size, [s1.heap.objs.size], _, _, H1, rfl, I1.kept (t' := s1.toks) fun b o e => Heap.get?_push_of_some _ e, turn_tuple a _, ⟨_, Heap.get?_push_size _ rfl, rfl, rfl⟩, fun b hb => ?_, q⟩
  have e : b = s1.heap.objs.size := by simpa using hb
  subst e
  exact I1.fpOk (Nat.le_refl _) (I1.hok.fresh (Nat.le_refl _))
theorem range_it {pins : List (Addr × Obj)} {σ : St} {H : Hp} {s : Shared} {R : It → Hp → Prop} {E : Value → Shared → Prop} {lo hi : Int} {t u v : Tok} {tk : Nat} (I : Inv X pins σ H s) (h1 : -(2 ^ 62) ≤ lo) (h2 : lo < 2 ^ 62) (h3 : -(2 ^ 62) ≤ hi) (h4 : hi < 2 ^ 62)
    (q : R (Itr lo (hi - lo).toNat) H) : wpAny (model X.prog X.w) X.A (pyIter (.ref s.heap.objs.size)) (PIE X pins σ tg R) E { s with heap := s.heap.push { cls := .type "range", data := .fields #[.int lo t, .int hi u, .int 1 v] }, toks := tk } := by
  refine wpAny_pyIter_range (IsRange.new ..) (small_one h1 h2 h3 h4) ?_
  have I1 : Inv X pins σ H { s with heap := s.heap.push { cls := .type "range", data := .fields #[.int lo t, .int hi u, .int 1 v] }, toks := tk } := I.kept fun b o e => Heap.get?_push_of_some _ e
  refine ⟨(s.heap.push { cls := .type "range", data := .fields #[.int lo t, .int hi u, .int 1 v] }).objs.size, [(s.heap.push { cls := .type "range", data := .fields #[.int lo t, .int hi u, .int 1 v] }).objs.size], _, _, H, rfl,
    I1.kept (t' := tk) fun b o e => Heap.get?_push_of_some _ e, turn_range _ lo (hi - lo).toNat, ?_, fun b hb => ?_, q⟩
  · have e1 : lo + ((0 : Nat) : Int) * 1 = lo := by simp
    have e2 : (((hi - lo).toNat : Nat) : Int) - ((0 : Nat) : Int) = Builtin.Range.rangeSize lo hi 1 := by rw [rangeSize_one]; split <;> omega
    show IsRangeIter _ _ (lo + ((0 : Nat) : Int) * 1) ((((hi - lo).toNat : Nat) : Int) - ((0 : Nat) : Int)) 1
    rw [e1, e2]
    exact Heap.get?_push_size _ rfl
  · have e : b = (s.heap.push { cls := .type "range", data := .fields #[.int lo t, .int hi u, .int 1 v] }).objs.size := by simpa using hb
    subst e
    exact I1.fpOk (Nat.le_refl _) (I1.hok.fresh (Nat.le_refl _))
def iRng1 (ta : TA) : TI := fun σ H R => ta σ H fun vs H1 => ∃ j : Int, vs = [.int j] ∧ -(2 ^ 62) ≤ j ∧ j < 2 ^ 62 ∧ R (Itr 0 j.toNat) H1
theorem pi_range1 {a : Expr} {ta : TA} {p pos : Pos} (hg : Gl X "range") (hm : X.mg "range" = none) (ha : PA X [a] ta) (hs : starEach [a] X.env = [(false, eval a X.env)] := by rfl) : PI X tg (.Call (.Name "range" p) [a] [] pos) (iRng1 ta) := by
  intro pins s σ H R I h
  refine Call_ (ld_blt I hg hm boot_range (PyProof.Rows.callWith_type1 (thn (ha pos pins s σ H _ I h) fun us s1 ⟨vs, H1, I1, r1, q1⟩ => ?_) hs rfl))
  obtain ⟨j, e, q1, q2, q⟩ := q1
  subst e
  cases r1 with
  | cons r rr =>
    cases rr
    obtain ⟨t, rfl⟩ := r
    exact call_range_1 (range_it I1 (by omega) (by omega) q1 q2 (by simpa using q))
/-! ### for -/
def tFor (wi : TI) (g : TG) (tb : TS) : TS := fun D σ H => wi σ H fun J H1 => ∃ W : Nat → Nat → St → Hp → Prop, (∃ m, W 0 m σ H1) ∧ ∀ i m σ H, W i m σ H →
  (J.stop i H ∧ D.nx σ H) ∨ (J.go i H ∧ ∃ N : St → Hp → Prop, (∀ σ' H', N σ' H' → ∃ m', m' < m ∧ W (i + 1) m' σ' H') ∧ ∀ x H', J.yld i H x H' → g x σ H' fun σ2 H2 => tb { D with nx := N, ct := N, bk := D.nx } σ2 H2)
def pinsAt (fp : List Addr) (h : Heap) : List (Addr × Obj) := fp.filterMap fun b => (h.get? b).map fun o => (b, o)
theorem mem_pinsAt {fp : List Addr} {h : Heap} {b : Addr} {o : Obj} (hb : b ∈ fp) (e : h.get? b = some o) : (b, o) ∈ pinsAt fp h := List.mem_filterMap.mpr ⟨b, hb, by rw [e]; rfl⟩
theorem of_pinsAt {fp : List Addr} {h : Heap} {p : Addr × Obj} (hp : p ∈ pinsAt fp h) : p.1 ∈ fp ∧ h.get? p.1 = some p.2 := by
  obtain ⟨b, hb, e⟩ := List.mem_filterMap.mp hp
  cases q : h.get? b with
  | none => rw [q] at e; cases e
  | some o =>
    rw [q] at e
    have e' : (b, o) = p := Option.some.inj e
    subst e'
    exact ⟨hb, q⟩
theorem Inv.pinned {pins : List (Addr × Obj)} {σ : St} {H : Hp} {s : Shared} {fp : List Addr} (I : Inv X pins σ H s) (hf : ∀ b ∈ fp, FpOk X pins H b) (ho : ∀ b ∈ fp, ∃ o, s.heap.get? b = some o ∧ ∀ v, o.data ≠ .cell v) : Inv X (pins ++ pinsAt fp s.heap) σ H s :=
  I.pins_of fun p hp => (List.mem_append.mp hp).elim (fun z => I.pin p (List.mem_append_right _ z)) fun z => by
    obtain ⟨hb, e⟩ := of_pinsAt z
    obtain ⟨f0, f1, f2, _⟩ := hf p.1 hb
    obtain ⟨o, e', d⟩ := ho p.1 hb
    rw [e] at e'; cases e'
    exact ⟨e, f0, f1, f2, d⟩
theorem Inv.unpinned {pins pl : List (Addr × Obj)} {σ : St} {H : Hp} {s : Shared} (I : Inv X (pins ++ pl) σ H s) : Inv X pins σ H s := I.pins_of fun p hp => I.pin p (List.mem_append_right _ (List.mem_append_left _ hp))
theorem ps_for {iter : Expr} {body : List Stmt} {wi : TI} {g : TG} {tb : TS} {pos : Pos} (hp : PassesOwn (model X.prog X.w) X.A X.env X.xe) (hc : X.calm = true) (hi : PI X tg iter wi) (hg : PG X tg g) (hb : PSs X body tb)
    (hs : ∀ x, foldedSetIterable iter X.env x = pure x := by intro _; rfl) : PS X (.For tg iter body [] pos) (tFor wi g tb) := by
  intro pins s σ H D I h
  refine wpAny_For (thn (hi pins s σ H _ I h) fun v s1 h1 => thn h1 fun itv s2 h2 => ?_) hs
  obtain ⟨it, fp, tn, J, H2, e, I2, T, st2, f2, W, ⟨m0, w0⟩, turn⟩ := h2
  subst e
  -- what stays true of the iterator's objects through the loop
  have stat : ∀ {H' : Hp}, (∀ b ∈ fp, H' b = none) → ∀ b ∈ fp, FpOk X pins H' b := fun hn b hb => ⟨hn b hb, (f2 b hb).2⟩
  refine codeAny_forLoop_any (fun n s' => ∃ i σ' H', Inv X pins σ' H' s' ∧ tn i s'.heap ∧ (∀ b ∈ fp, H' b = none) ∧ W i n σ' H') ?_ m0 ⟨0, σ, H2, I2, st2, fun b hb => (f2 b hb).1, w0⟩
  rintro n s3 ⟨i, σ3, H3, I3, st3, fr3, w3⟩
  rcases turn i n σ3 H3 w3 with ⟨stop, qn⟩ | ⟨go, N, hN, step⟩
  · refine wpAny_passesOwn hp (thn (T.done X rfl rfl rfl hc i pins s3 σ3 H3 X.xe I3 (stat fr3) st3 stop) fun r s4 ⟨hr, I4⟩ => ?_)
    subst hr
    exact wpAny_execs_nil ⟨σ3, H3, I4, qn⟩
  · refine wpAny_passesOwn hp (thn (T.item X rfl rfl rfl hc i pins s3 σ3 H3 X.xe I3 (stat fr3) st3 go) fun r s4 ⟨u, hr, h4⟩ => ?_)
    subst hr
    refine wpAny_passesOwn hp (thn h4 fun _ s5 ⟨x, H5, I5, r5, y5, st5, fr5⟩ => ?_)
    have I5' := I5.pinned (stat fr5) (T.obj _ _ st5)
    refine wpAny_passesOwn hp (thn (hg _ s5 σ3 H5 x u _ I5' r5 (step x H5 y5)) fun _ s6 ⟨σ6, H6, I6, q6⟩ => ?_)
    refine wpAny_passesOwn hp (thn (hb _ s6 σ6 H6 _ I6 q6) fun f s7 q7 => ?_)
    have again : ∀ {σ7 : St} {H7 : Hp}, Inv X (pins ++ pinsAt fp s5.heap) σ7 H7 s7 → N σ7 H7 → ∃ m, m < n ∧ ∃ i σ' H', Inv X pins σ' H' s7 ∧ tn i s7.heap ∧ (∀ b ∈ fp, H' b = none) ∧ W i m σ' H' := fun {σ7 H7} I7 n7 => by
      obtain ⟨m', hm, w7⟩ := hN σ7 H7 n7
      refine ⟨m', hm, i + 1, σ7, H7, I7.unpinned, T.keep _ _ _ st5 fun b hb o e => (I7.pin (b, o) (List.mem_append_right _ (List.mem_append_right _ (mem_pinsAt hb e)))).1, fun b hb => ?_, w7⟩
      obtain ⟨o, e, d⟩ := T.obj _ _ st5 b hb
      exact (I7.pin (b, o) (List.mem_append_right _ (List.mem_append_right _ (mem_pinsAt hb e)))).2.1
    cases f with
    | next => obtain ⟨σ7, H7, I7, n7⟩ := q7; exact again I7 n7
    | cont => obtain ⟨σ7, H7, I7, n7⟩ := q7; exact again I7 n7
    | brk => obtain ⟨σ7, H7, I7, q7⟩ := q7; exact ⟨σ7, H7, I7.unpinned, q7⟩
    | ret v => obtain ⟨x7, σ7, H7, I7, r7, q7⟩ := q7; exact ⟨x7, σ7, H7, I7.unpinned, r7, q7⟩
end

/-! ### the forms one uses -/
theorem for_list {K : PySem.W.Frag} {a : Addr} {xs : List V} {g : TG} {tb : TS} {D : Ends} {σ : St} {H : Hp} (Pv : Nat → St → Hp → Prop) (h0 : Pv 0 σ H) (hl : ∀ i σ H, i ≤ xs.length → Pv i σ H → SqL K H a xs)
    (hs : ∀ i x σ H, xs[i]? = some x → Pv i σ H → g x σ H fun σ2 H2 => tb { D with nx := Pv (i + 1), ct := Pv (i + 1), bk := D.nx } σ2 H2) (hd : ∀ σ H, Pv xs.length σ H → D.nx σ H) :
    ∃ W : Nat → Nat → St → Hp → Prop, (∃ m, W 0 m σ H) ∧ ∀ i m σ H, W i m σ H →
      ((Itl K a).stop i H ∧ D.nx σ H) ∨ ((Itl K a).go i H ∧ ∃ N : St → Hp → Prop, (∀ σ' H', N σ' H' → ∃ m', m' < m ∧ W (i + 1) m' σ' H') ∧ ∀ x H', (Itl K a).yld i H x H' → g x σ H' fun σ2 H2 => tb { D with nx := N, ct := N, bk := D.nx } σ2 H2) := by
  refine ⟨fun i m σ H => m = xs.length - i ∧ i ≤ xs.length ∧ Pv i σ H, ⟨xs.length, by simp, Nat.zero_le _, h0⟩, ?_⟩
  rintro i m σ H ⟨rfl, hi, p⟩
  have q := hl i σ H hi p
  by_cases hlt : i < xs.length
  · refine .inr ⟨⟨xs, xs[i], q, by simp [hlt]⟩, Pv (i + 1), fun σ' H' p' => ⟨xs.length - (i + 1), by omega, rfl, hlt, p'⟩, fun x H' y => ?_⟩
    obtain ⟨e, y⟩ := y
    subst e
    exact hs i x σ _ (y xs q) p
  · have e : i = xs.length := by omega
    subst e
    exact .inl ⟨⟨xs, q, Nat.le_refl _⟩, hd σ H p⟩
theorem for_range {lo : Int} {n : Nat} {g : TG} {tb : TS} {D : Ends} {σ : St} {H : Hp} (Pv : Nat → St → Hp → Prop) (h0 : Pv 0 σ H)
    (hs : ∀ i σ H, i < n → Pv i σ H → g (.int (lo + i)) σ H fun σ2 H2 => tb { D with nx := Pv (i + 1), ct := Pv (i + 1), bk := D.nx } σ2 H2) (hd : ∀ σ H, Pv n σ H → D.nx σ H) :
    ∃ W : Nat → Nat → St → Hp → Prop, (∃ m, W 0 m σ H) ∧ ∀ i m σ H, W i m σ H →
      ((Itr lo n).stop i H ∧ D.nx σ H) ∨ ((Itr lo n).go i H ∧ ∃ N : St → Hp → Prop, (∀ σ' H', N σ' H' → ∃ m', m' < m ∧ W (i + 1) m' σ' H') ∧ ∀ x H', (Itr lo n).yld i H x H' → g x σ H' fun σ2 H2 => tb { D with nx := N, ct := N, bk := D.nx } σ2 H2) := by
  refine ⟨fun i m σ H => m = n - i ∧ i ≤ n ∧ Pv i σ H, ⟨n, by simp, Nat.zero_le _, h0⟩, ?_⟩
  rintro i m σ H ⟨rfl, hi, p⟩
  by_cases hlt : i < n
  · refine .inr ⟨hlt, Pv (i + 1), fun σ' H' p' => ⟨n - (i + 1), by omega, rfl, hlt, p'⟩, fun x H' y => ?_⟩
    obtain ⟨e, y⟩ := y
    subst e y
    exact hs i σ _ hlt p
  · have e : i = n := by omega
    subst e
    exact .inl ⟨Nat.le_refl _, hd σ H p⟩
end L2

namespace L2
open PySem PySem.Spec PyProof.Rows

abbrev R2 := V → V → Hp → VK → Prop
def OpR (X : Cx) (f : Value → Value → Sem Value) (r : R2) : Prop :=
  ∀ (pins : List (Addr × Obj)) (s : Shared) (σ : St) (H : Hp) (x y : V) (v u : Value) (Q : VK), Inv X pins σ H s → RelV x v → RelV y u → r x y H Q →
    wpAny (model X.prog X.w) X.A (f v u) (EP X pins σ Q) X.xe s
def UnR (X : Cx) (f : Value → Sem Value) (r : V → Hp → VK → Prop) : Prop :=
  ∀ (pins : List (Addr × Obj)) (s : Shared) (σ : St) (H : Hp) (x : V) (v : Value) (Q : VK), Inv X pins σ H s → RelV x v → r x H Q →
    wpAny (model X.prog X.w) X.A (f v) (EP X pins σ Q) X.xe s
def CallR (X : Cx) (f : Value) (r : List V → Hp → VK → Prop) : Prop :=
  ∀ (pins : List (Addr × Obj)) (s : Shared) (σ : St) (H : Hp) (xs : List V) (us : List Value) (Q : VK), Inv X pins σ H s → Vals xs us → r xs H Q →
    wpAny (model X.prog X.w) X.A (call f us) (EP X pins σ Q) X.xe s
def tOp (r : R2) (ta tb : TE) : TE := fun σ H Q => ta σ H fun x H1 => tb σ H1 fun y H2 => r x y H2 Q
def tUn (r : V → Hp → VK → Prop) (ta : TE) : TE := fun σ H Q => ta σ H fun x H1 => r x H1 Q
def rI (C : Int → Int → Prop) (g : Int → Int → V) : R2 := fun x y H Q => ∃ i j, x = .int i ∧ y = .int j ∧ C i j ∧ Q (g i j) H
def rI0 (g : Int → Int → V) : R2 := fun x y H Q => ∃ i j, x = .int i ∧ y = .int j ∧ Q (g i j) H
def rU (g : Int → V) : V → Hp → VK → Prop := fun x H Q => ∃ i, x = .int i ∧ Q (g i) H

section
variable {X : Cx} {a b c : Expr} {ta tb tc : TE} {pos : Pos}

theorem binT (ha : PE X a ta) (hb : PE X b tb) {pins : List (Addr × Obj)} {s : Shared} {σ : St} {H : Hp} {R : V → V → Hp → Prop} (I : Inv X pins σ H s)
    (h : ta σ H fun x H1 => tb σ H1 fun y H2 => R x y H2) {Q : Value → Shared → Prop} {f : Value → Value → Sem Value}
    (hf : ∀ v u s2 x y H2, Inv X pins σ H2 s2 → RelV x v → RelV y u → R x y H2 → wpAny (model X.prog X.w) X.A (f v u) Q X.xe s2) :
    wpAny (model X.prog X.w) X.A (eval a X.env) (fun v s₁ => wpAny (model X.prog X.w) X.A (eval b X.env) (fun u s₂ => wpAny (model X.prog X.w) X.A (f v u) Q X.xe s₂) X.xe s₁) X.xe s := by
  refine thn (ha pins s σ H _ I h) fun v s1 ⟨x, H1, I1, r1, q1⟩ => ?_
  refine thn (hb pins s1 σ H1 _ I1 q1) fun u s2 ⟨y, H2, I2, r2, q2⟩ => ?_
  exact hf v u s2 x y H2 I2 r1 r2 q2

theorem pe_op {op : Operator} {r : R2} (ho : OpR X (binaryOp op) r) (ha : PE X a ta) (hb : PE X b tb) : PE X (.BinOp a op b pos) (tOp r ta tb) := by
  intro pins s σ H Q I h
  exact wpAny_BinOp (binT ha hb I h fun v u s2 x y H2 I2 rx ry q => ho pins s2 σ H2 x y v u Q I2 rx ry q)
theorem pe_un {op : UnaryOp} {r : V → Hp → VK → Prop} (ho : UnR X (unaryOp op) r) (ha : PE X a ta) : PE X (.UnaryOp op a pos) (tUn r ta) := by
  intro pins s σ H Q I h
  exact UnaryOp_ (thn (ha pins s σ H _ I h) fun v s1 ⟨x, H1, I1, r1, q1⟩ => ho pins s1 σ H1 x v Q I1 r1 q1)
/-! ### ints -/
theorem opI {f : Value → Value → Sem Value} {C : Int → Int → Prop} {g : Int → Int → Int}
    (rule : ∀ (i j : Int) (t u : Tok) (s : Shared) (Q : Value → Shared → Prop) (E : Value → Shared → Prop), C i j → Q (.int (g i j) s.toks) { s with toks := s.toks + 1 } → wpAny (model X.prog X.w) X.A (f (.int i t) (.int j u)) Q E s) :
    OpR X f (rI C fun i j => .int (g i j)) := by
  intro pins s σ H x y v u Q I rx ry h
  obtain ⟨i, j, rfl, rfl, hc, q⟩ := h
  obtain ⟨t, rfl⟩ := rx
  obtain ⟨t', rfl⟩ := ry
  exact rule i j t t' s _ _ hc ⟨.int (g i j), H, I.tok _, ⟨_, rfl⟩, q⟩
theorem opI0 {f : Value → Value → Sem Value} {g : Int → Int → Int}
    (rule : ∀ (i j : Int) (t u : Tok) (s : Shared) (Q : Value → Shared → Prop) (E : Value → Shared → Prop), Q (.int (g i j) s.toks) { s with toks := s.toks + 1 } → wpAny (model X.prog X.w) X.A (f (.int i t) (.int j u)) Q E s) :
    OpR X f (rI0 fun i j => .int (g i j)) := by
  intro pins s σ H x y v u Q I rx ry h
  obtain ⟨i, j, rfl, rfl, q⟩ := h
  obtain ⟨t, rfl⟩ := rx
  obtain ⟨t', rfl⟩ := ry
  exact rule i j t t' s _ _ ⟨.int (g i j), H, I.tok _, ⟨_, rfl⟩, q⟩
theorem opB0 {f : Value → Value → Sem Value} {g : Int → Int → Bool}
    (rule : ∀ (i j : Int) (t u : Tok) (s : Shared) (Q : Value → Shared → Prop) (E : Value → Shared → Prop), Q (.bool (g i j)) s → wpAny (model X.prog X.w) X.A (f (.int i t) (.int j u)) Q E s) :
    OpR X f (rI0 fun i j => .bl (g i j)) := by
  intro pins s σ H x y v u Q I rx ry h
  obtain ⟨i, j, rfl, rfl, q⟩ := h
  obtain ⟨t, rfl⟩ := rx
  obtain ⟨t', rfl⟩ := ry
  exact rule i j t t' s _ _ ⟨.bl (g i j), H, I, rfl, q⟩

def CDiv (i j : Int) : Prop := 0 < j ∧ j < 1073741824
def CPow (i j : Int) : Prop := 0 ≤ j ∧ j ≤ 1000000 ∧ i.natAbs < 2 ^ 64
def CMul (i j : Int) : Prop := (-(2 ^ 64) < i ∧ i < 2 ^ 64) ∨ (-(2 ^ 64) < j ∧ j < 2 ^ 64)
theorem CMul.ok {i j : Int} (h : CMul i j) : IntMulOk i j := by
  rcases h with ⟨h1, h2⟩ | ⟨h1, h2⟩
  · exact .of_left (intBits_le_64 h1 h2)
  · exact .of_right (intBits_le_64 h1 h2)
theorem two_pow_nn (k : Nat) : (0 : Int) ≤ 2 ^ k := by
  rw [two_pow_cast]
  exact Int.natCast_nonneg _

theorem op_add : OpR X (binaryOp .Add) (rI0 fun i j => .int (i + j)) := opI0 fun _ _ _ _ _ _ _ q => add_int q
theorem op_sub : OpR X (binaryOp .Sub) (rI0 fun i j => .int (i - j)) := opI0 fun _ _ _ _ _ _ _ q => sub_int q
theorem op_mul : OpR X (binaryOp .Mult) (rI CMul fun i j => .int (i * j)) := opI fun _ _ _ _ _ _ _ hc q => mul_int q hc.ok
theorem op_fdiv : OpR X (binaryOp .FloorDiv) (rI CDiv fun i j => .int (i / j)) := opI fun i j _ _ _ _ _ hc q => by
  have h1 : (0 : Int) < j := hc.1
  have h2 : j < 1073741824 := hc.2
  exact floordiv_int (by omega) (by rw [Int.fdiv_eq_ediv_of_nonneg i (by omega)]; exact q) (.inl (PyProof.noPylong_small (by omega)))
theorem op_mod : OpR X (binaryOp .Mod) (rI (fun _ j => 0 < j) fun i j => .int (i % j)) := opI fun i j _ _ _ _ _ hc q => by
  have h1 : (0 : Int) < j := hc
  exact mod_int' (by omega) (by rw [Int.fmod_eq_emod_of_nonneg i (by omega)]; exact q)
theorem op_pow : OpR X (binaryOp .Pow) (rI CPow fun i j => .int (i ^ j.toNat)) := opI fun _ _ _ _ _ _ _ hc q => pow_int_small hc.1 hc.2.1 hc.2.2 q
theorem op_shr : OpR X (binaryOp .RShift) (rI (fun _ j => 0 ≤ j) fun i j => .int (i / 2 ^ j.toNat)) := opI fun i j _ _ _ _ _ hc q =>
  rshift_int hc (by rw [Int.fdiv_eq_ediv_of_nonneg i (two_pow_nn _)]; exact q)
theorem op_and : OpR X (binaryOp .BitAnd) (rI0 fun i j => .int (Builtin.bitAnd i j)) := opI0 fun _ _ _ _ _ _ _ q => and_int q
theorem op_or : OpR X (binaryOp .BitOr) (rI0 fun i j => .int (Builtin.bitOr i j)) := opI0 fun _ _ _ _ _ _ _ q => or_int q
theorem unI {f : Value → Sem Value} {g : Int → Int}
    (rule : ∀ (i : Int) (t : Tok) (s : Shared) (Q : Value → Shared → Prop) (E : Value → Shared → Prop), Q (.int (g i) s.toks) { s with toks := s.toks + 1 } → wpAny (model X.prog X.w) X.A (f (.int i t)) Q E s) :
    UnR X f (rU fun i => .int (g i)) := by
  intro pins s σ H x v Q I rx h
  obtain ⟨i, rfl, q⟩ := h
  obtain ⟨t, rfl⟩ := rx
  exact rule i t s _ _ ⟨.int (g i), H, I.tok _, ⟨_, rfl⟩, q⟩
theorem un_neg : UnR X (unaryOp .USub) (rU fun i => .int (-i)) := unI fun _ _ _ _ _ q => neg_int q
/-! ### bools among ints: n += (a < b) -/
end

/-! ### comparisons -/
def scal : V → V → Bool
  | .non, .non => true | .non, .int _ => true | .int _, .non => true | .non, .bl _ => true | .bl _, .non => true | .non, .str _ => true | .str _, .non => true
  | .int _, .int _ => true | .bl _, .bl _ => true | .str _, .str _ => true | .byt _, .byt _ => true
  | .int _, .str _ => true | .str _, .int _ => true | .bl _, .str _ => true | .str _, .bl _ => true
  | _, _ => false
def rEq : R2 := fun x y H Q => scal x y = true ∧ Q (.bl (decide (x = y))) H
def rNe : R2 := fun x y H Q => scal x y = true ∧ Q (.bl (!decide (x = y))) H

theorem dec_int {i j : Int} : decide (V.int i = V.int j) = (i == j) := by
  rw [Bool.eq_iff_iff]
  simp
theorem dec_bl {i j : Bool} : decide (V.bl i = V.bl j) = (i == j) := by
  rw [Bool.eq_iff_iff]
  simp
theorem dec_str {i j : Str} : decide (V.str i = V.str j) = (i == j) := by
  rw [Bool.eq_iff_iff]
  simp
theorem dec_byt {i j : Array UInt8} : decide (V.byt i = V.byt j) = (i.toList == j.toList) := by
  rw [Bool.eq_iff_iff]
  cases i
  cases j
  simp

section
variable {X : Cx} {a b c : Expr} {ta tb tc : TE} {pos : Pos}
theorem fin_bl {pins : List (Addr × Obj)} {σ : St} {H : Hp} {s : Shared} {Q : VK} {k k' : Bool} (I : Inv X pins σ H s) (q : Q (.bl k) H) (e : k = k') : EP X pins σ Q (.bool k') s := by
  subst e
  exact ⟨.bl k, H, I, rfl, q⟩
theorem op_eq : OpR X (compareOp .Eq) rEq := by
  intro pins s σ H x y v u Q I rx ry h
  obtain ⟨hs, q⟩ := h
  cases x with
  | non =>
    cases rx
    cases y with
    | non => cases ry; exact PySem.EqNone.eq_none_none (fin_bl I q (by simp))
    | bl j => cases ry; exact PySem.EqNone.eq_none_bool (fin_bl I q (by simp))
    | int j => obtain ⟨t', rfl⟩ := ry; exact PySem.EqNone.eq_none_int (fin_bl I q (by simp))
    | str j => obtain ⟨t', rfl⟩ := ry; exact PySem.EqNone.eq_none_str (fin_bl I q (by simp))
    | _ => exact absurd (show false = true from hs) Bool.false_ne_true
  | bl i =>
    cases rx
    cases y with
    | non => cases ry; exact PySem.EqNone.eq_bool_none (fin_bl I q (by simp))
    | bl j => cases ry; exact eq_bool (fin_bl I q dec_bl)
    | str j => obtain ⟨t', rfl⟩ := ry; exact PySem.EqMixed.eq_bool_str (fin_bl I q (by simp))
    | _ => exact absurd (show false = true from hs) Bool.false_ne_true
  | int i =>
    obtain ⟨t, rfl⟩ := rx
    cases y with
    | non => cases ry; exact PySem.EqNone.eq_int_none (fin_bl I q (by simp))
    | int j => obtain ⟨t', rfl⟩ := ry; exact eq_int (fin_bl I q dec_int)
    | str j => obtain ⟨t', rfl⟩ := ry; exact PySem.EqMixed.eq_int_str (fin_bl I q (by simp))
    | _ => exact absurd (show false = true from hs) Bool.false_ne_true
  | str i =>
    obtain ⟨t, rfl⟩ := rx
    cases y with
    | non => cases ry; exact PySem.EqNone.eq_str_none (fin_bl I q (by simp))
    | bl j => cases ry; exact PySem.EqMixed.eq_str_bool (fin_bl I q (by simp))
    | int j => obtain ⟨t', rfl⟩ := ry; exact PySem.EqMixed.eq_str_int (fin_bl I q (by simp))
    | str j => obtain ⟨t', rfl⟩ := ry; exact eq_str (fin_bl I q dec_str)
    | _ => exact absurd (show false = true from hs) Bool.false_ne_true
  | byt i =>
    obtain ⟨t, rfl⟩ := rx
    cases y with
    | byt j => obtain ⟨t', rfl⟩ := ry; exact PySem.W.eq_bytes (fin_bl I q dec_byt)
    | _ => exact absurd (show false = true from hs) Bool.false_ne_true
  | _ => cases y <;> exact absurd (show false = true from hs) Bool.false_ne_true
theorem op_ne : OpR X (compareOp .NotEq) rNe := by
  intro pins s σ H x y v u Q I rx ry h
  obtain ⟨hs, q⟩ := h
  cases x with
  | non =>
    cases rx
    cases y with
    | non => cases ry; exact PySem.EqNone.ne_none_none (fin_bl I q (by simp))
    | bl j => cases ry; exact PySem.EqNone.ne_none_bool (fin_bl I q (by simp))
    | int j => obtain ⟨t', rfl⟩ := ry; exact PySem.EqNone.ne_none_int (fin_bl I q (by simp))
    | str j => obtain ⟨t', rfl⟩ := ry; exact PySem.EqNone.ne_none_str (fin_bl I q (by simp))
    | _ => exact absurd (show false = true from hs) Bool.false_ne_true
  | bl i =>
    cases rx
    cases y with
    | non => cases ry; exact PySem.EqNone.ne_bool_none (fin_bl I q (by simp))
    | bl j => cases ry; exact ne_bool (fin_bl I q (congrArg not dec_bl))
    | str j => obtain ⟨t', rfl⟩ := ry; exact PySem.EqMixed.ne_bool_str (fin_bl I q (by simp))
    | _ => exact absurd (show false = true from hs) Bool.false_ne_true
  | int i =>
    obtain ⟨t, rfl⟩ := rx
    cases y with
    | non => cases ry; exact PySem.EqNone.ne_int_none (fin_bl I q (by simp))
    | int j => obtain ⟨t', rfl⟩ := ry; exact ne_int (fin_bl I q (congrArg not dec_int))
    | str j => obtain ⟨t', rfl⟩ := ry; exact PySem.EqMixed.ne_int_str (fin_bl I q (by simp))
    | _ => exact absurd (show false = true from hs) Bool.false_ne_true
  | str i =>
    obtain ⟨t, rfl⟩ := rx
    cases y with
    | non => cases ry; exact PySem.EqNone.ne_str_none (fin_bl I q (by simp))
    | bl j => cases ry; exact PySem.EqMixed.ne_str_bool (fin_bl I q (by simp))
    | int j => obtain ⟨t', rfl⟩ := ry; exact PySem.EqMixed.ne_str_int (fin_bl I q (by simp))
    | str j => obtain ⟨t', rfl⟩ := ry; exact ne_str (fin_bl I q (congrArg not dec_str))
    | _ => exact absurd (show false = true from hs) Bool.false_ne_true
  | byt i =>
    obtain ⟨t, rfl⟩ := rx
    cases y with
    | byt j => obtain ⟨t', rfl⟩ := ry; exact PySem.W.ne_bytes (fin_bl I q (congrArg not dec_byt))
    | _ => exact absurd (show false = true from hs) Bool.false_ne_true
  | _ => cases y <;> exact absurd (show false = true from hs) Bool.false_ne_true

theorem op_lt : OpR X (compareOp .Lt) (rI0 fun i j => .bl (decide (i < j))) := opB0 fun _ _ _ _ _ _ _ q => lt_int q
theorem op_le : OpR X (compareOp .LtE) (rI0 fun i j => .bl (decide (i ≤ j))) := opB0 fun _ _ _ _ _ _ _ q => le_int q
theorem op_gt : OpR X (compareOp .Gt) (rI0 fun i j => .bl (decide (j < i))) := opB0 fun _ _ _ _ _ _ _ q => gt_int q
theorem op_ge : OpR X (compareOp .GtE) (rI0 fun i j => .bl (decide (j ≤ i))) := opB0 fun _ _ _ _ _ _ _ q => ge_int q
theorem op_in_str : OpR X (compareOp .In) (fun x y H Q => ∃ i j, x = .str i ∧ y = .str j ∧ Q (.bl (!(Builtin.Str.occurrences j i 0 j.length 1).isEmpty)) H) := by
  intro pins s σ H x y v u Q I rx ry h
  obtain ⟨i, j, rfl, rfl, q⟩ := h
  obtain ⟨t, rfl⟩ := rx
  obtain ⟨t', rfl⟩ := ry
  exact in_str (fin_bl I q rfl)

theorem op_isN : OpR X (compareOp .Is) (fun x y H Q => y = .non ∧ Q (.bl (decide (x = .non))) H) := by
  intro pins s σ H x y v u Q I rx ry h
  obtain ⟨rfl, q⟩ := h
  cases ry
  refine is_none_gen (fin_bl I q ?_)
  cases x <;> first
    | (cases rx; rfl)
    | (obtain ⟨t, rfl⟩ := rx; rfl)
theorem op_notN : OpR X (compareOp .IsNot) (fun x y H Q => y = .non ∧ Q (.bl (!decide (x = .non))) H) := by
  intro pins s σ H x y v u Q I rx ry h
  obtain ⟨rfl, q⟩ := h
  cases ry
  refine isnot_none_gen (fin_bl I q ?_)
  cases x <;> first
    | (cases rx; rfl)
    | (obtain ⟨t, rfl⟩ := rx; rfl)

theorem nomark (b : Expr) {op : CmpOp} (h : op ≠ .In := by decide) (h2 : op ≠ .NotIn := by decide) : behindInMarks op b = false := by
  have e1 : (op == CmpOp.In) = false := by cases op <;> first | rfl | exact absurd rfl h
  have e2 : (op == CmpOp.NotIn) = false := by cases op <;> first | rfl | exact absurd rfl h2
  cases b <;> simp [behindInMarks, e1, e2]
theorem pe_cmpR {op : CmpOp} {r : R2} (ho : OpR X (compareOp op) r) (ha : PE X a ta) (hb : PE X b tb) (hm : behindInMarks op b = false) : PE X (.Compare a [op] [b] pos) (tOp r ta tb) := by
  intro pins s σ H Q I h
  exact wpAny_Compare1 (binT ha hb I h fun v u s2 x y H2 I2 rx ry q => ho pins s2 σ H2 x y v u Q I2 rx ry q) hm
def tTest (t : TE) : TT := fun σ H Q => t σ H fun x H' => ∃ k, x = .bl k ∧ Q k H'
theorem pt_cmpR {op : CmpOp} {r : R2} (ho : OpR X (compareOp op) r) (ha : PE X a ta) (hb : PE X b tb) (hm : behindInMarks op b = false) : PT X (.Compare a [op] [b] pos) (tTest (tOp r ta tb)) := by
  intro pins s σ H Q I h
  refine wpAny_isTrue_Compare1 (thn (ha pins s σ H _ I h) fun v s1 ⟨x, H1, I1, r1, q1⟩ => thn (hb pins s1 σ H1 _ I1 q1) fun u s2 ⟨y, H2, I2, r2, q2⟩ =>
    thn (ho pins s2 σ H2 x y v u _ I2 r1 r2 q2) fun c s3 ⟨z, H3, I3, r3, k, e, q3⟩ => ?_) hm
  subst e
  cases r3
  exact wpAny_truthy_bool ⟨H3, I3, q3⟩
/-! ### truth -/
theorem line63 : (sizeLine : Nat) < 2 ^ 63 := by rw [sizeLine_eq]; decide
/-! ### strs and bytes -/
theorem op_add_str : OpR X (binaryOp .Add) (fun x y H Q => ∃ i j, x = .str i ∧ y = .str j ∧ i.length + j.length ≤ sizeLine ∧ Q (.str (i ++ j)) H) := by
  intro pins s σ H x y v u Q I rx ry h
  obtain ⟨i, j, rfl, rfl, hz, q⟩ := h
  obtain ⟨t, rfl⟩ := rx
  obtain ⟨t', rfl⟩ := ry
  exact add_str (fun t' tk => ⟨.str (i ++ j), H, I.tok _, ⟨_, rfl⟩, q⟩) hz
/-! ### scalar builtins, by CallR -/
theorem vals1 {x : V} {us : List Value} (r : Vals [x] us) : ∃ u, us = [u] ∧ RelV x u := by
  cases r with
  | cons r1 r2 => cases r2; exact ⟨_, rfl, r1⟩
theorem call_int1 : CallR X (.type "int") (fun xs H Q => (∃ i, xs = [.int i] ∧ Q (.int i) H) ∨ ∃ k, xs = [.bl k] ∧ Q (.int (if k then 1 else 0)) H) := by
  intro pins s σ H xs us Q I r h
  rcases h with ⟨i, rfl, q⟩ | ⟨k, rfl, q⟩
  · obtain ⟨u, rfl, t, rfl⟩ := vals1 r
    exact call_int_int ⟨.int i, H, I, ⟨_, rfl⟩, q⟩
  · obtain ⟨u, rfl, r1⟩ := vals1 r
    cases r1
    exact call_int_bool ⟨.int (if k then 1 else 0), H, I.tok _, ⟨_, rfl⟩, q⟩
theorem call_str_int : CallR X (.type "str") (fun xs H Q => ∃ i, xs = [.int i] ∧ i.natAbs.log2 < 1920 ∧ Q (.str (toString i)) H) := by
  intro pins s σ H xs us Q I r h
  obtain ⟨i, rfl, hz, q⟩ := h
  obtain ⟨u, rfl, t, rfl⟩ := vals1 r
  exact PySem.P.str_of_int hz ⟨.str _, H, I.tok _, ⟨_, rfl⟩, q⟩
end
end L2

namespace L2
open PySem PySem.Spec PyProof.Rows

/-! ### an instance, its attributes a map -/
structure ObjM (h : Heap) (x dx C : Addr) (mA : Str → Option Value) : Prop where
  obj : h.get? x = some (PySem.W.instObj C dx)
  ns : h.Ns1 dx mA
  ne : dx ≠ x

theorem lookIn_ns {h : Heap} {dx : Addr} {mA : Str → Option Value} (n : h.Ns1 dx mA) : ∃ od, h.get? dx = some od ∧ ∀ name, PySem.W.lookIn name od = some (mA name) := by
  obtain ⟨o, es, ep, ho, hd, hk, _, hm⟩ := n
  refine ⟨o, ho, fun name => ?_⟩
  have e := hm name
  unfold nsFind findBy at e
  rw [← Array.find?_toList] at e
  unfold PySem.W.lookIn
  rw [hd]
  dsimp only
  split
  · rename_i y q
    rw [q] at e
    exact congrArg some e
  · rename_i q
    rw [q] at e
    have a : es.toList.any (·.refKey) = false := by
      rw [List.any_eq_false]
      intro y hy
      obtain ⟨z, t, hkey⟩ := hk y (Array.mem_toList_iff.mp hy)
      simp [DictEntry.refKey, hkey]
    have a' : ¬ es.toList.any (·.refKey) = true := by rw [a]; exact Bool.false_ne_true
    rw [if_neg a']
    exact congrArg some e

theorem ObjM.look {h : Heap} {x dx C : Addr} {mA : Str → Option Value} (I : ObjM h x dx C mA) : ∃ od, PySem.W.InstAt h x (PySem.W.instObj C dx) C (some od) ∧ ∀ name, PySem.W.lookIn name od = some (mA name) :=
  let ⟨od, ho, hl⟩ := lookIn_ns I.ns
  ⟨od, ⟨I.obj, rfl, rfl, ho⟩, hl⟩

section
variable {prog : Program} {w : World} {A : Around} {E : Value → Shared → Prop} {s : Shared} {K : PySem.W.Frag} {x dx C f : Addr} {mA : Str → Option Value} {name : Str} {v : Value}

end

/-! ### the attributes as a list of pairs -/
theorem RelO.some_of {v : V} {o : Option Value} (r : RelO (some v) o) : ∃ u, o = some u ∧ RelV v u := by
  cases o with
  | none => exact (show False from r).elim
  | some u => exact ⟨u, rfl, r⟩
theorem handed_of {v : V} {u : Value} (r : RelV v u) : PySem.W.handedIn u = true := by
  cases v with
  | non => cases (show u = Value.none from r); rfl
  | bl b => cases (show u = Value.bool b from r); rfl
  | int i => obtain ⟨t, e⟩ := (show ∃ t, u = Value.int i t from r); cases e; rfl
  | str x => obtain ⟨t, e⟩ := (show ∃ t, u = Value.str x t from r); cases e; rfl
  | byt b => obtain ⟨t, e⟩ := (show ∃ t, u = Value.bytes b t from r); cases e; rfl
  | flt b => obtain ⟨t, e⟩ := (show ∃ t, u = Value.float b t from r); cases e; rfl
  | ref a => cases (show u = Value.ref a from r); rfl
  | ty n => cases (show u = Value.type n from r); rfl

section
variable {P : Program} {w : World} {H H' : Hp} {h h' : Heap} {a C dx : Addr} {fs fs' : List (Str × V)}
theorem ins_get (hok : HOk P w H h) (e : H a = some (.ins C dx fs)) : ∃ mA, ObjM h a dx C mA ∧ (∀ f, RelO (fs.lookup f) (mA f)) ∧ PySem.Within mA (fs.map (·.1)) ∧ fs.length ≤ 1000 ∧ H dx = some (.own a) := by
  obtain ⟨d, z, ne, ob, mA, n, r, q⟩ := (show ObjOk P w H h a (.ins C dx fs) from hok a _ e)
  exact ⟨mA, ⟨ob, n, ne⟩, r, q, z, d⟩
end

/-! ### what of the text a class must have -/
structure Cls (K : PySem.W.Frag) (C : Addr) : Prop where
  pg : PySem.W.plainGet K C Str.empty = true
  hd : PySem.W.hasDictIn K C = true
  po : PySem.W.plainOver K C = true
  sa : PySem.W.findIn K (.ref C) "__setattr__" = some (some (.builtin "object.__setattr__"))
theorem Cls.get {K : PySem.W.Frag} {C : Addr} (c : Cls K C) (f : Str) : PySem.W.plainGet K C f = true := c.pg
def NoAttr (K : PySem.W.Frag) (C : Addr) (f : Str) : Prop := PySem.W.findIn K (.ref C) f = some none
section
variable {X : Cx} {pins : List (Addr × Obj)} {σ : St} {H : Hp} {s : Shared} {a C dx : Addr} {fs : List (Str × V)} {f : Str} {v : V} {A : Around} {E : Value → Shared → Prop}

theorem attr_of {prog : Program} {w : World} {env : Env} {e : Expr} {f : Str} {pos : Pos} {s : Shared} {Q : Value → Shared → Prop} (hb : attributeBase e f env (eval e env) = eval e env)
    (h : wpAny (model prog w) A (eval e env) (fun o s₁ => wpAny (model prog w) A (getAttr o f true) Q E s₁) E s) : wpAny (model prog w) A (eval (.Attribute e f pos) env) Q E s :=
  Attribute_any_ h (by rw [arm_eval_Attribute, hb])
end

/-! ### readings and rules -/
section
variable {X : Cx} {o e value : Expr} {f : Str} {pos pos' tpos : Pos} {ta tv : TE}
end

/-! ### isinstance -/
section
variable {X : Cx} {pins : List (Addr × Obj)} {σ : St} {H : Hp} {s : Shared} {A : Around} {E : Value → Shared → Prop} {Q : Value → Shared → Prop} {c : Value} {b : Bool}
inductive TyOf (K : PySem.W.Frag) (H : Hp) : V → Value → Prop where
  | non : TyOf K H .non (.type "NoneType")
  | bl (x : Bool) : TyOf K H (.bl x) (.type "bool")
  | int (i : Int) : TyOf K H (.int i) (.type "int")
  | str (x : Str) : TyOf K H (.str x) (.type "str")
  | flt (x : UInt64) : TyOf K H (.flt x) (.type "float")
  | lst {a : Addr} {xs : List V} (e : H a = some (.lst xs)) : TyOf K H (.ref a) (.type "list")
  | frz {a : Addr} {o : Obj} {xs : List V} (e : H a = some (.frz o (.lst xs))) : TyOf K H (.ref a) (.type "list")
  | tup {a : Addr} {xs : List V} (e : H a = some (.tup xs)) : TyOf K H (.ref a) (.type "tuple")
  | dK {a : Addr} {kvs : List (Key × V)} (e : H a = some (.dK kvs)) : TyOf K H (.ref a) (.type "dict")
  | dT {a : Addr} {kvs : List (List Key × V)} (e : H a = some (.dT kvs)) : TyOf K H (.ref a) (.type "dict")
  | ins {a C dx : Addr} {fs : List (Str × V)} (e : H a = some (.ins C dx fs)) (cl : Cls K C) (ha : PySem.W.findIn K (.ref C) "__class__" = some (some (.builtin "object.__class__")))
      (hn : PySem.W.specialIn K (.builtin "object.__class__") "__get__" = some (some (.builtin "getset_descriptor.__get__"))) (htk : PySem.W.takesIn K (.builtin "object.__class__") = some true)
      (hm : PySem.W.mroIn K C (.type "object") = some true) : TyOf K H (.ref a) (.ref C)
theorem isinst_ok {x : V} {u t : Value} (I : Inv X pins σ H s) (rx : RelV x u) (ty : TyOf X.K H x t) (e : PySem.W.kitOne X.K t c = some b) (h : ∀ tk, Q (.bool b) { s with toks := tk }) :
    wpAny (model X.prog X.w) A (call (.builtin "isinstance") [u, c]) Q E s := by
  cases ty with
  | non => cases (show u = Value.none from rx); exact PySem.W.kia_one PySem.W.kitx_none I.kIn True.intro e (fun z => nomatch z) h
  | bl y => cases (show u = Value.bool y from rx); exact PySem.W.kia_one PySem.W.kitx_bool I.kIn True.intro e (fun z => nomatch z) h
  | int i => obtain ⟨t, q⟩ := (show ∃ t, u = Value.int i t from rx); cases q; exact PySem.W.kia_one PySem.W.kitx_int I.kIn True.intro e (fun z => nomatch z) h
  | str y => obtain ⟨t, q⟩ := (show ∃ t, u = Value.str y t from rx); cases q; exact PySem.W.kia_one PySem.W.kitx_str I.kIn True.intro e (fun z => nomatch z) h
  | flt y => obtain ⟨t, q⟩ := (show ∃ t, u = Value.float y t from rx); cases q; exact PySem.W.kia_one PySem.W.kitx_float I.kIn True.intro e (fun z => nomatch z) h
  | @lst a xs ea =>
    cases (show u = Value.ref a from rx)
    obtain ⟨_, _, n, _, h1⟩ := (show ObjOk X.prog X.w H s.heap a (.lst xs) from I.hok a _ ea)
    exact PySem.W.kia_one PySem.W.kitx_list I.kIn ⟨_, h1, rfl⟩ e (fun z => nomatch z) h
  | @frz a ob xs ea =>
    cases (show u = Value.ref a from rx)
    obtain ⟨_, _, _, n, _, h1⟩ := (show ObjOk X.prog X.w H s.heap a (.frz ob (.lst xs)) from I.hok a _ ea)
    exact PySem.W.kia_one PySem.W.kitx_list I.kIn ⟨_, h1, rfl⟩ e (fun z => nomatch z) h
  | @tup a xs ea =>
    cases (show u = Value.ref a from rx)
    obtain ⟨_, _, _, p⟩ := (show ObjOk X.prog X.w H s.heap a (.tup xs) from I.hok a _ ea)
    obtain ⟨o, h1, h2, _⟩ := p
    exact PySem.W.kia_one PySem.W.kitx_tuple I.kIn ⟨o, h1, h2⟩ e (fun z => nomatch z) h
  | @dK a kvs ea =>
    cases (show u = Value.ref a from rx)
    obtain ⟨_, _, vs, _, p⟩ := (show ObjOk X.prog X.w H s.heap a (.dK kvs) from I.hok a _ ea)
    obtain ⟨o, es, ep, h1, h2, _⟩ := p
    exact PySem.W.kia_one PySem.W.kitx_dict I.kIn ⟨o, h1, h2.1⟩ e (fun z => nomatch z) h
  | @dT a kvs ea =>
    cases (show u = Value.ref a from rx)
    obtain ⟨_, _, xs, _, o, es, ep, h1, h2, _⟩ := (show ObjOk X.prog X.w H s.heap a (.dT kvs) from I.hok a _ ea)
    exact PySem.W.kia_one PySem.W.kitx_dict I.kIn ⟨o, h1, h2.1⟩ e (fun z => nomatch z) h
  | @ins a C dx fs ea cl ha hn htk hm =>
    cases (show u = Value.ref a from rx)
    obtain ⟨mA, O, _⟩ := ins_get I.hok ea
    obtain ⟨od, J, _⟩ := O.look
    exact PySem.W.kia_one (PySem.W.kitx_own (cl.get _) cl.hd ha hn htk hm) I.kIn J e (fun z => nomatch z) h
end
end L2

namespace L2
open PySem PySem.Spec PyProof.Rows

/-! ### room -/
structure Room (k : Nat) (A : Around) : Prop where
  hd : A.handled = none
  dp : A.depth + 3 * k + 5 < recursionLimit
  un : A.units + 16 * k + 200 < cLine
theorem Room.mono {j k : Nat} {A : Around} (r : Room k A) (h : j ≤ k) : Room j A := ⟨r.hd, by have := r.dp; omega, by have := r.un; omega⟩
theorem Room.deeper {k : Nat} {A : Around} (r : Room (k + 1) A) (env : Env) : Room k (A.deeper env) :=
  ⟨r.hd, by have := r.dp; show A.depth + 1 + 3 * k + 5 < _; omega, by have := r.un; show A.units + 3 + 16 * k + 200 < _; omega⟩
theorem make_depth {A : Around} {C : Addr} {us : List Value} {kw : List (Str × Value)} : (A.under (.builtin "type.__call__" ⟨.ref C :: us, kw⟩)).depth = A.depth + 1 := by
  first | rfl | simp [Around.under, Code.weight, Code.isCreation, Code.isGuard, Code.isCaller, Code.frames, Code.isFrame, guardIds]
theorem make_units {A : Around} {C : Addr} {us : List Value} {kw : List (Str × Value)} : (A.under (.builtin "type.__call__" ⟨.ref C :: us, kw⟩)).units = A.units + 1 := by
  first | rfl | simp [Around.under, Code.cUnits, Code.frames, Code.isFrame]
theorem Room.make {k : Nat} {A : Around} (r : Room (k + 1) A) (C : Addr) (us : List Value) (kw : List (Str × Value)) : Room k (A.under (.builtin "type.__call__" ⟨.ref C :: us, kw⟩)) :=
  ⟨r.hd, by have := r.dp; rw [make_depth]; omega, by have := r.un; rw [make_units]; omega⟩
theorem Room.depth {k : Nat} {A : Around} (r : Room k A) : A.depth < recursionLimit := by have := r.dp; omega
theorem Room.units {k : Nat} {A : Around} (r : Room k A) : A.units + 64 < cLine := by have := r.un; omega
/-! ### argument lists and displays -/
def tNil : TA := fun _ H Q => Q [] H
def tCons (ta : TE) (tr : TA) : TA := fun σ H Q => ta σ H fun x H1 => tr σ H1 fun xs H2 => Q (x :: xs) H2
section
variable {X : Cx} {e : Expr} {es : List Expr} {te : TE} {t : TA} {pos : Pos}
theorem pa_nil : PA X [] tNil := fun _ _ _ _ H Q I h => Calls.spliced_nil ⟨[], H, I, .nil, h⟩
theorem pa_cons (ha : PE X e te) (hr : PA X es t) (hs : starEach (e :: es) X.env = (false, eval e X.env) :: starEach es X.env := by rfl) : PA X (e :: es) (tCons te t) := by
  intro pos pins s σ H Q I h
  rw [hs]
  show wpAny _ _ (spliced ((false, eval e X.env) :: backTo pos (starEach es X.env))) _ _ s
  refine Calls.spliced_cons (thn (ha pins s σ H _ I h) fun u s1 ⟨x, H1, I1, r1, q1⟩ => ?_)
  exact thn (hr pos pins s1 σ H1 _ I1 q1) fun us s2 ⟨xs, H2, I2, r2, q2⟩ => ⟨x :: xs, H2, I2, .cons r1 r2, q2⟩

def tTup (t : TA) : TE := fun σ H Q => t σ H fun xs H1 => xs.length ≤ sizeLine ∧ ∀ p, H1 p = none → Q (.ref p) (upd H1 p (.tup xs))
def tLst (t : TA) : TE := fun σ H Q => t σ H fun xs H1 => xs.length ≤ sizeLine ∧ ∀ p, H1 p = none → Q (.ref p) (upd H1 p (.lst xs))
theorem pe_tup {x1} (h : PA X es t) : PE X (.Tuple es x1 pos) (tTup t) := by
  intro pins s σ H Q I hq
  refine wpAny_Tuple_spliced (thn (h pos pins s σ H _ I hq) fun us s1 ⟨xs, H1, I1, r, z, q⟩ => ⟨by rw [← r.length]; exact z, ?_⟩)
  have hf : H1 s1.heap.objs.size = none := I1.hok.fresh (Nat.le_refl _)
  refine ⟨.ref s1.heap.objs.size, upd H1 s1.heap.objs.size (.tup xs), I1.laid (t' := s1.toks) (fun b u e => Heap.get?_push_of_some _ e) (Nat.le_refl _) ?_, rfl, q _ hf⟩
  exact ⟨z, us, r, ⟨_, Heap.get?_push_size _ rfl, rfl, _, rfl⟩⟩
theorem pe_lst (h : PA X es t) : PE X (.List es pos) (tLst t) := by
  intro pins s σ H Q I hq
  refine wpAny_List_spliced (thn (h pos pins s σ H _ I hq) fun us s1 ⟨xs, H1, I1, r, z, q⟩ => ⟨by rw [← r.length]; exact z, ?_⟩)
  have hf : H1 s1.heap.objs.size = none := I1.hok.fresh (Nat.le_refl _)
  refine ⟨.ref s1.heap.objs.size, upd H1 s1.heap.objs.size (.lst xs), I1.laid (t' := s1.toks) (fun b u e => Heap.get?_push_of_some _ e) (Nat.le_refl _) ?_, rfl, q _ hf⟩
  exact ⟨z, us, 0, r, Heap.get?_push_size _ rfl⟩
end

/-! ### what a def promises -/
abbrev Sp := List V → Hp → VK → XK → Prop
abbrev CXT := List Env → Hp → Shared → XK → Value → Shared → Prop

structure Env0 (P : Program) (w : World) (K : PySem.W.Frag) (mg : Str → Option Value) (base : Heap) (A : Around) (outer : List Env) (s : Shared) (H : Hp) : Prop where
  frames : A.frames = some outer
  mod : Mod K mg base
  bs : ∀ b o, base.get? b = some o → s.heap.get? b = some o ∧ H b = none
  bsz : base.objs.size ≤ s.heap.objs.size
  funs : s.heap.FunFrames base outer
  frf : ∀ b ∈ frs outer, H b = none
  hok : HOk P w H s.heap
  bare : AllBare s.gens
def CE (outer : List Env) (P : Program) (w : World) (H : Hp) (s : Shared) (Q : VK) (u : Value) (s' : Shared) : Prop :=
  ∃ v H', s'.os = s.os ∧ AllBare s'.gens ∧ Un (frs outer) [] H H' s.heap s'.heap ∧ HOk P w H' s'.heap ∧ RelV v u ∧ Q v H'
def CR (CX : CXT) (outer : List Env) (P : Program) (w : World) (H : Hp) (s : Shared) (Q : VK) (E : XK) (r : Result) (s' : Shared) : Prop :=
  match r with
  | .ok (.ret u) => CE outer P w H s Q u s'
  | .ok _ => False
  | .error e => CX outer H s E e s'
structure FnOk (P : Program) (w : World) (K : PySem.W.Frag) (mg : Str → Option Value) (base : Heap) (CX : CXT) (k : Nat) (f : Addr) (fd : FuncData) (ps : List Str) (sp : Sp) : Prop where
  len : ∀ vs H Q E, sp vs H Q E → vs.length = ps.length
  run : ∀ (A : Around) (outer : List Env) (s : Shared) (H : Hp) (args : Args) (us : List Value) (vs : List V) (Q : VK) (E : XK), Room k A → Env0 P w K mg base A outer s H → BindsTo s fd args (ps.zip us) → Vals vs us → sp vs H Q E →
    codeAny (model P w) A (.call (.ref f) args) (CR CX outer P w H s Q E) s
theorem FnOk.mono {P : Program} {w : World} {K : PySem.W.Frag} {mg : Str → Option Value} {base : Heap} {CX : CXT} {j k : Nat} {f : Addr} {fd : FuncData} {ps : List Str} {sp : Sp} (F : FnOk P w K mg base CX j f fd ps sp) (h : j ≤ k) :
    FnOk P w K mg base CX k f fd ps sp := ⟨F.len, fun A outer s H args us vs Q E hr => F.run A outer s H args us vs Q E (hr.mono h)⟩
theorem Env0.make {P : Program} {w : World} {K : PySem.W.Frag} {mg : Str → Option Value} {base : Heap} {A : Around} {outer : List Env} {s : Shared} {H : Hp} (e : Env0 P w K mg base A outer s H) (C : Addr) (us : List Value) (kw : List (Str × Value)) :
    Env0 P w K mg base (A.under (.builtin "type.__call__" ⟨.ref C :: us, kw⟩)) outer s H := ⟨by first | exact e.frames | (simpa [Around.under, Code.envs, Code.isFrame, pushEnvs] using e.frames), e.mod, e.bs, e.bsz, e.funs, e.frf, e.hok, e.bare⟩
section
variable {X : Cx} {pins : List (Addr × Obj)} {σ : St} {H : Hp} {s s' : Shared}
theorem Inv.env0 (I : Inv X pins σ H s) : Env0 X.prog X.w X.K X.mg X.base X.A X.stack s H :=
  ⟨I.ok.frames, I.ok.mod, I.bs, Nat.le_trans I.ok.bsz I.sz, I.stack, I.stkFree, I.hok, I.bare⟩
theorem Inv.after {Q : VK} {u : Value} (I : Inv X pins σ H s) (h : CE X.stack X.prog X.w H s Q u s') : EP X pins σ Q u s' := by
  obtain ⟨v, H', os, bare, un, hok, r, q⟩ := h
  obtain ⟨hh, g, d, t, os'⟩ := s'
  obtain rfl : os' = s.os := os
  exact ⟨v, H', I.call (h' := hh) (g' := g) (d' := d) (t' := t) (ch := []) un hok bare (fun b z => absurd z (by simp)), r, q⟩
end

/-! ### calls -/
def tCall (sp : Sp) (dvs : List V) (E : XK) (t : TA) : TE := fun σ H Q => t σ H fun vs H1 => sp (vs ++ dvs) H1 Q E
def Binds (K : PySem.W.Frag) (fd : FuncData) (ps : List Str) (ds : List Value) : Prop :=
  ∀ (s : Shared) (us : List Value), K.In s.heap → (us ++ ds).length = ps.length → BindsTo s fd ⟨us, []⟩ (ps.zip (us ++ ds))
theorem Binds.all {K : PySem.W.Frag} {fd : FuncData} {ps : List Str} (h : ∀ us : List Value, us.length = ps.length → bindArgs fd ⟨us, []⟩ = pure (ps.zip us)) : Binds K fd ps [] := fun s us _ hl => by
  rw [List.append_nil] at hl ⊢
  exact .of_eq (h us hl)

def Passes (CX : CXT) (X : Cx) (E : XK) : Prop := ∀ (pins : List (Addr × Obj)) (σ : St) (H : Hp) (s : Shared) (e : Value) (s' : Shared), Inv X pins σ H s → CX X.stack H s E e s' → X.xe e s'

section
variable {X : Cx} {CX : CXT} {k : Nat} {f C : Addr} {fd : FuncData} {ps : List Str} {sp : Sp} {dvs : List V} {ds : List Value} {E : XK} {x m : Str} {p pos apos : Pos} {e o : Expr} {es : List Expr} {ta : TE} {t : TA}

theorem run_fn {pins : List (Addr × Obj)} {σ : St} {H : Hp} {s : Shared} {Q : VK} {us : List Value} {vs : List V} (F : FnOk X.prog X.w X.K X.mg X.base CX k f fd ps sp) (hr : Room k X.A) (hb : Binds X.K fd ps ds) (hd : Vals dvs ds) (hx : Passes CX X E)
    (I : Inv X pins σ H s) (r : Vals vs us) (h : sp (vs ++ dvs) H Q E) : wpAny (model X.prog X.w) X.A (call (.ref f) us) (EP X pins σ Q) X.xe s := by
  have r2 : Vals (vs ++ dvs) (us ++ ds) := r.append hd
  have hl : (us ++ ds).length = ps.length := by rw [← r2.length]; exact F.len _ _ _ _ h
  refine wpAny_call (codeAny_mono (F.run X.A X.stack s H ⟨us, []⟩ (us ++ ds) (vs ++ dvs) Q E hr I.env0 (hb s us I.kIn hl) r2 h) fun r s' hq => ?_)
  cases r with
  | error e => exact hx pins σ H s e s' I hq
  | ok fl =>
    cases fl with
    | ret u => exact I.after hq
    | next => exact False.elim hq
    | brk => exact False.elim hq
    | cont => exact False.elim hq

theorem pe_call (F : FnOk X.prog X.w X.K X.mg X.base CX k f fd ps sp) (hr : Room k X.A) (hg : Gl X x) (hm : X.mg x = some (.ref f)) (hk : PySem.W.keepIn X.K (.ref f) = true) (hb : Binds X.K fd ps ds) (hd : Vals dvs ds) (hx : Passes CX X E)
    (ha : PA X (e :: es) t) (hdb : (x == ("__debug__" : Str)) = false := by decide) (he : starEach (e :: es) X.env = (false, eval e X.env) :: starEach es X.env := by rfl) (hpl : (backTo pos (starEach es X.env)).any (·.1) = false := by rfl) :
    PE X (.Call (.Name x p) (e :: es) [] pos) (tCall sp dvs E t) := by
  intro pins s σ H Q I h
  refine wpAny_Call_Name_kw (ld_glob I hg hm ?_ hdb)
  refine PySem.W.callWith_K (h₀ := X.base) I.ok.mod.kin hk (thn (ha pos pins s σ H _ I h) fun us s1 ⟨vs, H1, I1, r, q⟩ => ⟨I1.kIn, ?_⟩) he hpl
  exact run_fn F hr hb hd hx I1 r q
end

/-! ### keywords -/
def PK (X : Cx) (kws : List Keyword) (t : TA) : Prop :=
  ∀ (pos : Pos) (pins : List (Addr × Obj)) (s : Shared) (σ : St) (H : Hp) (Q : List V → Hp → Prop), Inv X pins σ H s → t σ H Q → wpAny (model X.prog X.w) X.A (evalAll ((backToKw pos (keywordEach kws X.env)).map (·.2))) (AP X pins σ Q) X.xe s
section
variable {X : Cx} {CX : CXT} {k : Nat} {f C : Addr} {fd : FuncData} {ps ks : List Str} {sp : Sp} {E : XK} {x m : Str} {p pos apos kpos : Pos} {e o : Expr} {es : List Expr} {kws : List Keyword} {te ta : TE} {t tk : TA} {nm : Option Str}
theorem pk_nil : PK X [] tNil := fun _ _ _ _ H Q I h => wpAny_evalAll_nil ⟨[], H, I, .nil, h⟩
theorem pk_cons (ha : PE X e te) (hr : PK X kws t) : PK X (⟨nm, e, kpos⟩ :: kws) (tCons te t) := by
  intro pos pins s σ H Q I h
  show wpAny _ _ (evalAll ((do let v ← eval e X.env; standAt pos; pure v) :: (backToKw pos (keywordEach kws X.env)).map (·.2))) _ _ s
  refine wpAny_evalAll_cons (wpAny_bind (thn (ha pins s σ H _ I h) fun u s1 ⟨x, H1, I1, r1, q1⟩ => wpAny_bind (wpAny_standAt (wpAny_pure ?_))))
  exact thn (hr pos pins s1 σ H1 _ I1 q1) fun us s2 ⟨xs, H2, I2, r2, q2⟩ => ⟨x :: xs, H2, I2, .cons r1 r2, q2⟩

variable {g : List Value → List Value → List Value} {gV : List V → List V → List V}
end

/-! ### a def's body keeps its promise -/
structure FnScope (N P : List Str) (sc : Scope) : Prop where
  kind : sc.kind = .function
  co : sc.isCoroutine = false
  gen : sc.isGenerator = false
  nd : N.Nodup
  pre : N.take P.length = P
  par : ∀ x ∈ P, sc.names.lookup x = some .local ∨ sc.names.lookup x = some .cell
  nofree : ∀ y ∈ sc.names, y.2 ≠ .free

theorem bindL_out {kindOf : Str → Option NameKind} {x : Str} : ∀ {binds : List (Str × Value)} {m : Str → Option Value}, (∀ v, (x, v) ∉ binds) → bindL kindOf binds m x = m x
  | [], _, _ => rfl
  | (n, v) :: r, m, h => by
    unfold bindL
    rw [bindL_out fun w hw => h w (List.mem_cons_of_mem _ hw)]
    split
    · have : x ≠ n := by rintro rfl; exact h v List.mem_cons_self
      simp [this]
    · rfl
theorem bindC_out {kindOf : Str → Option NameKind} {x : Str} : ∀ {binds : List (Str × Value)} {m : Str → Option Value}, (∀ v, (x, v) ∉ binds) → bindC kindOf binds m x = m x
  | [], _, _ => rfl
  | (n, v) :: r, m, h => by
    unfold bindC
    rw [bindC_out fun w hw => h w (List.mem_cons_of_mem _ hw)]
    split
    · rfl
    · have : x ≠ n := by rintro rfl; exact h v List.mem_cons_self
      simp [this]
theorem bindL_get {kindOf : Str → Option NameKind} {x : Str} {v : Value} : ∀ {P : List Str} {vs : List Value} {i : Nat} {m : Str → Option Value}, P.Nodup → P[i]? = some x → vs[i]? = some v → kindOf x = some .local →
    bindL kindOf (P.zip vs) m x = some v
  | [], _, _, _, _, h, _, _ => by simp at h
  | _ :: _, [], _, _, _, _, h, _ => by simp at h
  | p :: P, w :: vs, 0, m, nd, h1, h2, hk => by
    simp at h1 h2; subst h1; subst h2
    show bindL kindOf ((p, w) :: P.zip vs) m p = _
    unfold bindL
    rw [bindL_out fun v hv => (List.nodup_cons.mp nd).1 (List.of_mem_zip hv).1, if_pos hk]
    simp
  | p :: P, w :: vs, i + 1, m, nd, h1, h2, hk => by
    show bindL kindOf ((p, w) :: P.zip vs) m x = _
    unfold bindL
    exact bindL_get (i := i) (List.nodup_cons.mp nd).2 (by simpa using h1) (by simpa using h2) hk
theorem bindC_get {kindOf : Str → Option NameKind} {x : Str} {v : Value} : ∀ {P : List Str} {vs : List Value} {i : Nat} {m : Str → Option Value}, P.Nodup → P[i]? = some x → vs[i]? = some v → kindOf x ≠ some .local →
    bindC kindOf (P.zip vs) m x = some v
  | [], _, _, _, _, h, _, _ => by simp at h
  | _ :: _, [], _, _, _, _, h, _ => by simp at h
  | p :: P, w :: vs, 0, m, nd, h1, h2, hk => by
    simp at h1 h2; subst h1; subst h2
    show bindC kindOf ((p, w) :: P.zip vs) m p = _
    unfold bindC
    rw [bindC_out fun v hv => (List.nodup_cons.mp nd).1 (List.of_mem_zip hv).1, if_neg hk]
    simp
  | p :: P, w :: vs, i + 1, m, nd, h1, h2, hk => by
    show bindC kindOf ((p, w) :: P.zip vs) m x = _
    unfold bindC
    exact bindC_get (i := i) (List.nodup_cons.mp nd).2 (by simpa using h1) (by simpa using h2) hk

def start (N : List Str) (vs : List V) : St := vs.map some ++ List.replicate (N.length - vs.length) none

def cxOf (CX : CXT) (P : Program) (w : World) (K : PySem.W.Frag) (mg : Str → Option Value) (base : Heap) (N : List Str) (qual : Str) (scope : Scope) (f : Addr) (cd : Value) (A : Around) (outer : List Env) (s : Shared) (H : Hp) (E : XK) : Cx where
  prog := P
  w := w
  K := K
  mg := mg
  base := base
  A := A.deeper (envOfC qual scope s.heap.objs.size f cd)
  N := N
  s₀ := s
  H₀ := H
  env := envOfC qual scope s.heap.objs.size f cd
  outer := outer
  stack := envOfC qual scope s.heap.objs.size f cd :: outer
  ex := []
  calm := true
  fn := fun _ => true
  pn := []
  xe := fun e s' => wpAny (model P w) (A.deeper (envOfC qual scope s.heap.objs.size f cd)) (leaving (envOfC qual scope s.heap.objs.size f cd) e) (fun _ s'' => CX outer H s E e s'') (fun e' s'' => CX outer H s E e' s'') s'

theorem cell_has {sc : Scope} {n : Nat} {x : Str} (h : sc.names.lookup x = some .cell) : ∃ c, (cellsFrom n sc.names []).lookup x = some c := by
  have q := PySem.W.cellsFrom_some sc.names n [] (.inl h)
  exact Option.isSome_iff_exists.mp q

theorem inv_start {CX : CXT} {P : Program} {w : World} {K : PySem.W.Frag} {mg : Str → Option Value} {base : Heap} {N ps : List Str} {qual : Str} {scope : Scope} {f : Addr} {cd : Value} {A : Around} {outer : List Env} {s s1 : Shared} {H : Hp} {E : XK} {us : List Value} {vs : List V}
    (S : FnScope N ps scope) (hd : A.handled = none) (e0 : Env0 P w K mg base A outer s H) (hl : vs.length = ps.length) (r : Vals vs us)
    (x : InCallC s s.heap.objs.size (bindL (envOfC qual scope s.heap.objs.size f cd).kindOf (ps.zip us) fun _ => none) (cellsFrom (s.heap.objs.size + 1) scope.names []) (bindC (envOfC qual scope s.heap.objs.size f cd).kindOf (ps.zip us) fun _ => none) s1) :
    Inv (cxOf CX P w K mg base N qual scope f cd A outer s H E) [] (start N vs) H s1 := by
  have hpl : ps.length ≤ N.length := by have := congrArg List.length S.pre; rw [List.length_take] at this; omega
  obtain ⟨h1, tk, rfl, hk⟩ := x.done
  have noA : ∀ b : Addr, b ∉ (cxOf CX P w K mg base N qual scope f cd A outer s H E).ex := fun b z => absurd (show b ∈ ([] : List Addr) from z) (by simp)
  refine ⟨⟨e0.mod, S.kind, rfl, rfl, Nat.le_refl _, fun y z c h1 h2 => ?_, fun y hy => ?_, fun y c _ h => ?_, fun _ => hd, Around.frames_deeper e0.frames, .inr ⟨rfl, rfl⟩, fun b z => absurd z (noA b), e0.bs, e0.bsz, fun b _ _ => noA b, fun b z => absurd z (noA b), e0.funs, e0.frf⟩,
    rfl, e0.bare, Un.kept hk, ⟨_, x.toInCall.ns, fun i y v h1 h2 h3 => ?_⟩, fun y c h => ⟨_, x.cell y c h⟩, e0.hok.fresh (Nat.le_refl _), fun y c h => ?_, fun p hp => absurd (show p ∈ ([] : List (Addr × Obj)) from hp) (by simp), e0.hok.kept hk, ?_⟩
  · exact name_of_addr x.apart (PySem.mem_of_lookup h1) (PySem.mem_of_lookup h2)
  · have hy : scope.names.lookup y = some .cell ∨ scope.names.lookup y = some .free := hy
    rcases hy with hy | hy
    · exact cell_has hy
    · exact absurd rfl (S.nofree _ (PySem.mem_of_lookup hy))
  · exact Nat.le_of_lt (x.above y c (PySem.mem_of_lookup h))
  · have hi : i < vs.length := by
      unfold start at h2
      by_cases hi : i < vs.length
      · exact hi
      · rw [List.getElem?_append_right (by simpa using hi)] at h2
        rw [List.getElem?_replicate] at h2
        split at h2 <;> cases h2
    have ha : vs[i]? = some v := by
      unfold start at h2
      rw [List.getElem?_append_left (by simpa using hi), List.getElem?_map] at h2
      cases e : vs[i]? with
      | none => rw [e] at h2; cases h2
      | some a => rw [e] at h2; cases h2; rfl
    obtain ⟨u, hu, rv⟩ := r.get ha
    have hp : ps[i]? = some y := by
      rw [← S.pre, List.getElem?_take_of_lt (by omega)]; exact h1
    have ndP : ps.Nodup := by rw [← S.pre]; exact S.nd.sublist (List.take_sublist _ _)
    refine ⟨u, rv, ?_⟩
    rcases S.par y (List.mem_of_getElem? hp) with k | k
    · exact .inl ⟨k, bindL_get ndP hp hu k⟩
    · obtain ⟨c, e⟩ := cell_has (n := s.heap.objs.size + 1) k
      refine .inr ⟨.inl k, c, e, ?_⟩
      have q := x.cell y c e
      rw [bindC_get ndP hp hu (by show scope.names.lookup y ≠ _; rw [k]; decide)] at q
      exact q
  · exact e0.hok.fresh (Nat.le_of_lt (x.above y c (PySem.mem_of_lookup h)))
  · unfold start
    show _ = N.length
    rw [List.length_append, List.length_map, List.length_replicate]
    omega

theorem fn_of {CX : CXT} {P : Program} {w : World} {K : PySem.W.Frag} {mg : Str → Option Value} {base : Heap} {k : Nat} {f : Addr} {name qual : Str} {params : Arguments} {body : List Stmt} {scope : Scope} {dV kV doc pm cdv ct oc : Value} {an od : Option Addr}
    {osl : Array (Option Value)} {N ps : List Str} {sp : Sp} (lk : K.lookup f = some ⟨oc, od, .func (PySem.W.fnOf name qual params body scope dV kV doc pm an cdv ct), osl⟩) (hcd : PySem.W.codeIn K cdv qual = true) (S : FnScope N ps scope)
    (len : ∀ vs H Q E, sp vs H Q E → vs.length = ps.length)
    (hbody : ∀ (A : Around) (outer : List Env) (s : Shared) (H : Hp) (vs : List V) (Q : VK) (E : XK), Room k (A.deeper (envOfC qual scope s.heap.objs.size f cdv)) → sp vs H Q E →
      ∃ t, PSs (cxOf CX P w K mg base N qual scope f cdv A outer s H E) body t ∧ t { nx := fun _ H' => Q .non H', rt := Q } (start N vs) H) :
    FnOk P w K mg base CX (k + 1) f (PySem.W.fnOf name qual params body scope dV kV doc pm an cdv ct) ps sp := by
  refine ⟨len, fun A outer s H args us vs Q E hr e0 hb r hsp => ?_⟩
  have hl := len _ _ _ _ hsp
  have KX : K.In s.heap := e0.mod.kin.keeps fun b o e => (e0.bs b o e).1
  have lim : s.heap.NoLimit := e0.mod.nolimit.keeps fun b o e => (e0.bs b o e).1
  have hkind : ∀ y ∈ ps.zip us, scope.names.lookup y.1 = some .local ∨ (scope.names.lookup y.1 = some .cell ∧ ((cellsFrom (s.heap.objs.size + 1) scope.names []).lookup y.1).isSome = true) := fun ⟨n, v⟩ hy => by
    rcases S.par n (List.of_mem_zip hy).1 with q | q
    · exact .inl q
    · exact .inr ⟨q, PySem.W.cellsFrom_some _ _ _ (.inl q)⟩
  refine codeAny_call_function hr.depth (KX _ _ lk) rfl S.co S.gen rfl (PySem.W.codeRec_of KX hcd) (hb _ _ _ _ ?_)
  refine wpAny_newFunctionEnv_cells S.kind hkind fun env he s1 x => ?_
  subst he
  refine ⟨lim.keeps x.toInCall.keep, codeAny_func ?_⟩
  obtain ⟨t, ht, hq⟩ := hbody A outer s H vs Q E (hr.deeper _) hsp
  have I : Inv (cxOf CX P w K mg base N qual scope f cdv A outer s H E) [] (start N vs) H s1 := inv_start S hr.hd e0 hl r x
  refine wpAny_mono (ht [] s1 (start N vs) H _ I hq) (fun fl s' hs => ?_) fun e s' hs => hs
  have fin : ∀ {σ' : St} {H' : Hp} {v : V} {u : Value}, Inv (cxOf CX P w K mg base N qual scope f cdv A outer s H E) [] σ' H' s' → RelV v u → Q v H' → CE outer P w H s Q u s' :=
    fun {σ' H' v u} J rv q => ⟨v, H', J.os, J.bare, J.base, J.hok, rv, q⟩
  cases fl with
  | ret u =>
    obtain ⟨v, σ', H', J, rv, q⟩ := hs
    exact fin J rv q
  | next =>
    obtain ⟨σ', H', J, q⟩ := hs
    exact fin (v := V.non) (u := Value.none) J rfl q
  | brk =>
    obtain ⟨_, _, _, q⟩ := hs
    exact False.elim q
  | cont =>
    obtain ⟨_, _, _, q⟩ := hs
    exact False.elim q
end L2

namespace L2
open PySem PySem.Spec PyProof.Rows
section
variable {X : Cx} {x : Str} {p pos : Pos} {e : Expr} {es : List Expr} {t : TA} {id T : String} {r : List V → Hp → VK → Prop}

def tCB (r : List V → Hp → VK → Prop) (t : TA) : TE := fun σ H Q => t σ H fun vs H1 => r vs H1 Q
theorem pe_callB (hc : CallR X (.builtin id) r) (hg : Gl X x) (hm : X.mg x = none) (hv : bootBuiltins x = some (.builtin id)) (ha : PA X (e :: es) t) (hn : x ≠ "__name__" := by decide) (hdb : (x == ("__debug__" : Str)) = false := by decide)
    (he : starEach (e :: es) X.env = (false, eval e X.env) :: starEach es X.env := by rfl) (hpl : (backTo pos (starEach es X.env)).any (·.1) = false := by rfl) : PE X (.Call (.Name x p) (e :: es) [] pos) (tCB r t) := by
  intro pins s σ H Q I h
  refine wpAny_Call_Name_kw (ld_blt I hg hm hv ?_ hn hdb)
  exact PyProof.Rows.callWith_builtin1 (thn (ha pos pins s σ H _ I h) fun us s1 ⟨vs, H1, I1, r1, q1⟩ => hc pins s1 σ H1 vs us Q I1 r1 q1) he hpl
theorem pe_callTy (hc : CallR X (.type T) r) (hg : Gl X x) (hm : X.mg x = none) (hv : bootBuiltins x = some (.type T)) (ha : PA X (e :: es) t) (hn : x ≠ "__name__" := by decide) (hdb : (x == ("__debug__" : Str)) = false := by decide)
    (he : starEach (e :: es) X.env = (false, eval e X.env) :: starEach es X.env := by rfl) (hpl : (backTo pos (starEach es X.env)).any (·.1) = false := by rfl) : PE X (.Call (.Name x p) (e :: es) [] pos) (tCB r t) := by
  intro pins s σ H Q I h
  refine wpAny_Call_Name_kw (ld_blt I hg hm hv ?_ hn hdb)
  exact PyProof.Rows.callWith_type1 (thn (ha pos pins s σ H _ I h) fun us s1 ⟨vs, H1, I1, r1, q1⟩ => hc pins s1 σ H1 vs us Q I1 r1 q1) he hpl
end
end L2

namespace HT
open PySem PyProof.Rows

section
open PySem.SeqAt
open PySem.AutoSeq1 (wpAny_loadPart')
open PySem.MeetsSeq PySem.MeetsSeq2 PySem.MeetsSeq3

end

section
variable {prog : Program} {w : World} {A : Around} {E : Value → Shared → Prop} {s : Shared}

/-! ### t[a:b], not the whole -/
def sIx (n d : Nat) : Option Int → Nat
  | none => d
  | some v => if v < 0 then (v + (n : Int)).toNat else min v.toNat n
theorem sIx_nat (n d k : Nat) : sIx n d (some (k : Int)) = min k n := by
  show (if (k : Int) < 0 then ((k : Int) + (n : Int)).toNat else min (k : Int).toNat n) = min k n
  rw [if_neg (by omega), Int.toNat_natCast]
theorem sIx_le (n d : Nat) (hd : d ≤ n) (o : Option Int) : sIx n d o ≤ n := by
  cases o with
  | none => exact hd
  | some v =>
    show (if v < 0 then (v + (n : Int)).toNat else min v.toNat n) ≤ n
    by_cases hv : v < 0
    · rw [if_pos hv]; omega
    · rw [if_neg hv]; exact Nat.min_le_right _ _
theorem clip_eq (v : Int) (n d : Nat) : (if v < 0 then max (v + (n : Int)) 0 else min v (n : Int)) = ((sIx n d (some v) : Nat) : Int) := by
  show (if v < 0 then max (v + (n : Int)) 0 else min v (n : Int)) = (((if v < 0 then (v + (n : Int)).toNat else min v.toNat n) : Nat) : Int)
  by_cases hv : v < 0
  · simp only [if_pos hv]; omega
  · simp only [if_neg hv]; omega
theorem adjust_gen (lo hi : Option Int) (n : Nat) : Builtin.Slice.sliceAdjust lo hi 1 (n : Int) = (((sIx n 0 lo : Nat) : Int), ((sIx n n hi : Nat) : Int)) := by
  have h1 : ¬ ((1 : Int) < 0) := by omega
  unfold Builtin.Slice.sliceAdjust
  simp only [h1, if_false]
  refine Prod.ext ?_ ?_
  · cases lo with
    | none => rfl
    | some v => exact clip_eq v n 0
  · cases hi with
    | none => rfl
    | some v => exact clip_eq v n n
theorem places_gen (i j : Nat) : Builtin.Slice.slicePlaces (i : Int) (j : Int) 1 = j - i := by
  unfold Builtin.Slice.slicePlaces
  have h1 : (1 : Int) > 0 := by omega
  simp only [h1, if_true, Int.ediv_one]
  split <;> omega
theorem slicePart_ {v : Value} {o : Option Int} {Q : Option Int → Shared → Prop} (p : IsPart v o) (h : Q o s) : wpAny (model prog w) A (Builtin.Slice.slicePartIndex v) Q E s := by
  cases p with
  | none => exact slicePart_none h
  | int i t => exact slicePart_int h
theorem sliceApplied_gen {sl : Addr} {vl vu : Value} {lo hi : Option Int} {n : Nat} {Q : Int × Int × Nat → Shared → Prop} (hs : s.heap.IsSliceOf sl vl vu .none) (pl : IsPart vl lo) (pu : IsPart vu hi)
    (h : Q (((sIx n 0 lo : Nat) : Int), 1, sIx n n hi - sIx n 0 lo) s) : wpAny (model prog w) A (Builtin.Slice.sliceApplied (.ref sl) (pure (n : Int))) Q E s := by
  obtain ⟨os, hos, hcs, hds⟩ := id hs
  unfold Builtin.Slice.sliceApplied Builtin.Slice.sliceFields
  refine wpAny_bind (wpAny_bind (wpAny_field hos hds (x := vl) rfl (wpAny_bind (wpAny_field hos hds (x := vu) rfl (wpAny_bind (wpAny_field hos hds (x := .none) rfl (wpAny_pure ?_)))))))
  refine wpAny_bind (slicePart_none ?_)
  show wpAny _ _ (if ((1 : Int) == 0) = true then _ else _) _ _ s
  rw [if_neg (by decide)]
  refine wpAny_bind (slicePart_ pl (wpAny_bind (slicePart_ pu (wpAny_bind (wpAny_pure ?_)))))
  show wpAny _ _ (match Builtin.Slice.sliceAdjust lo hi 1 (n : Int) with | (lo, hi) => pure (lo, (1 : Int), Builtin.Slice.slicePlaces lo hi 1)) _ _ s
  rw [adjust_gen lo hi n]
  show wpAny _ _ (pure (((sIx n 0 lo : Nat) : Int), (1 : Int), Builtin.Slice.slicePlaces ((sIx n 0 lo : Nat) : Int) ((sIx n n hi : Nat) : Int) 1)) _ _ s
  rw [places_gen]
  exact wpAny_pure h
theorem pick_gen (xs : Array Value) (i k : Nat) : ((List.range k).filterMap fun (m : Nat) => xs[((i : Int) + (m : Int) * 1).toNat]?).toArray = ((xs.toList.drop i).take k).toArray := by
  have e : (fun (m : Nat) => xs[((i : Int) + (m : Int) * 1).toNat]?) = fun m => xs[i + m]? := by
    funext m
    have : ((i : Int) + (m : Int) * 1).toNat = i + m := by omega
    rw [this]
  rw [e]
  have := pick_run xs i k
  rw [List.filterMap_map] at this
  have e2 : ((fun x => xs[x]?) ∘ fun x => i + x) = fun m => xs[i + m]? := rfl
  rw [e2] at this
  rw [this]

theorem getItem_tuple_cut {t sl : Addr} {items : Array Value} {vl vu : Value} {lo hi : Option Int} {Q : Value → Shared → Prop} (ht : IsTup s.heap t items) (hs : s.heap.IsSliceOf sl vl vu .none) (pl : IsPart vl lo) (pu : IsPart vu hi)
    (hw : ¬ (sIx items.size 0 lo = 0 ∧ sIx items.size items.size hi = items.size))
    (h : Q (.ref s.heap.objs.size) { s with heap := s.heap.push { cls := .type "tuple", data := .seq ((items.toList.drop (sIx items.size 0 lo)).take (sIx items.size items.size hi - sIx items.size 0 lo)).toArray } })
    (hsz : items.size ≤ sizeLine) : wpAny (model prog w) A (getItem (.ref t) (.ref sl)) Q E s := by
  have htake : sizeOk (.seq ((items.toList.drop (sIx items.size 0 lo)).take (sIx items.size items.size hi - sIx items.size 0 lo)).toArray) := by
    show ((items.toList.drop (sIx items.size 0 lo)).take (sIx items.size items.size hi - sIx items.size 0 lo)).toArray.size ≤ sizeLine
    rw [List.size_toArray, List.length_take, List.length_drop, Array.length_toList]
    omega
  have hj : sIx items.size items.size hi ≤ items.size := sIx_le _ _ (Nat.le_refl _) hi
  obtain ⟨os, hos, hcs, hds⟩ := id hs
  have hTs : s.TypeIs (.ref sl) "slice" := ⟨os, hos, hcs⟩
  unfold getItem
  try with_reducible refine wpAny_holding ?_
  first | refine wpAny_bind (wpAny_pure ?_) | skip
  refine wpAny_bind (wpAny_sequenceKey ht.typeIs (by decide) ?_)
  refine wpAny_bind (wpAny_callSpecial?_slot (name := Str.ofString "__getitem__") ht.typeIs PyProof.Rows.slot_tuple_getitem
    (wpAny_call_entry PyProof.Rows.slot_tuple_getitem ht.typeIs entry_tuple_getitem ?_ (args_tuple_getitem _ _)))
  show wpAny _ _ (Builtin.Tuple.tupleItemsOf (.ref t) >>= _) _ _ s
  refine wpAny_bind (tupleItemsOf_ ht ?_)
  refine wpAny_bind (wpAny_typeOf hTs ?_)
  rw [if_pos (by decide)]
  refine wpAny_bind (sliceApplied_gen hs pl pu ?_)
  have hno : ¬ ((((sIx items.size 0 lo : Nat) : Int) == 0 && (1 : Int) == 1 && (sIx items.size items.size hi - sIx items.size 0 lo) == items.size) = true) := by
    intro q
    rw [Bool.and_eq_true, Bool.and_eq_true] at q
    have q1 : ((sIx items.size 0 lo : Nat) : Int) = 0 := eq_of_beq q.1.1
    have q2 : sIx items.size items.size hi - sIx items.size 0 lo = items.size := eq_of_beq q.2
    exact hw ⟨by omega, by omega⟩
  show wpAny _ _ (if (((sIx items.size 0 lo : Nat) : Int) == 0 && (1 : Int) == 1 && (sIx items.size items.size hi - sIx items.size 0 lo) == items.size) = true then _ else _) _ _ s
  rw [if_neg hno, pick_gen]
  first
    | exact wpAny_bind (m := Builtin.Tuple.tupleExact _) (wpAny_newObj_type (wpAny_pure ⟨_, rfl, wpAny_pure h⟩) htake)
    | exact wpAny_bind (m := Builtin.Tuple.tupleExact _) (wpAny_newObj_type (wpAny_bind (wpAny_pure (wpAny_pure ⟨_, rfl, wpAny_pure h⟩))) htake)
    | exact wpAny_bind (wpAny_bind (m := Builtin.Tuple.tupleExact _) (wpAny_newObj_type (wpAny_pure (wpAny_pure ⟨_, rfl, wpAny_pure h⟩)) htake))
    | exact wpAny_bind (wpAny_bind (m := Builtin.Tuple.tupleExact _) (wpAny_newObj_type (wpAny_pure ⟨_, rfl, wpAny_pure h⟩) htake))
end
end HT

namespace L2
open PySem PySem.Spec PyProof.Rows

/-! ### the parts of a slice -/
abbrev TO := St → Hp → (Option Int → Hp → Prop) → Prop
def PO (X : Cx) (e : Option Expr) (t : TO) : Prop :=
  ∀ (pins : List (Addr × Obj)) (s : Shared) (σ : St) (H : Hp) (Q : Option Int → Hp → Prop), Inv X pins σ H s → t σ H Q →
    wpAny (model X.prog X.w) X.A (evalPart e X.env) (fun u s' => ∃ o H', Inv X pins σ H' s' ∧ IsPart u o ∧ Q o H') X.xe s
def tNoPart : TO := fun _ H Q => Q none H
def tPart (t : TE) : TO := fun σ H Q => t σ H fun x H1 => ∃ i, x = .int i ∧ Q (some i) H1

theorem intsAre_of {ns : List Int} : ∀ {us : List Value}, Vals (ns.map V.int) us → IntsAre us ns := by
  induction ns with
  | nil => intro us r; rw [List.map_nil] at r; cases r; exact .nil
  | cons n ns ih =>
    intro us r
    rw [List.map_cons] at r
    cases r with
    | cons r1 r2 =>
      obtain ⟨t, e⟩ := r1
      subst e
      exact .cons n t (ih r2)

section
variable {X : Cx} {e : Expr} {te : TE} {lo hi : Option Expr} {tl th : TO} {pos p2 : Pos}

theorem po_none : PO X none tNoPart := by
  intro pins s σ H Q I h
  rw [evalPart_none]
  exact wpAny_pure ⟨none, H, I, .none, h⟩
theorem po_some (h : PE X e te) : PO X (some e) (tPart te) := by
  intro pins s σ H Q I hw
  rw [evalPart_some]
  refine thn (h pins s σ H _ I hw) fun u s1 ⟨x, H1, I1, r1, q1⟩ => ?_
  obtain ⟨i, rfl, q⟩ := q1
  obtain ⟨t, rfl⟩ := r1
  exact ⟨some i, H1, I1, .int i t, q⟩

def SlR (X : Cx) (r : V → Option Int → Option Int → Hp → VK → Prop) : Prop :=
  ∀ (pins : List (Addr × Obj)) (s : Shared) (σ : St) (H : Hp) (x : V) (v vl vu : Value) (lo hi : Option Int) (sl : Addr) (Q : VK), Inv X pins σ H s → RelV x v → s.heap.IsSliceOf sl vl vu .none → IsPart vl lo → IsPart vu hi → r x lo hi H Q →
    ∃ T id, typeLookup (.type T) "__getitem__" = pure (some (.builtin id)) ∧ s.TypeIs v T ∧ wpAny (model X.prog X.w) X.A (getItem v (.ref sl)) (EP X pins σ Q) X.xe s
def tSl (r : V → Option Int → Option Int → Hp → VK → Prop) (te : TE) (tl th : TO) : TE := fun σ H Q => te σ H fun x H1 => tl σ H1 fun l H2 => th σ H2 fun u H3 => r x l u H3 Q
theorem pe_slice {r : V → Option Int → Option Int → Hp → VK → Prop} (hr : SlR X r) (he : PE X e te) (hl : PO X lo tl) (hu : PO X hi th) : PE X (.Subscript e (.Slice lo hi none p2) pos) (tSl r te tl th) := by
  intro pins s σ H Q I h
  refine Subscript_ (thn (he pins s σ H _ I h) fun v s1 ⟨x, H1, I1, r1, q1⟩ => ?_)
  refine wpAny_Slice (thn (hl pins s1 σ H1 _ I1 q1) fun vl s2 ⟨l, H2, I2, pl, q2⟩ => thn (hu pins s2 σ H2 _ I2 q2) fun vu s3 ⟨u, H3, I3, pu, q3⟩ => ?_)
  rw [evalPart_none]
  refine wpAny_pure ?_
  have I4 : Inv X pins σ H3 { s3 with heap := s3.heap.push { cls := .type "slice", data := .fields #[vl, vu, .none] } } := I3.kept (t' := s3.toks) fun b ob q => Heap.get?_push_of_some _ q
  obtain ⟨T, id, hT, ht, hg⟩ := hr pins { s3 with heap := s3.heap.push { cls := .type "slice", data := .fields #[vl, vu, .none] } } σ H3 x v vl vu l u s3.heap.objs.size Q I4 r1 (Heap.IsSliceOf.new ..) pl pu q3
  show wpAny (model X.prog X.w) X.A (subscriptTail e (.Slice lo hi none p2) v (.ref s3.heap.objs.size)) (EP X pins σ Q) X.xe { s3 with heap := s3.heap.push { cls := .type "slice", data := .fields #[vl, vu, .none] } }
  exact tail_any (ops := [.ref s3.heap.objs.size, v]) ht hT hg (by with_unfolding_all rfl)

def cutV (xs : List V) (lo hi : Option Int) : List V := (xs.drop (HT.sIx xs.length 0 lo)).take (HT.sIx xs.length xs.length hi - HT.sIx xs.length 0 lo)
theorem cutV_length (xs : List V) (lo hi : Option Int) : (cutV xs lo hi).length ≤ xs.length := by
  unfold cutV
  rw [List.length_take, List.length_drop]
  omega
def rSlT (K : PySem.W.Frag) : V → Option Int → Option Int → Hp → VK → Prop := fun x lo hi H Q => ∃ a xs, x = .ref a ∧ SqT K H a xs ∧
  ¬ (HT.sIx xs.length 0 lo = 0 ∧ HT.sIx xs.length xs.length hi = xs.length) ∧ ∀ p, H p = none → Q (.ref p) (upd H p (.tup (cutV xs lo hi)))
theorem sl_tup : SlR X (rSlT X.K) := by
  intro pins s σ H x v vl vu lo hi sl Q I rx hs pl pu h
  obtain ⟨a, xs, rfl, hx, hw, q⟩ := h
  cases rx
  obtain ⟨its, r, ht, hz⟩ := I.tuple hx
  have hlen : its.toArray.size = xs.length := by rw [List.size_toArray]; exact r.length.symm
  refine ⟨"tuple", _, PyProof.Rows.slot_tuple_getitem.lookup, ht.typeIs, ?_⟩
  refine HT.getItem_tuple_cut ht hs pl pu (by rw [hlen]; exact hw) ?_ (by rw [hlen]; exact hz)
  rw [hlen]
  refine ⟨.ref s.heap.objs.size, _, I.laid (t' := s.toks) (o := .tup (cutV xs lo hi)) (fun b ob q => Heap.get?_push_of_some _ q) (Nat.le_refl _) ?_, rfl, q _ (I.hok.fresh (Nat.le_refl _))⟩
  exact ⟨Nat.le_trans (cutV_length xs lo hi) hz, _, (r.drop (HT.sIx xs.length 0 lo)).take (HT.sIx xs.length xs.length hi - HT.sIx xs.length 0 lo), IsTup.new _ _⟩

/-! ### t < u, t + u -/
end
end L2

namespace L2
open PySem PySem.Spec PyProof.Rows

/-! ### places -/
def ixN (n : Nat) (i : Int) : Option Nat := if 0 ≤ i then (if i < n then some i.toNat else none) else if -(n : Int) ≤ i then some (i + n).toNat else none
def atI {α : Type} (xs : List α) (i : Int) : Option α := (ixN xs.length i).bind fun j => xs[j]?
theorem ixN_seq {n : Nat} {i : Int} {j : Nat} (h : ixN n i = some j) : seqIndex? i n = some j ∧ j < n ∧ -(n : Int) ≤ i ∧ i < n := by
  unfold ixN at h
  by_cases h0 : 0 ≤ i
  · rw [if_pos h0] at h
    by_cases h1 : i < n
    · rw [if_pos h1] at h
      have e : i.toNat = j := Option.some.inj h
      exact ⟨by rw [seqIndex_of h0 h1, e], by omega, by omega, h1⟩
    · rw [if_neg h1] at h; cases h
  · rw [if_neg h0] at h
    by_cases h1 : -(n : Int) ≤ i
    · rw [if_pos h1] at h
      have e : (i + n).toNat = j := Option.some.inj h
      exact ⟨by rw [seqIndex_neg (by omega) h1, e], by omega, h1, by omega⟩
    · rw [if_neg h1] at h; cases h
theorem atI_get {α : Type} {xs : List α} {i : Int} {v : α} (h : atI xs i = some v) : ∃ j, seqIndex? i xs.length = some j ∧ xs[j]? = some v ∧ j < xs.length ∧ -(xs.length : Int) ≤ i ∧ i < xs.length := by
  unfold atI at h
  cases e : ixN xs.length i with
  | none => rw [e] at h; cases h
  | some j =>
    rw [e] at h
    obtain ⟨h1, h2, h3, h4⟩ := ixN_seq e
    exact ⟨j, h1, h, h2, h3, h4⟩
theorem atI_nat {α : Type} {xs : List α} {j : Nat} {v : α} (h : xs[j]? = some v) : atI xs (j : Int) = some v := by
  have hj : j < xs.length := (List.getElem?_eq_some_iff.mp h).1
  have e : ixN xs.length (j : Int) = some j := by
    unfold ixN
    rw [if_pos (by omega), if_pos (by omega)]; simp
  unfold atI; rw [e]; exact h
/-! ### what may be subscripted -/
def PlainIx (b : Expr) : Prop := ∀ o i, subscripted b false o i = operate [o, i] (getItem o i)
def IxR (X : Cx) (r : R2) : Prop :=
  ∀ (value slice : Expr) (pins : List (Addr × Obj)) (s : Shared) (σ : St) (H : Hp) (x y : V) (v u : Value) (Q : VK), Inv X pins σ H s → RelV x v → RelV y u → r x y H Q →
    subscripted slice false v u = operate [v, u] (getItem v u) → wpAny (model X.prog X.w) X.A (subscriptTail value slice v u) (EP X pins σ Q) X.xe s
def MtR (X : Cx) (id : String) (r : V → List V → Hp → VK → Prop) : Prop :=
  ∀ (pins : List (Addr × Obj)) (s : Shared) (σ : St) (H : Hp) (x : V) (xs : List V) (v : Value) (us : List Value) (Q : VK), Inv X pins σ H s → RelV x v → Vals xs us → r x xs H Q →
    wpAny (model X.prog X.w) X.A (call (.builtin id) (v :: us)) (EP X pins σ Q) X.xe s
section
variable {X : Cx} {a b : Expr} {ta tb : TE} {pos : Pos}
theorem pe_ix {r : R2} (hr : IxR X r) (ha : PE X a ta) (hb : PE X b tb) (hs : PlainIx b) : PE X (.Subscript a b pos) (tOp r ta tb) := by
  intro pins s σ H Q I h
  exact Subscript_ (binT ha hb I h fun v u s2 x y H2 I2 rx ry q => hr a b pins s2 σ H2 x y v u Q I2 rx ry q (hs _ _))

def rIxL (K : PySem.W.Frag) : R2 := fun x y H Q => ∃ p xs i v, x = .ref p ∧ y = .int i ∧ SqL K H p xs ∧ atI xs i = some v ∧ Q v H
def rIxT (K : PySem.W.Frag) : R2 := fun x y H Q => ∃ p xs i v, x = .ref p ∧ y = .int i ∧ SqT K H p xs ∧ atI xs i = some v ∧ Q v H
def rIxS : R2 := fun x y H Q => ∃ z i c, x = .str z ∧ y = .int i ∧ z.length ≤ sizeLine ∧ atI z.cps.toList i = some c ∧ Q (.str ⟨#[c]⟩) H
theorem ix_list : IxR X (rIxL X.K) := by
  intro value slice pins s σ H x y v u Q I rx ry h hs
  obtain ⟨p, xs, i, z, rfl, rfl, hq, he, q⟩ := h
  cases rx
  obtain ⟨t, rfl⟩ := ry
  obtain ⟨its, r, pl, hz⟩ := I.list hq
  obtain ⟨j, h1, h2, h3, h4, h5⟩ := atI_get he
  obtain ⟨w, ew, rw'⟩ := r.get h2
  have hl := r.length
  have hn := line63
  have fin : EP X pins σ Q w s := ⟨z, H, I, rw', q⟩
  by_cases h0 : 0 ≤ i
  · have hj : i.toNat = j := by
      rw [seqIndex_of h0 h5] at h1
      exact Option.some.inj h1
    exact item_listR pl.isList h0 (by omega) (by rw [hj]; simpa using ew) fin hs
  · have hj : (i + (its.toArray.size : Int)).toNat = j := by
      rw [seqIndex_neg (by omega) h4] at h1
      rw [List.size_toArray, ← hl]
      exact Option.some.inj h1
    exact subscriptTail_builtinR (x := w) pl.isList.typeIs slot_list_getitem.lookup
      (wpAny_getItem_list_neg (Q := fun r s' => r = w ∧ EP X pins σ Q r s') pl.isList (by omega) (by rw [List.size_toArray] <;> omega) (by omega) (by rw [hj]; simpa using ew) ⟨rfl, fin⟩) hs
theorem ix_tup : IxR X (rIxT X.K) := by
  intro value slice pins s σ H x y v u Q I rx ry h hs
  obtain ⟨p, xs, i, z, rfl, rfl, hq, he, q⟩ := h
  cases rx
  obtain ⟨t, rfl⟩ := ry
  obtain ⟨its, r, pl, hz⟩ := I.tuple hq
  obtain ⟨j, h1, h2, h3, h4, h5⟩ := atI_get he
  obtain ⟨w, ew, rw'⟩ := r.get h2
  have hl := r.length
  have hn := line63
  have fin : EP X pins σ Q w s := ⟨z, H, I, rw', q⟩
  exact subscriptTail_builtinR (x := w) pl.typeIs slot_tuple_getitem.lookup
    (getItem_tuple (j := j) (Q := fun r s' => r = w ∧ EP X pins σ Q r s') pl (by omega) (by omega) (by rw [List.size_toArray, ← hl]; exact h1) (by simpa using ew) ⟨rfl, fin⟩) hs
theorem ix_str : IxR X rIxS := by
  intro value slice pins s σ H x y v u Q I rx ry h hs
  obtain ⟨z, i, c, rfl, rfl, hz, he, q⟩ := h
  obtain ⟨t, rfl⟩ := rx
  obtain ⟨t', rfl⟩ := ry
  obtain ⟨j, h1, h2, h3, h4, h5⟩ := atI_get he
  have hl : z.cps.toList.length = z.length := by simp [Str.length]
  rw [hl] at h1 h4 h5
  have hn := line63
  exact tail_any (typeIs_str s z t) slot_str_getitem.lookup (getItem_str (c := c) (by
    have e1 : decide (i < -(2 ^ 63 : Int)) = false := decide_eq_false (by omega)
    have e2 : decide (i ≥ 2 ^ 63) = false := decide_eq_false (by omega)
    rw [e1, e2, Bool.or_false]) (by rw [h1]; simpa using h2) ⟨.str ⟨#[c]⟩, H, I.tok _, ⟨_, rfl⟩, q⟩) hs
/-! ### xs[i] = v, any sign -/
theorem mapSeq_set (its : List Value) (n j : Nat) (u : Value) : Obj.mapSeq (·.setIfInBounds j u) { cls := .type "list", data := .seq its.toArray n } = { cls := .type "list", data := .seq (its.set j u).toArray n } := by
  simp [Obj.mapSeq]
theorem Inv.lst {pins : List (Addr × Obj)} {σ : St} {H : Hp} {s : Shared} {p : Addr} {xs : List V} (I : Inv X pins σ H s) (h : H p = some (.lst xs)) :
    ∃ (its : List Value) (n : Nat), Vals xs its ∧ s.heap.get? p = some { cls := .type "list", data := .seq its.toArray n } ∧ xs.length ≤ sizeLine := by
  obtain ⟨z, its, n, r, e⟩ := I.hok p _ h
  exact ⟨its, n, r, e, z⟩
theorem Inv.lstUpd {pins : List (Addr × Obj)} {σ : St} {H : Hp} {s : Shared} {p : Addr} {xs ys : List V} {its its' : List Value} {n n' : Nat} {f : Obj → Obj} (I : Inv X pins σ H s) (h : H p = some (.lst xs))
    (ho : s.heap.get? p = some { cls := .type "list", data := .seq its.toArray n }) (hf : f { cls := .type "list", data := .seq its.toArray n } = { cls := .type "list", data := .seq its'.toArray n' }) (r : Vals ys its') (hz : ys.length ≤ sizeLine) (t : Nat) :
    Inv X pins σ (upd H p (.lst ys)) { s with heap := s.heap.update p f, toks := t } := by
  have e : (s.heap.update p f).get? p = some { cls := .type "list", data := .seq its'.toArray n' } := by
    rw [Heap.get?_update_self f ho (by rw [hf] <;> rfl), hf]
  refine I.write (x := p) (e := p) (by rw [h]; trivial) (.inl rfl) (fun b u hb q => (Heap.get?_update_other _ _ (Ne.symm hb)).trans q) ⟨_, e⟩ ?_
  exact ⟨hz, its', n', r, e⟩
def rSetL : V → V → V → Hp → (Hp → Prop) → Prop := fun o i v H Q => ∃ p xs k j, o = .ref p ∧ i = .int k ∧ H p = some (.lst xs) ∧ ixN xs.length k = some j ∧ Q (upd H p (.lst (xs.set j v)))
theorem set_list : PSet X rSetL := by
  intro pins s σ H o i v ov iv u Q I ro ri rv h
  obtain ⟨p, xs, k, j, rfl, rfl, hp, hj, q⟩ := h
  cases ro
  obtain ⟨t, rfl⟩ := ri
  obtain ⟨its, n, r, ho, hz⟩ := I.lst hp
  obtain ⟨h1, h2, h3, h4⟩ := ixN_seq hj
  have hl := r.length
  have hn := line63
  have I' : Inv X pins σ (upd H p (.lst (xs.set j v))) { s with heap := s.heap.update p (Obj.mapSeq (·.setIfInBounds j u)) } :=
    I.lstUpd hp ho (mapSeq_set its n j u) (r.set rv j) (by rw [List.length_set]; exact hz) s.toks
  by_cases h0 : 0 ≤ k
  · have hk : k.toNat = j := by
      rw [seqIndex_of h0 h4] at h1
      exact Option.some.inj h1
    exact PySem.W.ki_setAt ho h0 (by omega) (by rw [List.size_toArray, ← hl]; exact h4) (by rw [hk]; exact ⟨_, I', q⟩)
  · have hk : (k + (its.toArray.size : Int)).toNat = j := by
      rw [seqIndex_neg (by omega) h3] at h1
      rw [List.size_toArray, ← hl]
      exact Option.some.inj h1
    exact PySem.W.ki_setBack ho (by omega) (by rw [List.size_toArray, ← hl]; exact h3) (by omega) (by rw [hk]; exact ⟨_, I', q⟩)

/-! ### slices -/
theorem slice_bounds (lo hi : Option Int) (n : Nat) : (sliceBounds lo hi none n).1 = ((HT.sIx n 0 lo : Nat) : Int) ∧ (sliceBounds lo hi none n).2.1 = ((HT.sIx n n hi : Nat) : Int) ∧ (sliceBounds lo hi none n).2.2 = 1 := by
  refine ⟨?_, ?_, rfl⟩
  · cases lo with
    | none => simp [sliceBounds, HT.sIx]
    | some i =>
      simp only [sliceBounds, HT.sIx, Option.getD_none, show (1 : Int) > 0 by decide, if_true]
      by_cases h : i < 0
      · simp only [h, if_true] <;> omega
      · simp only [h, if_false] <;> omega
  · cases hi with
    | none => simp [sliceBounds, HT.sIx]
    | some i =>
      simp only [sliceBounds, HT.sIx, Option.getD_none, show (1 : Int) > 0 by decide, if_true]
      by_cases h : i < 0
      · simp only [h, if_true] <;> omega
      · simp only [h, if_false] <;> omega
theorem slicePick_cut (its : List Value) (lo hi : Option Int) : slicePick its.toArray lo hi none = ((its.drop (HT.sIx its.length 0 lo)).take (HT.sIx its.length its.length hi - HT.sIx its.length 0 lo)).toArray := by
  obtain ⟨h1, h2, h3⟩ := slice_bounds lo hi its.toArray.size
  unfold slicePick
  rw [h1, h2, h3]
  simp only [sliceRange_one, pick_run, List.size_toArray] <;> rfl
def rSlL (K : PySem.W.Frag) : V → Option Int → Option Int → Hp → VK → Prop := fun x lo hi H Q => ∃ a xs, x = .ref a ∧ SqL K H a xs ∧ ∀ p, H p = none → Q (.ref p) (upd H p (.lst (cutV xs lo hi)))
theorem sl_list : SlR X (rSlL X.K) := by
  intro pins s σ H x v vl vu lo hi sl Q I rx hs pl pu h
  obtain ⟨a, xs, rfl, hx, q⟩ := h
  cases rx
  obtain ⟨its, r, ht, hz⟩ := I.list hx
  have hlen := r.length
  refine ⟨"list", _, slot_list_getitem.lookup, ht.isList.typeIs, ?_⟩
  refine wpAny_getItem_list_slice ht.isList hs pl pu .none (by simp) ?_ (by rw [List.size_toArray] <;> omega)
  rw [slicePick_cut, ← hlen]
  refine ⟨.ref s.heap.objs.size, _, I.laid (t' := s.toks) (o := .lst (cutV xs lo hi)) (fun b ob q => Heap.get?_push_of_some _ q) (Nat.le_refl _) ?_, rfl, q _ (I.hok.fresh (Nat.le_refl _))⟩
  exact ⟨Nat.le_trans (cutV_length xs lo hi) hz, _, 0, (r.drop (HT.sIx xs.length 0 lo)).take (HT.sIx xs.length xs.length hi - HT.sIx xs.length 0 lo), Heap.get?_push_size _ rfl⟩

/-! ### in, not in: flat items -/
def flatV : V → Bool
  | .non => true
  | .bl _ => true
  | .int _ => true
  | .str _ => true
  | _ => false
def eqV : V → V → Bool
  | .non, .non => true
  | .bl a, .bl b => a == b
  | .bl a, .int b => (if a then 1 else 0) == b
  | .int a, .bl b => a == (if b then 1 else 0)
  | .int a, .int b => a == b
  | .str a, .str b => a == b
  | _, _ => false
theorem eqAt_V {A : Around} {s : Shared} {y x : V} {u v : Value} (ry : RelV y u) (rx : RelV x v) (fy : flatV y = true) (fx : flatV x = true) : SeqAt.EqAt A s u v (eqV y x) := by
  cases y with
  | non =>
    cases ry
    cases x with
    | non => cases rx; exact SeqAt.EqAt.same _
    | bl b => cases rx; exact SeqAt.EqAt.none_bool b
    | int b => obtain ⟨t, rfl⟩ := rx; exact SeqAt.EqAt.none_int b t
    | str b => obtain ⟨t, rfl⟩ := rx; exact SeqAt.EqAt.none_str b t
    | _ => exact absurd (show false = true from fx) Bool.false_ne_true
  | bl a =>
    cases ry
    cases x with
    | non => cases rx; exact SeqAt.EqAt.bool_none a
    | bl b => cases rx; exact SeqAt.EqAt.bool_bool a b
    | int b => obtain ⟨t, rfl⟩ := rx; exact SeqAt.EqAt.bool_int a b t
    | str b => obtain ⟨t, rfl⟩ := rx; exact SeqAt.EqAt.bool_str a b t
    | _ => exact absurd (show false = true from fx) Bool.false_ne_true
  | int a =>
    obtain ⟨t', rfl⟩ := ry
    cases x with
    | non => cases rx; exact SeqAt.EqAt.int_none a t'
    | bl b => cases rx; exact SeqAt.EqAt.int_bool a t' b
    | int b => obtain ⟨t, rfl⟩ := rx; exact SeqAt.EqAt.int_int a t' b t
    | str b => obtain ⟨t, rfl⟩ := rx; exact SeqAt.EqAt.int_str a t' b t
    | _ => exact absurd (show false = true from fx) Bool.false_ne_true
  | str a =>
    obtain ⟨t', rfl⟩ := ry
    cases x with
    | non => cases rx; exact SeqAt.EqAt.str_none a t'
    | bl b => cases rx; exact SeqAt.EqAt.str_bool a t' b
    | int b => obtain ⟨t, rfl⟩ := rx; exact SeqAt.EqAt.str_int a t' b t
    | str b => obtain ⟨t, rfl⟩ := rx; exact SeqAt.EqAt.str_str a t' b t
    | _ => exact absurd (show false = true from fx) Bool.false_ne_true
  | _ => exact absurd (show false = true from fy) Bool.false_ne_true
def eqU (x : V) (u : Value) : Bool := match u with
  | .none => eqV .non x
  | .bool b => eqV (.bl b) x
  | .int i _ => eqV (.int i) x
  | .str z _ => eqV (.str z) x
  | _ => false
theorem eqU_of {x y : V} {u : Value} (r : RelV y u) (f : flatV y = true) : eqU x u = eqV y x := by
  cases y with
  | non => cases r; rfl
  | bl b => cases r; rfl
  | int i => obtain ⟨t, rfl⟩ := r; rfl
  | str z => obtain ⟨t, rfl⟩ := r; rfl
  | _ => exact absurd (show false = true from f) Bool.false_ne_true
theorem any_eqU {x : V} : ∀ {xs : List V} {us : List Value}, Vals xs us → xs.all flatV = true → us.any (eqU x) = xs.any fun y => eqV y x
  | _, _, .nil, _ => rfl
  | y :: xs, u :: us, .cons r t, f => by
    rw [List.all_cons, Bool.and_eq_true] at f
    rw [List.any_cons, List.any_cons, eqU_of r f.1, any_eqU t f.2]
theorem mem_eqAt {A : Around} {s : Shared} {x : V} {v : Value} (rx : RelV x v) (fx : flatV x = true) : ∀ {xs : List V} {us : List Value}, Vals xs us → xs.all flatV = true → ∀ u ∈ us, SeqAt.EqAt A s u v (eqU x u)
  | _, _, .nil, _ => fun u hu => by cases hu
  | y :: xs, u :: us, .cons r t, f => fun u' hu => by
    rw [List.all_cons, Bool.and_eq_true] at f
    rcases List.mem_cons.mp hu with rfl | hu
    · rw [eqU_of r f.1]; exact eqAt_V r rx f.1 fx
    · exact mem_eqAt rx fx t f.2 u' hu
def inV (x : V) (xs : List V) : Bool := xs.any fun y => eqV y x
def rIn (K : PySem.W.Frag) (neg : Bool) : R2 := fun x y H Q => ∃ p xs, y = .ref p ∧ (SqL K H p xs ∨ SqT K H p xs) ∧ flatV x = true ∧ xs.all flatV = true ∧ Q (.bl (if neg then !inV x xs else inV x xs)) H
theorem op_notIn_seq : OpR X (compareOp .NotIn) (rIn X.K true) := by
  intro pins s σ H x y v u Q I rx ry h
  obtain ⟨p, xs, rfl, hq, fx, fs, q⟩ := h
  cases ry
  rcases hq with hq | hq
  · obtain ⟨its, r, pl, hz⟩ := I.list hq
    refine SeqAt.notIn_listAt (eqU x) pl.isList (fun w hw => mem_eqAt rx fx r fs w (by simpa using hw)) ⟨.bl _, H, I, rfl, ?_⟩
    rw [show its.toArray.any (eqU x) = its.any (eqU x) by simp, any_eqU r fs]
    exact q
  · obtain ⟨its, r, pl, hz⟩ := I.tuple hq
    refine SeqAt.notIn_tupleAt (eqU x) pl (fun w hw => mem_eqAt rx fx r fs w (by simpa using hw)) ⟨.bl _, H, I, rfl, ?_⟩
    rw [show its.toArray.any (eqU x) = its.any (eqU x) by simp, any_eqU r fs]
    exact q
theorem op_notIn_str : OpR X (compareOp .NotIn) (fun x y H Q => ∃ i j, x = .str i ∧ y = .str j ∧ Q (.bl (!(!(Builtin.Str.occurrences j i 0 j.length 1).isEmpty))) H) := by
  intro pins s σ H x y v u Q I rx ry h
  obtain ⟨i, j, rfl, rfl, q⟩ := h
  obtain ⟨t, rfl⟩ := rx
  obtain ⟨t', rfl⟩ := ry
  exact notIn_str ⟨.bl _, H, I, rfl, q⟩

/-! ### len, list(x), tuple(x) of any list or tuple that is read -/
theorem call_len_seq : CallR X (.builtin "len") (fun xs H Q => ∃ p ys, xs = [.ref p] ∧ (SqL X.K H p ys ∨ SqT X.K H p ys) ∧ Q (.int ys.length) H) := by
  intro pins s σ H xs us Q I r h
  obtain ⟨p, ys, rfl, hq, q⟩ := h
  obtain ⟨u, rfl, rx⟩ := vals1 r
  cases rx
  have hn := line63
  rcases hq with hq | hq
  · obtain ⟨its, r', pl, hz⟩ := I.list hq
    have hlen := r'.length
    exact Calls.call_len_list pl.isList (by simp only [List.size_toArray] <;> omega) ⟨.int ys.length, H, I.tok _, ⟨s.toks + 1, by rw [List.size_toArray, hlen]⟩, q⟩
  · obtain ⟨its, r', pl, hz⟩ := I.tuple hq
    have hlen := r'.length
    exact len_tuple pl (by simp only [List.size_toArray] <;> omega) ⟨.int ys.length, H, I.tok _, ⟨s.toks + 1, by rw [List.size_toArray, hlen]⟩, q⟩
theorem call_len_str : CallR X (.builtin "len") (fun xs H Q => ∃ z, xs = [.str z] ∧ z.length ≤ sizeLine ∧ Q (.int z.length) H) := by
  intro pins s σ H xs us Q I r h
  obtain ⟨z, rfl, hz, q⟩ := h
  obtain ⟨u, rfl, t, rfl⟩ := vals1 r
  have hn := line63
  exact len_str (by omega) ⟨.int z.length, H, I.tok _, ⟨_, rfl⟩, q⟩
theorem call_list_of : CallR X (.type "list") (fun xs H Q => ∃ p ys, xs = [.ref p] ∧ (SqL X.K H p ys ∨ SqT X.K H p ys) ∧ ∀ l, H l = none → Q (.ref l) (upd H l (.lst ys))) := by
  intro pins s σ H xs us Q I r h
  obtain ⟨p, ys, rfl, hq, q⟩ := h
  obtain ⟨u, rfl, rx⟩ := vals1 r
  cases rx
  have fin : ∀ (its : List Value), Vals ys its → ys.length ≤ sizeLine → ∀ (h' : Heap) (c' : Nat), (∀ b o', s.heap.get? b = some o' → h'.get? b = some o') →
      h'.get? s.heap.objs.size = some { cls := .type "list", dict := none, data := .seq its.toArray c', slots := #[] } → EP X pins σ Q (.ref s.heap.objs.size) { s with heap := h' } := fun its r' hz h' c' kp e =>
    ⟨.ref s.heap.objs.size, _, I.laid (t' := s.toks) kp (Nat.le_refl _) (show ObjOk X.prog X.w _ h' _ (.lst ys) from ⟨hz, its, c', r', e⟩), rfl, q _ (I.hok.fresh (Nat.le_refl _))⟩
  rcases hq with hq | hq
  · obtain ⟨its, r', pl, hz⟩ := I.list hq
    have hlen := r'.length
    obtain ⟨o, ho, hc, n, hd⟩ := pl.isList
    exact call_list_seq p (.inl rfl) ho hc hd (fun h' c' kp e => fin its r' hz h' c' kp e) (by simp only [List.size_toArray] <;> omega)
  · obtain ⟨its, r', pl, hz⟩ := I.tuple hq
    have hlen := r'.length
    obtain ⟨o, ho, hc, n, hd⟩ := pl
    exact call_list_seq p (.inr rfl) ho hc hd (fun h' c' kp e => fin its r' hz h' c' kp e) (by simp only [List.size_toArray] <;> omega)
theorem call_tuple_of : CallR X (.type "tuple") (fun xs H Q => ∃ p ys, xs = [.ref p] ∧ ((SqL X.K H p ys ∧ ∀ l, H l = none → Q (.ref l) (upd H l (.tup ys))) ∨ (SqT X.K H p ys ∧ Q (.ref p) H))) := by
  intro pins s σ H xs us Q I r h
  obtain ⟨p, ys, rfl, h⟩ := h
  obtain ⟨u, rfl, rx⟩ := vals1 r
  cases rx
  rcases h with ⟨hq, q⟩ | ⟨hq, q⟩
  · obtain ⟨its, r', pl, hz⟩ := I.list hq
    have hlen := r'.length
    refine call_tuple_list pl.isList (fun h' kp => ?_) (by simp only [List.size_toArray] <;> omega)
    have I1 : Inv X pins σ H { s with heap := h' } := I.kept (t' := s.toks) kp
    have I2 : Inv X pins σ (upd H h'.objs.size (.tup ys)) { s with heap := h'.push { cls := .type "tuple", data := .seq its.toArray } } :=
      I1.laid (t' := s.toks) (fun b o e => Heap.get?_push_of_some _ e) (Nat.le_refl _) (show ObjOk X.prog X.w _ _ _ (.tup ys) from ⟨hz, its, r', IsTup.new _ _⟩)
    exact ⟨.ref h'.objs.size, _, I2, rfl, q _ (I1.hok.fresh (Nat.le_refl _))⟩
  · obtain ⟨its, r', pl, hz⟩ := I.tuple hq
    exact call_tuple_same pl ⟨.ref p, H, I, rfl, q⟩

/-! ### the call of a builtin's method: o.m(..) -/
def tyV (K : PySem.W.Frag) (T : String) (x : V) (H : Hp) : Prop := match x with
  | .str _ => T = "str"
  | .int _ => T = "int"
  | .ref p => (T = "list" ∧ ∃ xs, SqL K H p xs) ∨ (T = "tuple" ∧ ∃ o, K.lookup p = some o ∧ o.cls = .type "tuple" ∧ o.dict = none) ∨
      (T = "dict" ∧ ((∃ kvs, H p = some (.dK kvs)) ∨ ∃ kvs, H p = some (.dT kvs))) ∨ (T = "set" ∧ ∃ S n, H p = some (.set S n))
  | _ => False
theorem tyV_is {pins : List (Addr × Obj)} {σ : St} {H : Hp} {s : Shared} {T : String} {x : V} {v : Value} (I : Inv X pins σ H s) (r : RelV x v) (ty : tyV X.K T x H) :
    s.TypeIs v T ∧ ∀ a, v = .ref a → ∃ ob, s.heap.get? a = some ob ∧ ob.dict = none := by
  cases x with
  | str z =>
    obtain ⟨t, rfl⟩ := r
    cases (show T = "str" from ty)
    exact ⟨typeIs_str s z t, fun _ e => nomatch e⟩
  | int i =>
    obtain ⟨t, rfl⟩ := r
    cases (show T = "int" from ty)
    exact ⟨typeIs_int s i t, fun _ e => nomatch e⟩
  | ref p =>
    cases r
    rcases ty with ⟨rfl, xs, hq⟩ | ⟨rfl, o, hk, hc, hd⟩ | ⟨rfl, hk⟩ | ⟨rfl, S, n, hk⟩
    · obtain ⟨its, _, pl, _⟩ := I.list hq
      refine ⟨pl.isList.typeIs, fun a e => ?_⟩
      cases e
      obtain ⟨o, n, e, c, hd, _⟩ := pl
      exact ⟨o, e, hd⟩
    · refine ⟨⟨o, I.kIn p o hk, hc⟩, fun a e => ?_⟩
      cases e
      exact ⟨o, I.kIn _ o hk, hd⟩
    · have z : ∃ o, s.heap.get? p = some o ∧ o.ExactDict := by
        rcases hk with ⟨kvs, hk⟩ | ⟨kvs, hk⟩
        · obtain ⟨_, _, _, _, o, _, _, e, ex, _⟩ := I.hok p _ hk
          exact ⟨o, e, ex⟩
        · obtain ⟨_, _, _, _, o, _, _, e, ex, _⟩ := I.hok p _ hk
          exact ⟨o, e, ex⟩
      obtain ⟨o, e, ex⟩ := z
      refine ⟨⟨o, e, ex.1⟩, fun a e2 => ?_⟩
      cases e2
      exact ⟨o, e, ex.2.1⟩
    · obtain ⟨o, _, _, _, e, ex, _⟩ := I.hok p _ hk
      refine ⟨⟨o, e, ex.1⟩, fun a e2 => ?_⟩
      cases e2
      exact ⟨o, e, ex.2.1⟩
  | _ => exact False.elim ty
def tBM (K : PySem.W.Frag) (T : String) (r : V → List V → Hp → VK → Prop) (to : TE) (t : TA) : TE := fun σ H Q => to σ H fun x H1 => tyV K T x H1 ∧ t σ H1 fun xs H2 => r x xs H2 Q
variable {o e : Expr} {es : List Expr} {to : TE} {t : TA} {name : Str} {apos cpos : Pos} {T id : String} {r : V → List V → Hp → VK → Prop}
theorem pe_bm (pa : PlainAttrs T) (slot : Slot T name id) (hty : typeOf (.builtin id) = pure (.type "method_descriptor")) (hm : MtR X id r) (ho : PE X o to) (ha : PA X (e :: es) t)
    (hbase : attributeBase o name X.env (eval o X.env) = eval o X.env := by rfl)
    (hfew : ((backTo cpos (starEach (e :: es) X.env)).all (fun x => !x.1) && (backToKw cpos (keywordEach [] X.env)).all (fun x => x.1.isSome)
      && decide ((e :: es).length + ([] : List Keyword).length + (if ([] : List Keyword).isEmpty then 0 else 1) < 30)) = true := by rfl)
    (hline : (apos.endLine == cpos.line) = true := by rfl) (hs : starEach (e :: es) X.env = (false, eval e X.env) :: starEach es X.env := by rfl) (hplain : (backTo cpos (starEach es X.env)).any (·.1) = false := by rfl) :
    PE X (.Call (.Attribute o name apos) (e :: es) [] cpos) (tBM X.K T r to t) := by
  intro pins s σ H Q I h
  refine wpAny_Call_method_late hbase hfew hline rfl (thn (ho pins s σ H _ I h) fun v s1 ⟨x, H1, I1, r1, ty, q1⟩ => ?_)
  obtain ⟨h1, h2⟩ := tyV_is I1 r1 ty
  refine ⟨T, id, pa, slot, hty, h1, h2, ?_⟩
  have hA := ha cpos pins s1 σ H1 _ I1 q1
  rw [hs] at hA ⊢
  refine Calls.callWith_builtin (by show (false || (backTo cpos (starEach es X.env)).any (·.1)) = false; rw [hplain] <;> rfl) (Calls.evalArgs_plain ?_)
  exact thn hA fun us s2 ⟨vs, H2, I2, r2, q2⟩ => hm pins s2 σ H2 x vs v us Q I2 r1 r2 q2
/- xs.append(e), list.index on a module's tuple .. are MtR facts of 06m -/
end
end L2

namespace L2
open PySem PySem.Spec PyProof.Rows

def MtM (X : Cx) (id : String) (r : V → List V → Hp → VK → Prop) : Prop :=
  ∀ (pins : List (Addr × Obj)) (s : Shared) (σ : St) (H : Hp) (x : V) (xs : List V) (v : Value) (us : List Value) (Q : VK), Inv X pins σ H s → RelV x v → Vals xs us → r x xs H Q →
    wpAny (model X.prog X.w) X.A (call (.builtin id) (v :: us)) (EP X pins σ Q) X.xe s

/-! ### lists of values -/
theorem Vals.one {x : V} {us : List Value} (h : Vals [x] us) : ∃ u, us = [u] ∧ RelV x u := by
  cases h with
  | cons r t => cases t; exact ⟨_, rfl, r⟩
theorem Vals.two {x y : V} {us : List Value} (h : Vals [x, y] us) : ∃ u v, us = [u, v] ∧ RelV x u ∧ RelV y v := by
  cases h with
  | cons r t => cases t with
    | cons q t => cases t; exact ⟨_, _, rfl, r, q⟩
section
variable {X : Cx} {pins : List (Addr × Obj)} {σ : St} {H : Hp} {s : Shared} {l b : Addr} {xs ys zs : List V}

/-! ### the two steps: a tracked list is rewritten, a new list is laid -/
theorem Inv.lset {its its' : List Value} {n : Nat} {f : Array Value → Array Value} {t' : Nat} (I : Inv X pins σ H s) (hH : H l = some (.lst xs))
    (e : s.heap.get? l = some { cls := .type "list", data := .seq its.toArray n }) (hf : f its.toArray = its'.toArray) (hv : Vals ys its') (hz : ys.length ≤ sizeLine) :
    Inv X pins σ (upd H l (.lst ys)) { s with heap := s.heap.update l (Obj.mapSeq f), toks := t' } := by
  have q := PySem.IsL.update e f
  rw [hf] at q
  refine I.write (x := l) (e := l) (by rw [hH]; exact trivial) (.inl rfl) (fun b' u hb hu => (Heap.get?_update_other s.heap (Obj.mapSeq f) (Ne.symm hb)).trans hu) ⟨_, q⟩ ?_
  exact ⟨hz, its', _, hv, q⟩
theorem Inv.lnew {its : List Value} {t' : Nat} (I : Inv X pins σ H s) (hv : Vals ys its) (hz : ys.length ≤ sizeLine) :
    Inv X pins σ (upd H s.heap.objs.size (.lst ys)) { s with heap := s.heap.push { cls := .type "list", data := .seq its.toArray }, toks := t' } :=
  I.laid (fun _ _ q => Heap.get?_push_of_some _ q) (Nat.le_refl _) ⟨hz, its, 0, hv, Heap.get?_push_size _ rfl⟩
theorem Inv.fresh (I : Inv X pins σ H s) : H s.heap.objs.size = none := I.hok.fresh (Nat.le_refl _)
theorem Inv.lstM (I : Inv X pins σ H s) (hH : H l = some (.lst xs)) : xs.length ≤ sizeLine ∧ ∃ (its : List Value) (n : Nat), Vals xs its ∧ xs.length = its.length ∧ s.heap.get? l = some { cls := .type "list", data := .seq its.toArray n } := by
  obtain ⟨z, its, n, r, e⟩ := I.hok l _ hH
  exact ⟨z, its, n, r, r.length, e⟩

theorem notLongL {n : Nat} (h : n ≤ sizeLine) : Builtin.List.listTooLong n = false := by
  unfold Builtin.List.listTooLong
  exact decide_eq_false (by omega)
end

section
variable {X : Cx}

/-! ### methods -/
def rAppend : V → List V → Hp → VK → Prop := fun x vs H Q => ∃ l xs y, x = .ref l ∧ vs = [y] ∧ H l = some (.lst xs) ∧ xs.length < sizeLine ∧ Q .non (upd H l (.lst (xs ++ [y])))
theorem mt_append : MtM X "list.append" rAppend := by
  intro pins s σ H x vs v us Q I rx rv h
  obtain ⟨l, xs, y, rfl, rfl, hH, hz, q⟩ := h
  cases rx
  obtain ⟨u, rfl, ru⟩ := rv.one
  obtain ⟨z, its, n, r, hl, e⟩ := I.lstM hH
  refine call_meets F.slot_list_append ⟨_, e, rfl⟩ F.entry_list_append (F.args_list_append_2 _ _) (PySem.list_append l its.toArray n u (by rw [List.size_toArray]; omega)) ⟨e, ?_⟩
  refine ⟨.non, _, I.lset (its' := its ++ [u]) hH e (by simp) (r.append (.cons ru .nil)) ?_, rfl, q⟩
  rw [List.length_append, List.length_singleton]
  omega

def rExtend : V → List V → Hp → VK → Prop := fun x vs H Q => ∃ l b xs zs, x = .ref l ∧ vs = [.ref b] ∧ H l = some (.lst xs) ∧ H b = some (.lst zs) ∧ xs.length + zs.length ≤ sizeLine ∧ Q .non (upd H l (.lst (xs ++ zs)))
theorem mt_extend : MtM X "list.extend" rExtend := by
  intro pins s σ H x vs v us Q I rx rv h
  obtain ⟨l, b, xs, zs, rfl, rfl, hH, hB, hz, q⟩ := h
  cases rx
  obtain ⟨u, rfl, ru⟩ := rv.one
  cases ru
  obtain ⟨z, its, n, r, hl, e⟩ := I.lstM hH
  obtain ⟨z2, its2, n2, r2, hl2, e2⟩ := I.lstM hB
  have hsz : its.toArray.size + its2.toArray.size ≤ sizeLine := by rw [List.size_toArray, List.size_toArray]; omega
  have hlong : ¬ (!its.toArray.isEmpty && Builtin.List.listTooLong (its.toArray.size + its2.toArray.size)) = true := by
    rw [notLongL hsz, Bool.and_false]
    exact Bool.false_ne_true
  refine call_meets F.slot_list_extend ⟨_, e, rfl⟩ F.entry_list_extend (F.args_list_extend_2 _ _)
    (AutoSeq1.list_extend_list_list_0 l its.toArray n b its2.toArray n2 hlong (by rw [List.size_toArray]; omega) (by omega)) ⟨e, e2, ?_⟩
  refine ⟨.non, _, I.lset (its' := its ++ its2) hH e (by simp) (r.append r2) ?_, rfl, q⟩
  rw [List.length_append]
  omega

/-! ### list + list, list += list, list * int -/
def rCat : R2 := fun x y H Q => ∃ l b xs zs, x = .ref l ∧ y = .ref b ∧ H l = some (.lst xs) ∧ H b = some (.lst zs) ∧ xs.length + zs.length ≤ sizeLine ∧ ∀ p, H p = none → Q (.ref p) (upd H p (.lst (xs ++ zs)))
theorem op_cat : OpR X (binaryOp .Add) rCat := by
  intro pins s σ H x y v u Q I rx ry h
  obtain ⟨l, b, xs, zs, rfl, rfl, hH, hB, hz, q⟩ := h
  cases rx
  cases ry
  obtain ⟨z, its, n, r, hl, e⟩ := I.lstM hH
  obtain ⟨z2, its2, n2, r2, hl2, e2⟩ := I.lstM hB
  refine PySem.P.add_list e e2 ?_ (by rw [List.size_toArray, List.size_toArray]; omega)
  have ea : its.toArray ++ its2.toArray = (its ++ its2).toArray := by simp
  rw [ea]
  exact ⟨.ref _, _, I.lnew (t' := s.toks) (r.append r2) (by rw [List.length_append]; omega), rfl, q _ I.fresh⟩
/-! ### del xs[i] -/
end

/-! ### xs[a:b] = ys -/
section
variable {prog : Program} {w : World} {A : Around} {E : Value → Shared → Prop} {s : Shared}
end

section
variable {X : Cx}
end
end L2

namespace Att
open PySem PySem.W PySem.Calls PyProof.Rows

/-! ### the script -/
theorem ints_of_wellAll {P : Params} {h : Heap} : ∀ (ns : List Int) (vs : List Value), WellAll P h vs (ns.map WData.int) → IntsAre vs ns := by
  intro ns
  induction ns with
  | nil =>
    intro vs w
    rw [List.map_nil] at w
    cases w
    exact .nil
  | cons n ns ih =>
    intro vs w
    rw [List.map_cons] at w
    cases w with
    | cons a b =>
      cases a
      exact .cons _ _ (ih _ b)

theorem script_of {l : OpenLaw} {n : Nat} (hn : l.most = some n) {P : Params} {h : Heap} {args : List WData} {vals : List Value}
    (hpre : l.row.toRowW.claim.pre args = true) (hwl : WellAll P h vals args) :
    ∃ a vs ns, vals = [Value.ref a] ∧ args = [WData.list (ns.map WData.int)] ∧ h.get? a = some { cls := .type "list", data := .seq vs.toArray } ∧ IntsAre vs ns ∧ ns.length ≤ n := by
  have hsh : WShape.hasAll [] args [.list .int] = true := (pre_splitW hpre).1
  have hc : l.pre.holds [] { args := args } = true := (pre_splitW hpre).2
  obtain ⟨d, r, rfl, h1, h2⟩ := hasAllW_cons hsh
  obtain rfl := hasAllW_nil h2
  obtain ⟨xs, rfl, h3⟩ := hasW_list h1
  obtain ⟨ns, rfl⟩ := items_int h3
  have hlen : ns.length ≤ n := by
    unfold OpenLaw.pre at hc
    have h4 : (WTm.not (.lt (.lit (.int (n : Int))) (.len (.arg 0)))).holds [] { args := [.list (ns.map .int)] } = true := by
      have h4 := (holds_andW hc).1
      rw [hn] at h4
      exact h4
    have h5 := condW_of h4 (w_not (w_lt w_lit (w_len_list (w_arg rfl))))
    rw [List.length_map] at h5
    refine Nat.le_of_not_lt fun q => ?_
    have q' : (n : Int) < ((ns.length : Nat) : Int) := by omega
    first
      | (rw [decide_eq_true q'] at h5; exact absurd h5 (by decide))
      | (simp at h5; omega)
  cases hwl with
  | cons w1 w2 =>
    cases w2
    cases w1 with
    | list ho hall => exact ⟨_, _, ns, rfl, rfl, ho, ints_of_wellAll ns _ hall, hlen⟩

theorem post_true (l : OpenLaw) (args : List WData) : l.row.toRowW.claim.post args (.bool true) args = true :=
  postW_of (r := l.row.toRowW) (X := (true == true))
    (show WShape.has [] (.bool true) .bool = true by first | rfl | decide | simp [WShape.has, WShape.arms, WShape.armsAll])
    (show (WTm.eq .res (.lit (.bool true))).value [] { args := args, res := some (.bool true), after := args } = some (.bool (true == true)) from w_eq_bool (w_res rfl) w_lit) rfl

/-! ### the attachment: holds_open's last premise (the goal 'hc' behind k_head) from a wpAny of the law's body -/
/-! ### rules over ANY heap (no ledger) from facts about the written part K: the library's own take a ledger (News) for what they write -/
section
variable {prog : Program} {w : World} {A : Around} {E : Value → Shared → Prop} {s : Shared} {K : Frag}

/-! the whole heap as the ledger: makes every rule that writes through a ledger a rule over any heap -/
end
end Att

namespace L2
open PySem PySem.Spec PyProof.Rows

theorem vals_ints : ∀ {vs : List Value} {ns : List Int}, IntsAre vs ns → Vals (ns.map V.int) vs
  | _, _, .nil => .nil
  | _, _, .cons n t h => .cons ⟨t, rfl⟩ (vals_ints h)

def Only (H : Hp) : Prop := ∀ b, H b = none ∨ ∃ o xs, H b = some (.frz o (.lst xs))

theorem law_call {P : Program} {w : World} {K : PySem.W.Frag} {mg mb : Str → Option Value} {CX : CXT} {k : Nat} {fa a : Addr} {fd : FuncData} {x : Str} {sp : Sp} {s₁ : Shared} {vs : List Value} {ns : List Int}
    (KX : K.In s₁.heap) (hns : s₁.heap.Ns mainGlobals mg) (hb : s₁.heap.Ns builtinsNs mb) (hbb : ∀ x : Str, x ≠ "__name__" → mb x = bootBuiltins x) (hlim : s₁.heap.NoLimit) (hg : s₁.gens = #[])
    (ha : s₁.heap.get? a = some { cls := .type "list", data := .seq vs.toArray }) (hi : IntsAre vs ns) (hl : ns.length ≤ sizeLine) (hr : Room k callerA)
    (F : ∀ base : Heap, K.In base → base.Ns mainGlobals mg → FnOk P w K mg base CX k fa fd [x] sp) (hbind : ∀ (s : Shared) (u : Value), BindsTo s fd ⟨[u], []⟩ [(x, u)])
    (hsp : ∀ H : Hp, Only H → SqL K H a (ns.map V.int) → sp [.ref a] H (fun v _ => v = .bl true) fun _ _ _ => False)
    (hCX : ∀ H e s', CX [] H s₁ (fun _ _ _ => False) e s' → False) :
    codeAny (model P w) callerA (.call (.ref fa) ⟨[.ref a], []⟩) (fun r s' => r = .ok (.ret (.bool true)) ∧ OldK s₁.heap s'.heap ∧ s'.os = s₁.os ∧ AllBare s'.gens) s₁ := by
  have rv := vals_ints hi
  have lenV := hi.length
  -- from an abstract heap in which nothing but the script may be tracked
  have core : ∀ H : Hp, Only H → SqL K H a (ns.map V.int) → HOk P w H s₁.heap → (∀ b, H b ≠ none → b = a) → (H a ≠ none → K.lookup a = none) →
      codeAny (model P w) callerA (.call (.ref fa) ⟨[.ref a], []⟩) (fun r s' => r = .ok (.ret (.bool true)) ∧ OldK s₁.heap s'.heap ∧ s'.os = s₁.os ∧ AllBare s'.gens) s₁ := by
    intro H hO hS hok hA hK
    have base_of : ∀ {b : Addr} {o : Obj}, s₁.heap.get? b = some o → H b = none → (hidT s₁.heap H).get? b = some o := fun e n => hidT_get e n
    have noA : ∀ {b : Addr} {o : Obj} {es : Array DictEntry} {ep : Nat}, s₁.heap.get? b = some o → o.data = .dict es ep → H b = none := fun {b o es ep} e d => by
      cases q : H b with
      | none => rfl
      | some u =>
        have e' : b = a := hA b (by rw [q]; simp)
        subst e'
        rw [ha] at e; cases e
        have d' : Data.seq vs.toArray _ = Data.dict es ep := d
        cases d'
    have nsK : ∀ {b : Addr} {m : Str → Option Value}, s₁.heap.Ns b m → (hidT s₁.heap H).Ns b m := fun {b m} ⟨o, es, ep, e, d, r⟩ => ⟨o, es, ep, base_of e (noA e d), d, r⟩
    have hKb : K.In (hidT s₁.heap H) := fun b o e => base_of (KX b o e) (by
      cases q : H b with
      | none => rfl
      | some u =>
        have e' : b = a := hA b (by rw [q]; simp)
        subst e'
        rw [hK (by rw [q]; simp)] at e; cases e)
    have hM : Mod K mg (hidT s₁.heap H) := ⟨hKb, nsK hns, ⟨mb, nsK hb, hbb⟩, let ⟨mc, h1, h2⟩ := hlim; ⟨mc, nsK h1, h2⟩⟩
    have e0 : Env0 P w K mg (hidT s₁.heap H) callerA [] s₁ H := ⟨rfl, hM, fun b o e => of_hidT e, Nat.le_of_eq (hidT_size _ _), trivial, fun b hb => absurd (show b ∈ ([] : List Addr) from hb) (by simp), hok, .of_eq hg⟩
    refine codeAny_mono ((F _ hKb (nsK hns)).run callerA [] s₁ H ⟨[.ref a], []⟩ [.ref a] [.ref a] _ _ hr e0 (hbind s₁ (.ref a)) (.cons rfl .nil) (hsp H hO hS)) fun r s' h => ?_
    cases r with
    | error e => exact (hCX H e s' h).elim
    | ok fl =>
      cases fl with
      | next => exact False.elim h
      | brk => exact False.elim h
      | cont => exact False.elim h
      | ret u =>
        obtain ⟨v, H', os, bare, un, hok', r', q⟩ := h
        have q' : v = .bl true := q
        subst q'
        obtain rfl : u = Value.bool true := r'
        refine ⟨rfl, OldK.of_keep fun b o e => ?_, os, bare⟩
        cases q : H b with
        | none => exact un.keep b o e q (by intro z; exact absurd (show b ∈ ([] : List Addr) from z) (by simp)) (by simp)
        | some u =>
          rcases hO b with z | ⟨ob, xs, z⟩
          · rw [q] at z; cases z
          · have z2 := un.frzs b ob _ z
            obtain ⟨e1, _⟩ := hok b _ z
            obtain ⟨e2, _⟩ := hok' b _ z2
            rw [e] at e1; cases e1
            exact e2
  cases hk : K.lookup a with
  | some o =>
    -- the script is one of the module's own objects
    have e := KX a o hk
    rw [ha] at e
    cases e
    refine core (fun _ => none) (fun _ => .inl rfl) (.inr ⟨_, vs.toArray, _, hk, rfl, rfl, rfl, by rw [List.size_toArray, lenV]; exact hl, by simpa using rv⟩) (fun b u z => by have z' : (none : Option HO) = some u := z; cases z') (fun b z => absurd rfl z) fun z => absurd rfl z
  | none =>
    refine core (fun b => if b = a then some (.frz { cls := .type "list", data := .seq vs.toArray } (.lst (ns.map V.int))) else none) (fun b => ?_) (.inl (.inr ⟨{ cls := .type "list", data := .seq vs.toArray }, if_pos rfl⟩)) (fun b u z => ?_) (fun b z => ?_) fun _ => hk
    · by_cases hb : b = a
      · exact .inr ⟨_, _, if_pos hb⟩
      · exact .inl (if_neg hb)
    · by_cases hb : b = a
      · have z' := (if_pos hb).symm.trans z
        cases z'
        subst hb
        exact ⟨ha, by rw [List.length_map]; exact hl, vs, _, rv, ha⟩
      · have z' := (if_neg hb).symm.trans z
        cases z'
    · by_cases hb : b = a
      · exact hb
      · exact absurd (if_neg hb) z
end L2

namespace L2
open PySem PySem.Spec PyProof.Rows

end L2


/-! SHORT WORDS over the layer: a def of the text, its body, what a loop and a test want. -/
namespace L2
open PySem PySem.Spec PyProof.Rows

/-! ### the text by places -/
def inClass (s : Stmt) (j : Nat) : Stmt := match s with
  | .ClassDef _ _ _ body _ _ _ _ _ _ _ => body.getD j (.Pass ⟨0, 0, 0, 0⟩)
  | _ => .Pass ⟨0, 0, 0, 0⟩
def defArgs (s : Stmt) : Arguments := match s with
  | .FunctionDef _ a _ _ _ _ _ _ _ _ => a
  | _ => { posonlyargs := [], args := [], vararg := none, kwonlyargs := [], kw_defaults := [], kwarg := none, defaults := [] }
def defBody (s : Stmt) : List Stmt := match s with
  | .FunctionDef _ _ b _ _ _ _ _ _ _ => b
  | _ => []
def defScope (s : Stmt) : Scope := match s with
  | .FunctionDef _ _ _ _ _ _ sc _ _ _ => sc
  | _ => { kind := .function, names := [], isGenerator := false, isCoroutine := false }

/-! ### no exception leaves a def -/
abbrev CX0 : CXT := fun _ _ _ _ _ _ => False
abbrev E0 : XK := fun _ _ _ => False
theorem pass0 {X : Cx} : Passes CX0 X E0 := fun _ _ _ _ _ _ _ h => h.elim

/-! ### a def (or method) of the text as it stands behind the top -/
structure Fun (K : PySem.W.Frag) (x qual : Str) (st : Stmt) (f : Addr) (fd : FuncData) : Prop where
  ex : ∃ (oc : Value) (od : Option Addr) (kV doc pm : Value) (an : Option Addr) (cdv ct : Value) (osl : Array (Option Value)),
    fd = PySem.W.fnOf x qual (defArgs st) (defBody st) (defScope st) .none kV doc pm an cdv ct ∧ K.lookup f = some ⟨oc, od, .func fd, osl⟩ ∧ PySem.W.codeIn K cdv qual = true
  kp : PySem.W.keepIn K (.ref f) = true
section
variable {P : Program} {w : World} {K : PySem.W.Frag} {mg : Str → Option Value} {base : Heap}
theorem Fun.ok {x qual : Str} {st : Stmt} {f : Addr} {fd : FuncData} {N ps : List Str} {k : Nat} {sp : Sp} (F : Fun K x qual st f fd) (S : FnScope N ps (defScope st)) (len : ∀ vs H Q E, sp vs H Q E → vs.length = ps.length)
    (hbody : ∀ (cdv : Value) (A : Around) (outer : List Env) (s : Shared) (H : Hp) (vs : List V) (Q : VK) (E : XK), Room k (A.deeper (envOfC qual (defScope st) s.heap.objs.size f cdv)) → sp vs H Q E →
      ∃ t, PSs (cxOf CX0 P w K mg base N qual (defScope st) f cdv A outer s H E).nox (defBody st) t ∧ t { nx := fun _ H' => Q .non H', rt := Q } (start N vs) H) : FnOk P w K mg base CX0 (k + 1) f fd ps sp := by
  obtain ⟨oc, od, kV, doc, pm, an, cdv, ct, osl, rfl, lk, hcd⟩ := F.ex
  refine fn_of lk hcd S len fun A outer s H vs Q E hr hsp => ?_
  obtain ⟨t, h, q⟩ := hbody cdv A outer s H vs Q E hr hsp
  exact ⟨t, h.nox, q⟩
theorem fun_mk {x qual : Str} {st : Stmt} {f : Addr} {oc : Value} {od an : Option Addr} {osl : Array (Option Value)} {kV doc pm cdv ct : Value} (l : K.lookup f = some ⟨oc, od, .func (PySem.W.fnOf x qual (defArgs st) (defBody st) (defScope st) .none kV doc pm an cdv ct), osl⟩)
    (c : PySem.W.codeIn K cdv qual = true) (k : PySem.W.keepIn K (.ref f) = true) : Fun K x qual st f (PySem.W.fnOf x qual (defArgs st) (defBody st) (defScope st) .none kV doc pm an cdv ct) := ⟨⟨oc, od, kV, doc, pm, an, cdv, ct, osl, rfl, l, c⟩, k⟩
end
/-! ### expressions in short: the name that stands in the i-th slot -/
section
variable {X : Cx}
theorem pv (i : Nat) {x : Str} {pos : Pos} (hN : X.N[i]? = some x := by rfl) (hv : Vis X.env.scope x := by first | exact Or.inl rfl | exact Or.inr (Or.inl rfl) | exact Or.inr (Or.inr rfl)) (hd : (x == ("__debug__" : Str)) = false := by decide)
    (hcd : (x == ("__classdict__" : Str)) = false := by decide) : PE X (.Name x pos) (tVar i) := pe_var hN hv hd hcd
end

/-! ### tests -/
theorem iteF {A B : Prop} (h : B) : if false = true then A else B := by
  rw [if_neg Bool.false_ne_true]
  exact h
theorem iteT {A B : Prop} (h : A) : if true = true then A else B := by
  rw [if_pos rfl]
  exact h
/-! ### heaps -/
def Same (H H' : Hp) : Prop := ∀ b o, H b = some o → H' b = some o
theorem Same.refl (H : Hp) : Same H H := fun _ _ h => h
theorem Same.trans {H H1 H2 : Hp} (a : Same H H1) (b : Same H1 H2) : Same H H2 := fun c o h => b c o (a c o h)
theorem Same.free {H H' : Hp} (e : Same H H') {l : Addr} (h : H' l = Option.none) : H l = Option.none := by
  cases q : H l with
  | none => rfl
  | some o =>
    rw [e l o q] at h
    cases h
theorem Same.seq {K : PySem.W.Frag} {H H' : Hp} {a : Addr} {xs : List V} (e : Same H H') (h : SqL K H a xs) : SqL K H' a xs := by
  rcases h with (h | ⟨o, h⟩) | h
  · exact .inl (.inl (e _ _ h))
  · exact .inl (.inr ⟨o, e _ _ h⟩)
  · exact .inr h

end L2


set_option maxHeartbeats 4000000
/-! more rules over the layer: great ints, is, tuples compared, lists unpacked, ranges by steps, list comprehensions -/
namespace L2
open PySem PySem.Spec PyProof.Rows

/-! ### great ints -/
def Sz (k : Nat) (x : Int) : Prop := x.natAbs < 2 ^ k
instance (k : Nat) (x : Int) : Decidable (Sz k x) := by unfold Sz; infer_instance
theorem Sz.mono {j k : Nat} {x : Int} (h : Sz j x) (hjk : j ≤ k) : Sz k x := Nat.lt_of_lt_of_le h (Nat.pow_le_pow_right (by decide) hjk)
theorem Sz.of_bound {k : Nat} {x b : Int} (h1 : -b ≤ x) (h2 : x ≤ b) (hb : b.natAbs < 2 ^ k) : Sz k x := by
  unfold Sz
  omega
theorem Sz.bits {k : Nat} {x : Int} (h : Sz k x) : Builtin.Int.intBits x ≤ k := by
  unfold Builtin.Int.intBits
  split
  · exact Nat.zero_le _
  · rename_i hx
    have hx' : x ≠ 0 := by simpa using hx
    have hn : x.natAbs ≠ 0 := by omega
    exact (Nat.log2_lt hn).mpr h
theorem Sz.log2 {k : Nat} {x : Int} (h : Sz k x) (hk : 0 < k) : x.natAbs.log2 < k := by
  by_cases hn : x.natAbs = 0
  · rw [hn]; simpa using hk
  · exact (Nat.log2_lt hn).mpr h
def CDivS (_i j : Int) : Prop := j ≠ 0 ∧ Sz 9000 j
section
variable {X : Cx}
theorem op_fdivS : OpR X (binaryOp .FloorDiv) (rI CDivS fun i j => .int (i.fdiv j)) := opI fun _ _ _ _ _ _ _ hc q => floordiv_int hc.1 q (.inl (PyProof.noPylong_of_log2 (hc.2.log2 (by decide))))
/-! ### is, is not of bools -/
/-! ### tuples of ints, == and != -/
/-! ### isinstance against a built-in class -/
theorem call_isinst : CallR X (.builtin "isinstance") (fun xs H Q => ∃ x T t b, xs = [x, .ty T] ∧ TyOf X.K H x t ∧ PySem.W.kitOne X.K t (.type T) = some b ∧ Q (.bl b) H) := by
  intro pins s σ H xs us Q I r h
  obtain ⟨x, T, t, b, rfl, ty, e, q⟩ := h
  obtain ⟨u, v, rfl, ru, rv⟩ := r.two
  cases rv
  exact isinst_ok I ru ty e fun tk => ⟨.bl b, H, I.tok tk, rfl, q⟩
end

/-! ### a list unpacked -/
section
variable {prog : Program} {w : World} {A : Around} {E : Value → Shared → Prop}
end
section
variable {X : Cx} {pos : Pos}
end

/-! ### range by steps -/
section
variable {X : Cx} {tg : Expr}
end
end L2

set_option maxHeartbeats 4000000
/-! list comprehensions of one clause without a test -/
namespace L2
open PySem PySem.Spec PyProof.Rows

theorem forIn_fold {α β : Type} {f : α → β → Sem (ForInStep β)} {g : β → α → β} : ∀ (l : List α) (b : β), (∀ x ∈ l, ∀ b, f x b = pure (.yield (g b x))) → forIn l b f = pure (l.foldl g b)
  | [], b, _ => rfl
  | x :: r, b, h => by
    rw [List.forIn_cons, h x List.mem_cons_self b, pure_bind]
    exact forIn_fold r (g b x) fun y hy => h y (List.mem_cons_of_mem _ hy)

def cloF (cells : List (Str × Addr)) (cs : List (Str × Addr)) (x : Str × NameKind) : List (Str × Addr) := if x.2 == .free then (x.1, (cells.lookup x.1).getD 0) :: cs else cs
def clo (names : List (Str × NameKind)) (cells : List (Str × Addr)) : List (Str × Addr) := names.foldl (cloF cells) []
theorem closure_eq {scope : Scope} {env : Env} (h : ∀ x ∈ scope.names, x.2 = .free → ∃ c, env.cells.lookup x.1 = some c) : closureFor scope env = pure (clo scope.names env.cells) := by
  simp only [closureFor]
  unfold clo
  rw [forIn_fold (g := cloF env.cells) scope.names [] (fun x hx b => by
    obtain ⟨n, k⟩ := x
    unfold cloF
    by_cases hk : k = .free
    · subst hk
      obtain ⟨c, hc⟩ := h (n, .free) hx rfl
      have hc' : env.cells.lookup n = some c := hc
      simp [cellOf, hc']
    · have hb : (k == NameKind.free) = false := by simpa using hk
      simp [hb])]
  rfl
theorem lookup_cons_eq {x n : Str} {c : Addr} {l : List (Str × Addr)} : List.lookup x ((n, c) :: l) = if x = n then some c else List.lookup x l := by
  by_cases h : x = n
  · subst h
    rw [if_pos rfl, List.lookup_cons_self]
  · rw [if_neg h, List.lookup_cons]
    have : (x == n) = false := by simpa using h
    rw [this]
theorem clo_sub {cells : List (Str × Addr)} : ∀ (names : List (Str × NameKind)) (cs : List (Str × Addr)), (∀ x ∈ names, x.2 = .free → ∃ c, cells.lookup x.1 = some c) → (∀ x c, cs.lookup x = some c → cells.lookup x = some c) →
    ∀ x c, (names.foldl (cloF cells) cs).lookup x = some c → cells.lookup x = some c
  | [], cs, _, h0 => h0
  | (n, k) :: r, cs, h, h0 => by
    refine clo_sub r _ (fun y hy => h y (List.mem_cons_of_mem _ hy)) fun x c e => ?_
    unfold cloF at e
    by_cases hk : k = .free
    · subst hk
      obtain ⟨c', hc'⟩ := h (n, .free) List.mem_cons_self rfl
      simp only [beq_self_eq_true, if_true] at e
      rw [lookup_cons_eq] at e
      have hc' : cells.lookup n = some c' := hc'
      by_cases hx : x = n
      · subst hx
        rw [if_pos rfl, hc'] at e
        rw [hc']
        exact e
      · rw [if_neg hx] at e
        exact h0 x c e
    · have hb : (k == NameKind.free) = false := by simpa using hk
      simp only [hb, Bool.false_eq_true, if_false] at e
      exact h0 x c e
theorem clo_some {cells : List (Str × Addr)} : ∀ (names : List (Str × NameKind)) (cs : List (Str × Addr)) (x : Str), ((x, NameKind.free) ∈ names ∨ ∃ c, cs.lookup x = some c) → ∃ c, (names.foldl (cloF cells) cs).lookup x = some c
  | [], cs, x, h => by
    rcases h with h | h
    · cases h
    · exact h
  | (n, k) :: r, cs, x, h => by
    refine clo_some r _ x ?_
    unfold cloF
    by_cases hk : k = .free
    · subst hk
      simp only [beq_self_eq_true, if_true]
      rw [lookup_cons_eq]
      by_cases hx : x = n
      · exact .inr ⟨_, if_pos hx⟩
      · rw [if_neg hx]
        rcases h with h | h
        · rcases List.mem_cons.mp h with h | h
          · exact absurd (congrArg Prod.fst h) hx
          · exact .inl h
        · exact .inr h
    · have hb : (k == NameKind.free) = false := by simpa using hk
      simp only [hb, Bool.false_eq_true, if_false]
      rcases h with h | h
      · rcases List.mem_cons.mp h with h | h
        · exact absurd (congrArg Prod.snd h).symm hk
        · exact .inl h
      · exact .inr h

structure LcOk (N : List Str) (osc sc : Scope) (Nc : List Str) (mp : List (Option Nat)) : Prop where
  kind : sc.kind = .function
  nocell : ∀ y ∈ sc.names, y.2 ≠ .cell
  names : ∀ y ∈ sc.names, y.2 = .local → sc.names.lookup y.1 = some .local
  free : ∀ y ∈ sc.names, y.2 = .free → osc.names.lookup y.1 = some .cell ∨ osc.names.lookup y.1 = some .free
  len : mp.length = Nc.length
  map : ∀ (i j : Nat), mp[i]? = some (some j) → ∃ x, Nc[i]? = some x ∧ N[j]? = some x ∧ sc.names.lookup x = some .free
def lcChk (N : List Str) (osc sc : Scope) (Nc : List Str) (mp : List (Option Nat)) : Bool :=
  decide (sc.kind = .function) && sc.names.all (fun y => !decide (y.2 = .cell) && (!decide (y.2 = .local) || decide (sc.names.lookup y.1 = some .local)) &&
    (!decide (y.2 = .free) || decide (osc.names.lookup y.1 = some .cell) || decide (osc.names.lookup y.1 = some .free))) &&
  decide (mp.length = Nc.length) && (List.range mp.length).all fun i => match mp[i]? with
    | some (some j) => match Nc[i]? with
      | some x => decide (N[j]? = some x) && decide (sc.names.lookup x = some .free)
      | none => false
    | _ => true
theorem LcOk.of {N : List Str} {osc sc : Scope} {Nc : List Str} {mp : List (Option Nat)} (h : lcChk N osc sc Nc mp = true) : LcOk N osc sc Nc mp := by
  unfold lcChk at h
  simp only [Bool.and_eq_true, decide_eq_true_eq, List.all_eq_true, Bool.or_eq_true, Bool.not_eq_true', decide_eq_false_iff_not] at h
  obtain ⟨⟨⟨h1, h2⟩, h3⟩, h4⟩ := h
  refine ⟨h1, fun y hy => (h2 y hy).1.1, fun y hy e => ?_, fun y hy e => ?_, h3, fun i j e => ?_⟩
  · rcases (h2 y hy).1.2 with q | q
    · exact absurd e q
    · exact q
  · rcases (h2 y hy).2 with (q | q) | q
    · exact absurd e q
    · exact .inl q
    · exact .inr q
  · have hi : i < mp.length := (List.getElem?_eq_some_iff.mp e).1
    have q := h4 i (List.mem_range.mpr hi)
    rw [e] at q
    cases hx : Nc[i]? with
    | none => rw [hx] at q; simp at q
    | some x =>
      rw [hx] at q
      simp only [Bool.and_eq_true, decide_eq_true_eq] at q
      exact ⟨x, rfl, q.1, q.2⟩
theorem lookup_map_free {f : Str × NameKind → Str × NameKind} (h1 : ∀ p, (f p).1 = p.1) (h2 : ∀ p, p.2 = .free → (f p).2 = .cell ∨ (f p).2 = .free) : ∀ {names : List (Str × NameKind)} {x : Str}, names.lookup x = some .free → (names.map f).lookup x = some .cell ∨ (names.map f).lookup x = some .free
  | [], _, h => by simp at h
  | (n, k) :: r, x, h => by
    have ih := @lookup_map_free f h1 h2 r x
    rw [List.map_cons]
    have q1 := h1 (n, k)
    have q2 := h2 (n, k)
    generalize f (n, k) = z at q1 q2
    obtain ⟨n', k'⟩ := z
    have q1' : n' = n := q1
    subst q1'
    cases hx : x == n' with
    | true =>
      rw [List.lookup_cons, hx] at h
      have hk : k = .free := by simpa using h
      rw [List.lookup_cons, hx]
      rcases q2 hk with e | e
      · have e' : k' = .cell := e
        subst e'
        exact .inl rfl
      · have e' : k' = .free := e
        subst e'
        exact .inr rfl
    | false =>
      rw [List.lookup_cons, hx] at h
      rw [List.lookup_cons, hx]
      exact ih h
theorem lookup_relabel_free {env : Env} {names : List (Str × NameKind)} {x : Str} (h : names.lookup x = some .free) :
    (names.map fun (n, k) => if (k == NameKind.free && env.scope.kind == .function && env.kindOf n == some .cell) then (n, NameKind.cell) else (n, k)).lookup x = some .cell ∨
    (names.map fun (n, k) => if (k == NameKind.free && env.scope.kind == .function && env.kindOf n == some .cell) then (n, NameKind.cell) else (n, k)).lookup x = some .free := by
  refine lookup_map_free (fun p => ?_) (fun p hp => ?_) h
  · obtain ⟨n, k⟩ := p
    dsimp only
    split <;> rfl
  · obtain ⟨n, k⟩ := p
    dsimp only
    split
    · exact .inl rfl
    · exact .inr hp
theorem relabel_has {env : Env} {names : List (Str × NameKind)} {x : Str} {k' : NameKind} (hc : ∀ y ∈ names, y.2 ≠ .cell) (hk : k' = .cell ∨ k' = .free)
    (h : (names.map fun (n, k) => if (k == NameKind.free && env.scope.kind == .function && env.kindOf n == some .cell) then (n, NameKind.cell) else (n, k)).lookup x = some k') : (x, NameKind.free) ∈ names := by
  have m := PySem.mem_of_lookup h
  obtain ⟨⟨n, k⟩, hm, e⟩ := List.mem_map.mp m
  dsimp only at e
  by_cases hf : k = .free
  · subst hf
    have e1 : n = x := by
      by_cases hc' : (NameKind.free == NameKind.free && env.scope.kind == .function && env.kindOf n == some .cell) = true
      · rw [if_pos hc'] at e
        exact congrArg Prod.fst e
      · rw [if_neg hc'] at e
        exact congrArg Prod.fst e
    exact e1 ▸ hm
  · have hb : (k == NameKind.free) = false := by simpa using hf
    simp only [hb, Bool.false_and, Bool.false_eq_true, if_false] at e
    cases e
    rcases hk with z | z
    · exact absurd z (hc _ hm)
    · exact absurd z hf

def cxLc (X : Cx) (scope : Scope) (Nc : List Str) (ex : List Addr) (pins : List (Addr × Obj)) (s : Shared) (H : Hp) : Cx where
  prog := X.prog
  w := X.w
  K := X.K
  mg := X.mg
  base := X.base
  A := X.A
  N := Nc
  s₀ := s
  H₀ := H
  env := compEnvC scope (clo scope.names X.env.cells) s.heap.objs.size X.env
  outer := X.stack
  stack := X.stack
  ex := ex
  fn := fun _ => false
  calm := X.calm
  pn := X.pn ++ pins
  xe := fun _ _ => False
def sub (mp : List (Option Nat)) (σ : St) : St := mp.map fun o => match o with | some j => (σ[j]?).join | none => none
theorem sub_get {mp : List (Option Nat)} {σ : St} {i : Nat} {v : V} (h : (sub mp σ)[i]? = some (some v)) : ∃ j, mp[i]? = some (some j) ∧ σ[j]? = some (some v) := by
  unfold sub at h
  rw [List.getElem?_map] at h
  cases e : mp[i]? with
  | none => rw [e] at h; cases h
  | some o =>
    rw [e] at h
    cases o with
    | none => cases h
    | some j =>
      refine ⟨j, rfl, ?_⟩
      have h' : (σ[j]?).join = some v := Option.some.inj h
      cases q : σ[j]? with
      | none => rw [q] at h'; cases h'
      | some z => rw [q] at h'; exact congrArg some h'

section
variable {X : Cx} {pins : List (Addr × Obj)} {σ : St} {H : Hp} {s : Shared} {scope : Scope} {Nc : List Str} {mp : List (Option Nat)} {fp : List Addr}
theorem lc_cells (I : Inv X pins σ H s) (S : LcOk X.N X.env.scope scope Nc mp) : ∀ x ∈ scope.names, x.2 = .free → ∃ c, X.env.cells.lookup x.1 = some c := fun x hx e =>
  I.ok.has x.1 (S.free x hx e)
theorem lc_sub (I : Inv X pins σ H s) (S : LcOk X.N X.env.scope scope Nc mp) {x : Str} {c : Addr} (h : (clo scope.names X.env.cells).lookup x = some c) : X.env.cells.lookup x = some c :=
  clo_sub scope.names [] (lc_cells I S) (fun _ _ e => by cases e) x c h
theorem lc_ok (I : Inv X pins σ H s) (S : LcOk X.N X.env.scope scope Nc mp) (hf : ∀ b ∈ fp, FpOk X pins H b) (hl : ∀ b ∈ fp, b < s.heap.objs.size) : (cxLc X scope Nc fp pins s H).Ok where
  mod := I.ok.mod
  kind := S.kind
  glob := I.ok.glob
  blt := I.ok.blt
  above := Nat.le_refl _
  inj := fun x y c e1 e2 => I.ok.inj x y c (lc_sub I S e1) (lc_sub I S e2)
  has := fun x h => by
    have hm : (x, NameKind.free) ∈ scope.names := by
      rcases h with h | h
      · exact relabel_has S.nocell (.inl rfl) h
      · exact relabel_has S.nocell (.inr rfl) h
    exact clo_some scope.names [] x (.inl hm)
  cab := fun x c h _ => by cases h
  hd := I.ok.hd
  frames := I.ok.frames
  stk := .inl rfl
  exf := fun b hb => ⟨Nat.ne_of_lt (hl b hb), fun x c e => (hf b hb).2.2.2.2.1 x c (lc_sub I S e)⟩
  bs := I.bs
  bsz := Nat.le_trans I.ok.bsz I.sz
  noex := fun b o e hb => by
    rcases (hf b hb).2.2.2.1 with z | z
    · exact I.ok.noex b o e z
    · exact absurd (Nat.lt_of_lt_of_le (Heap.lt_size e) (Nat.le_trans I.ok.bsz z)) (Nat.lt_irrefl _)
  exfs := fun b hb z => by
    rcases List.mem_cons.mp (I.stkSub b z) with e | e
    · exact (hf b hb).2.1 e
    · exact (hf b hb).2.2.1 e
  funs := I.stack
  frf := I.stkFree
theorem lc_start (I : Inv X pins σ H s) (S : LcOk X.N X.env.scope scope Nc mp) (hf : ∀ b ∈ fp, FpOk X pins H b) (hl : ∀ b ∈ fp, b < s.heap.objs.size) {h₁ : Heap} {m : Str → Option Value} {tk : Nat}
    (hn : h₁.Ns s.heap.objs.size m) (k : ∀ b o, s.heap.get? b = some o → h₁.get? b = some o) : Inv (cxLc X scope Nc fp pins s H) [] (sub mp σ) H { s with heap := h₁, toks := tk } := by
  refine ⟨lc_ok I S hf hl, rfl, I.bare, Un.kept k, ⟨m, hn, fun i x v e1 e2 _ => ?_⟩, fun x c e => ?_, I.hok.fresh (Nat.le_refl _), fun x c e => I.freeC x c (lc_sub I S e), fun p hp => ?_, I.hok.kept k, ?_⟩
  · obtain ⟨j, hj, hv⟩ := sub_get e2
    obtain ⟨y, y1, y2, y3⟩ := S.map i j hj
    have e1' : Nc[i]? = some x := e1
    rw [e1'] at y1
    cases y1
    have hm := PySem.mem_of_lookup y3
    have vis : Vis X.env.scope x := .inr (S.free _ hm rfl)
    obtain ⟨mo, _, hloc⟩ := I.loc
    obtain ⟨u, ru, lk⟩ := hloc j x v y2 hv vis
    refine ⟨u, ru, .inr ⟨lookup_relabel_free y3, ?_⟩⟩
    obtain ⟨c, hc⟩ := clo_some (cells := X.env.cells) scope.names [] x (.inl hm)
    have hc' := lc_sub I S hc
    rcases lk with ⟨z, _⟩ | ⟨_, c', z, q⟩
    · rcases S.free _ hm rfl with z' | z' <;> (have z'' : X.env.scope.names.lookup x = some .local := z; rw [z''] at z'; cases z')
    · rw [hc'] at z
      cases z
      obtain ⟨o, ho, hd⟩ := q
      exact ⟨c, hc, o, k c o ho, hd⟩
  · obtain ⟨v, o, ho, hd⟩ := I.cell x c (lc_sub I S e)
    exact ⟨v, o, k c o ho, hd⟩
  · have hp' : p ∈ X.pn ++ pins := by
      have : p ∈ (X.pn ++ pins) ++ [] := hp
      simpa using this
    obtain ⟨e, n, ne, nf, d⟩ := I.pin p hp'
    refine ⟨k _ _ e, n, Nat.ne_of_lt (Heap.lt_size e), fun z => ?_, d⟩
    rcases List.mem_cons.mp (I.stkSub p.1 z) with q | q
    · exact ne q
    · exact nf q
  · show (sub mp σ).length = Nc.length
    unfold sub
    rw [List.length_map]
    exact S.len
theorem lc_end (I : Inv X pins σ H s) (hf : ∀ b ∈ fp, FpOk X pins H b) {σ' : St} {H' : Hp} {s' : Shared} {pl : List (Addr × Obj)} (J : Inv (cxLc X scope Nc fp pins s H) pl σ' H' s') : Inv X pins σ H' s' :=
  I.call' J.os J.base J.hok J.bare fun b hb => ⟨(hf b hb).2.2.2.1, (hf b hb).2.1, (hf b hb).2.2.2.2.1, (hf b hb).2.2.2.2.2⟩
theorem Inv.turnedNew (I : Inv X pins σ H s) {C : Addr} {h' : Heap} {t' : Nat} (k : ∀ b o, b ≠ C → s.heap.get? b = some o → h'.get? b = some o) (hn : H C = none) (h1 : X.s₀.heap.objs.size ≤ C)
    (hL : C ≠ X.env.locals) (hc : ∀ x c, X.env.cells.lookup x = some c → c ≠ C) (hp : ∀ p ∈ X.pn ++ pins, p.1 ≠ C) : Inv X pins σ H { s with heap := h', toks := t' } :=
  I.turned k hn hL (.inr h1) hc hp
end

section
variable {M : Model} {A : Around} {E : Value → Shared → Prop}
abbrev Calm : Value → Shared → Prop := fun _ _ => False
theorem thenC {α β : Type} {m : Sem α} {f : α → Sem β} {P : α → Shared → Prop} {Q : β → Shared → Prop} {s : Shared} (h : wpAny M A m P Calm s) (k : ∀ x s', P x s' → wpAny M A (f x) Q E s') : wpAny M A (m >>= f) Q E s :=
  wpAny_bind (wpAny_mono h k fun _ _ z => z.elim)
end
theorem compLoop_calm {prog : Program} {w : World} {A : Around} {R : Result → Shared → Prop} {s : Shared} {e t i : Expr} {sc : Scope} {pos : Pos} {it acc : Value} {env : Env} (J : Nat → Shared → Prop)
    (turn : ∀ n s, J n s → wpAny (model prog w) A (pyNext it) (fun r s1 => (r = none → R (.ok .next) s1) ∧ ∀ v, r = some v →
      wpAny (model prog w) A (letOwnedTupleGo t it v) (fun _ s2 => wpAny (model prog w) A (assign t env v) (fun _ s3 => wpAny (model prog w) A (eval e env) (fun x s4 =>
        wpAny (model prog w) A (call (.builtin "list.append") [acc, x]) (fun _ s5 => ∃ m, m < n ∧ J m s5) Calm s4) Calm s3) Calm s2) Calm s1) Calm s)
    (n : Nat) (h : J n s) : codeAny (model prog w) A (.compLoop (.ListComp e [⟨t, i, [], 0⟩] sc pos) 0 it acc env) R s := by
  have eq := compTurn_list1 e t i sc pos it acc env
  refine codeAny_loop rfl J (fun n s j => wpAny_noted (m := compTurn (.ListComp e [⟨t, i, [], 0⟩] sc pos) 0 it acc env) ?_) n h
  rw [eq]
  refine wpAny_bind (wpAny_standAt (thenC (turn n s j) fun r s1 q => ?_))
  match r, q with
  | none, q => exact wpAny_pure (q.1 rfl)
  | some v, q => exact thenC (q.2 v rfl) fun _ s2 q2 => thenC q2 fun _ s3 q3 => wpAny_bind (thenC q3 fun x s4 q4 => thenC q4 fun _ s5 q5 => wpAny_pure (wpAny_pure ⟨rfl, q5⟩))

def LcW (J : It) (g : TG) (te : TE) (σ : St) (H : Hp) (acc : Addr) (Q : VK) : Prop := ∃ W : Nat → Nat → List V → St → Hp → Prop, (∃ m, W 0 m [] σ (upd H acc (.lst []))) ∧
  ∀ i m ys σ2 H2, W i m ys σ2 H2 → (J.stop i H2 ∧ Q (.ref acc) H2) ∨ (J.go i H2 ∧ ∀ x H3, J.yld i H2 x H3 → g x σ2 H3 fun σ4 H4 => te σ4 H4 fun y H5 =>
    H5 acc = some (.lst ys) ∧ ys.length < sizeLine ∧ ∃ m', m' < m ∧ W (i + 1) m' (ys ++ [y]) σ4 (upd H5 acc (.lst (ys ++ [y]))))
def tLc (mp : List (Option Nat)) (wi : TI) (g : TG) (te : TE) : TE := fun σ H Q => wi σ H fun J H1 => ∀ acc, H1 acc = none → LcW J g te (sub mp σ) H1 acc Q

section
variable {X : Cx} {elt tg iter : Expr} {scope : Scope} {pos : Pos} {wi : TI} {g : TG} {te : TE} {Nc : List Str} {mp : List (Option Nat)}
abbrev withList (s : Shared) : Shared := { s with heap := s.heap.push { cls := .type "list", dict := none, data := .seq ([] : List Value).toArray } }
theorem lc_run (hc : X.calm = true) (S : LcOk X.N X.env.scope scope Nc mp) (hg : ∀ ex pins s H, PG (cxLc X scope Nc ex pins s H) tg g) (he : ∀ ex pins s H, PE (cxLc X scope Nc ex pins s H) elt te)
    {pins : List (Addr × Obj)} {σ : St} {H2 : Hp} {s2 : Shared} {E : Value → Shared → Prop} {it : Addr} {fp : List Addr} {tn : Nat → Heap → Prop} {J : It} {Q : VK} {RR : Value → Addr → Result → Shared → Prop}
    (I2 : Inv X pins σ H2 s2) (T : Turn X.prog X.w X.K tg J fp it tn) (st2 : tn 0 s2.heap) (f2 : ∀ b ∈ fp, FpOk X pins H2 b)
    (q : ∀ acc, H2 acc = none → LcW J g te (sub mp σ) H2 acc Q)
    (fin : ∀ acc C H' s' m', Q (.ref acc) H' → Inv X pins σ H' s' → s'.heap.Ns C m' → H' C = none → X.s₀.heap.objs.size ≤ C → C ≠ X.env.locals → (∀ x c, X.env.cells.lookup x = some c → c ≠ C) → (∀ p ∈ X.pn ++ pins, p.1 ≠ C) → RR (.ref acc) C (.ok .next) s') :
    wpAny (model X.prog X.w) X.A (newList []) (fun acc s₃ => wpAny (model X.prog X.w) X.A (newFunctionEnv scope X.env.globals (clo scope.names X.env.cells) [] X.env.qual none .none (some X.env)) (fun cenv s₄ =>
      codeAny (model X.prog X.w) X.A (.compStart (.ListComp elt [⟨tg, iter, [], 0⟩] scope pos) 0 (.ref it) acc { cenv with scope := relabel scope X.env }) (RR acc cenv.locals) s₄) E s₃) E s2 := by
  refine wpAny_newObj_type (wpAny_newFunctionEnv S.nocell (by intro y hy; simp at hy) (fun h₁ hns₁ hsb₁ => ?_) S.kind)
  dsimp only at hns₁ hsb₁ ⊢
  have I3 := I2.lnew (its := []) (ys := []) (t' := s2.toks) .nil (Nat.zero_le _)
  have hacc : H2 s2.heap.objs.size = none := I2.fresh
  obtain ⟨W, ⟨m0, w0⟩, turn⟩ := q s2.heap.objs.size hacc
  have hpush : (s2.heap.push { cls := .type "list", dict := none, data := .seq ([] : List Value).toArray }).objs.size = s2.heap.objs.size + 1 := Heap.size_push ..
  have hlt : ∀ b ∈ fp, b < s2.heap.objs.size := fun b hb => by
    obtain ⟨o, e, _⟩ := T.obj _ _ st2 b hb
    exact Heap.lt_size e
  have f3 : ∀ b ∈ fp, FpOk X pins (upd H2 s2.heap.objs.size (.lst [])) b := fun b hb => ⟨by rw [upd_ne (Nat.ne_of_lt (hlt b hb))]; exact (f2 b hb).1, (f2 b hb).2⟩
  have I3' : Inv X pins σ (upd H2 s2.heap.objs.size (.lst [])) (withList s2) := I3
  have hsz : (withList s2).heap.objs.size = s2.heap.objs.size + 1 := hpush
  have hlt3 : ∀ b ∈ fp, b < (withList s2).heap.objs.size := fun b hb => by rw [hsz]; exact Nat.lt_succ_of_lt (hlt b hb)
  have k3 : ∀ b o, (withList s2).heap.get? b = some o → h₁.get? b = some o := fun b o e => hsb₁.extBut b o (Nat.ne_of_lt (Heap.lt_size e)) (Heap.get?_push_of_some _ e)
  have Ic := lc_start (tk := (withList s2).toks) I3' S f3 hlt3 hns₁ k3
  have st3 : tn 0 h₁ := T.keep _ _ _ st2 fun b hb o e => k3 b o (Heap.get?_push_of_some _ e)
  -- what the block's frame is to the def
  have cC : X.s₀.heap.objs.size ≤ (withList s2).heap.objs.size := I3'.sz
  have cL : (withList s2).heap.objs.size ≠ X.env.locals := Nat.ne_of_gt I3'.lt
  have cc : ∀ x c, X.env.cells.lookup x = some c → c ≠ (withList s2).heap.objs.size := fun x c e => by
    obtain ⟨v, o, ho, _⟩ := I3'.cell x c e
    exact Nat.ne_of_lt (Heap.lt_size ho)
  have cp : ∀ p ∈ X.pn ++ pins, p.1 ≠ (withList s2).heap.objs.size := fun p hp => Nat.ne_of_lt (Heap.lt_size (I3'.pin p hp).1)
  have stat : ∀ {H' : Hp}, (∀ b ∈ fp, H' b = none) → ∀ b ∈ fp, FpOk (cxLc X scope Nc fp pins (withList s2) (upd H2 s2.heap.objs.size (.lst []))) [] H' b := fun hn b hb =>
    ⟨hn b hb, Nat.ne_of_lt (hlt3 b hb), fun z => by
      rcases List.mem_cons.mp (I3'.stkSub b z) with e | e
      · exact (f3 b hb).2.1 e
      · exact (f3 b hb).2.2.1 e, .inl hb, fun x c e => (f3 b hb).2.2.2.2.1 x c (lc_sub I3' S e), fun p hp => (f3 b hb).2.2.2.2.2 p (by
        have : p ∈ (X.pn ++ pins) ++ [] := hp
        simpa using this)⟩
  have loop : ∀ s4 : Shared, s4 = { (withList s2) with heap := h₁, toks := (withList s2).toks } →
      codeAny (model X.prog X.w) X.A (.compLoop (.ListComp elt [⟨tg, iter, [], 0⟩] scope pos) 0 (.ref it) (.ref s2.heap.objs.size) (cxLc X scope Nc fp pins (withList s2) (upd H2 s2.heap.objs.size (.lst []))).env)
        (RR (.ref s2.heap.objs.size) (withList s2).heap.objs.size) s4 := by
    rintro s4 rfl
    refine compLoop_calm (fun n s' => ∃ i ys σ' H', Inv (cxLc X scope Nc fp pins (withList s2) (upd H2 s2.heap.objs.size (.lst []))) [] σ' H' s' ∧ tn i s'.heap ∧ (∀ b ∈ fp, H' b = none) ∧ W i n ys σ' H') ?_ m0
      ⟨0, [], sub mp σ, _, Ic, st3, fun b hb => (f3 b hb).1, w0⟩
    rintro n s5 ⟨i, ys, σ5, H5, I5, st5, fr5, w5⟩
    rcases turn i n ys σ5 H5 w5 with ⟨stop, qn⟩ | ⟨go, step⟩
    · refine wpAny_mono (T.done (cxLc X scope Nc fp pins (withList s2) (upd H2 s2.heap.objs.size (.lst []))) rfl rfl rfl hc i [] s5 σ5 H5 (fun _ _ => False) I5 (stat fr5) st5 stop) (fun r s6 ⟨hr, I6⟩ => ?_) fun _ _ f => f.elim
      subst hr
      obtain ⟨m6, hn6, _⟩ := I6.loc
      refine ⟨fun _ => ?_, fun _ z => nomatch z⟩
      exact fin _ _ H5 s6 m6 qn (lc_end I3' f3 I6) hn6 I6.free cC cL cc cp
    · refine wpAny_mono (T.item (cxLc X scope Nc fp pins (withList s2) (upd H2 s2.heap.objs.size (.lst []))) rfl rfl rfl hc i [] s5 σ5 H5 (fun _ _ => False) I5 (stat fr5) st5 go) (fun r s6 ⟨u, hr, h6⟩ => ?_) fun _ _ f => f.elim
      subst hr
      refine ⟨(fun z => by cases z), ?_⟩
      rintro _ ⟨⟩
      refine wpAny_mono h6 (fun _ s7 ⟨x, H7, I7, r7, y7, st7, fr7⟩ => ?_) fun _ _ f => f.elim
      have I7' := I7.pinned (stat fr7) (T.obj _ _ st7)
      refine wpAny_mono (hg _ _ _ _ _ s7 σ5 H7 x u _ I7' r7 (step x H7 y7)) (fun _ s8 ⟨σ8, H8, I8, q8⟩ => ?_) fun _ _ f => f.elim
      refine wpAny_mono (he _ _ _ _ _ s8 σ8 H8 _ I8 q8) (fun v s9 ⟨y, H9, I9, r9, a9, l9, m', hm', w9⟩ => ?_) fun _ _ f => f.elim
      refine wpAny_mono (mt_append (X := cxLc X scope Nc fp pins (withList s2) (upd H2 s2.heap.objs.size (.lst []))) _ s9 σ8 H9 (.ref s2.heap.objs.size) [y] (.ref s2.heap.objs.size) [v] (fun z Hz => z = .non ∧ Hz = upd H9 s2.heap.objs.size (.lst (ys ++ [y]))) I9 rfl (.cons r9 .nil) ⟨_, ys, y, rfl, rfl, a9, l9, rfl, rfl⟩) (fun v10 s10 ⟨z, H10, I10, _, _, e10⟩ => ?_) fun _ _ f => f.elim
      subst e10
      refine ⟨m', hm', i + 1, ys ++ [y], σ8, _, I10.unpinned, T.keep _ _ _ st7 fun b hb o e => (I10.pin (b, o) (List.mem_append_right _ (List.mem_append_right _ (mem_pinsAt hb e)))).1, fun b hb => ?_, w9⟩
      obtain ⟨o, e, d⟩ := T.obj _ _ st7 b hb
      exact (I10.pin (b, o) (List.mem_append_right _ (List.mem_append_right _ (mem_pinsAt hb e)))).2.1
  exact codeAny_compStart_list (loop _ rfl) (T.self _ 0 _ _ _ st3 (loop _ rfl))
theorem pe_lc (hc : X.calm = true) (S : LcOk X.N X.env.scope scope Nc mp) (hi : PI X tg iter wi) (hg : ∀ ex pins s H, PG (cxLc X scope Nc ex pins s H) tg g) (he : ∀ ex pins s H, PE (cxLc X scope Nc ex pins s H) elt te)
    (hf : ∀ x, foldedSetIterable iter X.env x = pure x := by intro _; rfl) : PE X (.ListComp elt [⟨tg, iter, [], 0⟩] scope pos) (tLc mp wi g te) := by
  intro pins s σ H Q I h
  rw [eval_ListComp]
  refine wpAny_comprehension_free (use := none) rfl hf (closure_eq (lc_cells I S)) S.kind S.names (thn (hi pins s σ H _ I h) fun v s1 h1 => thn h1 fun itv s2 h2 => ?_)
  obtain ⟨it, fp, tn, J, H2, e, I2, T, st2, f2, q⟩ := h2
  subst e
  refine lc_run (RR := fun acc C => compPost (model X.prog X.w) X.A X.xe none (EP X pins σ Q) acc C) hc S hg he I2 T st2 f2 q ?_
  intro acc C H' s' m' qq I' hn hC c1 c2 c3 c4
  refine ⟨m', hn, fun h' hs => ⟨.ref acc, H', ?_, rfl, qq⟩⟩
  exact I'.turnedNew (t' := s'.toks) (fun b o hb e => hs.extBut b o hb e) hC c1 c2 c3 c4
theorem ps_setLc {i : Nat} {x : Str} {pos' spos : Pos} (hc : X.calm = true) (hN : X.N.Nodup) (hi' : X.N[i]? = some x) (hx : X.env.scope.names.lookup x = some .local) (S : LcOk X.N X.env.scope scope Nc mp) (hi : PI X tg iter wi)
    (hg : ∀ ex pins s H, PG (cxLc X scope Nc ex pins s H) tg g) (he : ∀ ex pins s H, PE (cxLc X scope Nc ex pins s H) elt te)
    (hsw : swapsWith (.ListComp elt [⟨tg, iter, [], 0⟩] scope pos) (some (.Name x pos')) spos.line X.env = pure true)
    (hf : ∀ x, foldedSetIterable iter X.env x = pure x := by intro _; rfl) : PS X (.Assign [.Name x pos'] (.ListComp elt [⟨tg, iter, [], 0⟩] scope pos) spos) (tAsg (tLc mp wi g te) (gName i)) := by
  intro pins s σ H D I h
  rw [exec_Assign_Name_used _ _ _ _ hsw]
  refine wpAny_bind (wpAny_standAt (wpAny_bind ?_))
  show wpAny _ X.A (do let _ ← comprehension (.ListComp elt [⟨tg, iter, [], 0⟩] scope pos) scope X.env _ (newList []) false (eval iter X.env) (some (assign (.Name x pos') X.env))) _ _ s
  refine wpAny_bind (wpAny_mono (wpAny_comprehension_free (use := some (assign (.Name x pos') X.env)) (Q := fun _ s' => SP X pins D .next s') rfl hf (closure_eq (lc_cells I S)) S.kind S.names
    (thn (hi pins s σ H _ I h) fun v s1 h1 => thn h1 fun itv s2 h2 => ?_)) (fun _ s' hq => wpAny_pure (wpAny_pure hq)) fun _ _ e => e)
  obtain ⟨it, fp, tn, J, H2, e, I2, T, st2, f2, q⟩ := h2
  subst e
  refine lc_run (Q := fun x H1 => gName i x σ H1 D.nx) (RR := fun acc C => compPost (model X.prog X.w) X.A X.xe (some (assign (.Name x pos') X.env)) (fun _ s' => SP X pins D .next s') acc C) hc S hg he I2 T st2 f2 q ?_
  intro acc C H' s' m' qq I' hn hC c1 c2 c3 c4
  show wpAny _ X.A (assign (.Name x pos') X.env (.ref acc)) _ _ _
  refine wpAny_assign_Name (store_ok2 (v := .ref acc) I' hN hi' (.inl hx) rfl (fun s5 I5 ⟨a, hs5, ha⟩ => ?_) (.inr hx))
  have hCa : C ≠ a := by
    rcases ha with z | z
    · rw [z]; exact c2
    · exact Ne.symm (c3 x a z)
  refine ⟨m', hn.sameBut hs5 hCa, fun h' hs => ⟨σ.set i (some (.ref acc)), H', ?_, qq⟩⟩
  exact I5.turnedNew (t' := s5.toks) (fun b o hb e => hs.extBut b o hb e) hC c1 c2 c3 c4
end

/-! ### the forms one uses: the block's own name first -/
theorem lc_by {J : It} {n : Nat} {val : Nat → V} {te : TE} {fr : St} {H1 : Hp} {acc : Addr} {Q : VK} (Pv : Nat → List V → Hp → Prop) (hn : n ≤ sizeLine) (h0 : Pv 0 [] (upd H1 acc (.lst [])))
    (hgo : ∀ i ys H, i < n → Pv i ys H → J.go i H ∧ ∀ x H', J.yld i H x H' → H' = H ∧ x = val i) (hst : ∀ ys H, Pv n ys H → J.stop n H)
    (hs : ∀ i ys H (N : V → Hp → Prop), i < n → ys.length = i → Pv i ys H → (∀ y H5, H5 acc = some (.lst ys) → Pv (i + 1) (ys ++ [y]) (upd H5 acc (.lst (ys ++ [y]))) → N y H5) → te (some (val i) :: fr) H N)
    (hd : ∀ ys H, ys.length = n → Pv n ys H → Q (.ref acc) H) :
    LcW (J) (gName 0) te (none :: fr) H1 acc Q := by
  refine ⟨fun i m ys σ2 H2 => m = n - i ∧ i ≤ n ∧ ys.length = i ∧ (∃ v, σ2 = v :: fr) ∧ Pv i ys H2, ⟨n, by simp, Nat.zero_le _, rfl, ⟨_, rfl⟩, h0⟩, ?_⟩
  rintro i m ys σ2 H2 ⟨rfl, hi, hl, ⟨v, rfl⟩, p⟩
  by_cases hlt : i < n
  · obtain ⟨go, yl⟩ := hgo i ys H2 hlt p
    refine .inr ⟨go, fun x H3 y3 => ?_⟩
    obtain ⟨e1, e2⟩ := yl x H3 y3
    subst e1 e2
    show te ((v :: fr).set 0 (some (val i))) H3 _
    rw [List.set_cons_zero]
    refine hs i ys H3 _ hlt hl p fun y H5 a5 p5 => ⟨a5, by omega, n - (i + 1), by omega, rfl, hlt, by rw [List.length_append, hl]; rfl, ⟨_, rfl⟩, p5⟩
  · have e : i = n := by omega
    subst e
    exact .inl ⟨hst ys H2 p, hd ys H2 hl p⟩
theorem lc_list {K : PySem.W.Frag} {a : Addr} {xs : List V} {te : TE} {fr : St} {H1 : Hp} {acc : Addr} {Q : VK} (Pv : Nat → List V → Hp → Prop) (hn : xs.length ≤ sizeLine) (h0 : Pv 0 [] (upd H1 acc (.lst [])))
    (hl : ∀ i ys H, Pv i ys H → SqL K H a xs)
    (hs : ∀ i x ys H (N : V → Hp → Prop), xs[i]? = some x → ys.length = i → Pv i ys H → (∀ y H5, H5 acc = some (.lst ys) → Pv (i + 1) (ys ++ [y]) (upd H5 acc (.lst (ys ++ [y]))) → N y H5) → te (some x :: fr) H N)
    (hd : ∀ ys H, ys.length = xs.length → Pv xs.length ys H → Q (.ref acc) H) :
    LcW (Itl K a) (gName 0) te (none :: fr) H1 acc Q :=
  lc_by (J := Itl K a) (n := xs.length) (val := fun i => xs.getD i .non) Pv hn h0
    (fun i ys H hi p => ⟨⟨xs, xs[i], hl i ys H p, by simp [hi]⟩, fun x H' y => ⟨y.1, by
      have := y.2 xs (hl i ys H p)
      rw [List.getD_eq_getElem?_getD, this]; rfl⟩⟩)
    (fun ys H p => ⟨xs, hl _ ys H p, Nat.le_refl _⟩)
    (fun i ys H N hi hl' p k => by
      have e : xs[i]? = some (xs.getD i .non) := by rw [List.getD_eq_getElem?_getD, List.getElem?_eq_getElem hi]; rfl
      exact hs i _ ys H N e hl' p k) hd
end L2

set_option maxHeartbeats 4000000
/-! short words: callees, tests, sizes -/
namespace L2
open PySem PySem.Spec PyProof.Rows

structure Cal (P : Program) (w : World) (K : PySem.W.Frag) (mg : Str → Option Value) (base : Heap) (k : Nat) (x : Str) (ps : List Str) (sp : Sp) : Prop where
  ex : ∃ f fd, FnOk P w K mg base CX0 k f fd ps sp ∧ Binds K fd ps [] ∧ PySem.W.keepIn K (.ref f) = true ∧ mg x = some (.ref f)
theorem Cal.mono {P : Program} {w : World} {K : PySem.W.Frag} {mg : Str → Option Value} {base : Heap} {j k : Nat} {x : Str} {ps : List Str} {sp : Sp} (c : Cal P w K mg base j x ps sp) (h : j ≤ k) : Cal P w K mg base k x ps sp :=
  let ⟨f, fd, F, b, kp, m⟩ := c.ex
  ⟨f, fd, F.mono h, b, kp, m⟩
section
variable {X : Cx} {k : Nat} {x : Str} {ps : List Str} {sp : Sp} {p pos : Pos} {e : Expr} {es : List Expr} {t : TA}
theorem pe_cal (c : Cal X.prog X.w X.K X.mg X.base k x ps sp) (hr : Room k X.A) (hg : Gl X x) (ha : PA X (e :: es) t) (hdb : (x == ("__debug__" : Str)) = false := by decide)
    (he : starEach (e :: es) X.env = (false, eval e X.env) :: starEach es X.env := by rfl) (hpl : (backTo pos (starEach es X.env)).any (·.1) = false := by rfl) : PE X (.Call (.Name x p) (e :: es) [] pos) (tCall sp [] E0 t) := by
  obtain ⟨f, fd, F, b, kp, m⟩ := c.ex
  exact pe_call F hr hg m kp b .nil pass0 ha hdb he hpl
end

structure FunAt (K : PySem.W.Frag) (x : Str) (st : Stmt) (dV : Value) : Prop where
  ex : ∃ (f : Addr) (oc : Value) (od : Option Addr) (kV doc pm : Value) (an : Option Addr) (cdv ct : Value) (osl : Array (Option Value)),
    K.lookup f = some ⟨oc, od, .func (PySem.W.fnOf x x (defArgs st) (defBody st) (defScope st) dV kV doc pm an cdv ct), osl⟩ ∧ PySem.W.codeIn K cdv x = true ∧ PySem.W.keepIn K (.ref f) = true ∧ PySem.W.nsIn K mainGlobals x = some (some (.ref f))
theorem fat {K : PySem.W.Frag} {x : Str} {st : Stmt} {f : Addr} {oc : Value} {od an : Option Addr} {osl : Array (Option Value)} {dV kV doc pm cdv ct : Value} (a : PySem.W.nsIn K mainGlobals x = some (some (.ref f)))
    (l : K.lookup f = some ⟨oc, od, .func (PySem.W.fnOf x x (defArgs st) (defBody st) (defScope st) dV kV doc pm an cdv ct), osl⟩) (c : PySem.W.codeIn K cdv x = true) (k : PySem.W.keepIn K (.ref f) = true) : FunAt K x st dV :=
  ⟨f, oc, od, kV, doc, pm, an, cdv, ct, osl, l, c, k, a⟩
def BindsAll (K : PySem.W.Frag) (x : Str) (st : Stmt) (dV : Value) (ps : List Str) : Prop := ∀ (kV doc pm : Value) (an : Option Addr) (cdv ct : Value), Binds K (PySem.W.fnOf x x (defArgs st) (defBody st) (defScope st) dV kV doc pm an cdv ct) ps []
theorem binds0 {K : PySem.W.Frag} {x : Str} {st : Stmt} {ps : List Str}
    (h : ∀ (kV doc pm : Value) (an : Option Addr) (cdv ct : Value) (us : List Value), us.length = ps.length → bindArgs (PySem.W.fnOf x x (defArgs st) (defBody st) (defScope st) .none kV doc pm an cdv ct) ⟨us, []⟩ = pure (ps.zip us)) : BindsAll K x st .none ps :=
  fun kV doc pm an cdv ct => .all (h kV doc pm an cdv ct)
theorem bnd0 {K : PySem.W.Frag} {nm : Str} {st : Stmt} (h : ∀ (kV doc pm : Value) (an : Option Addr) (cdv ct : Value), bindArgs (PySem.W.fnOf nm nm (defArgs st) (defBody st) (defScope st) .none kV doc pm an cdv ct) ⟨[], []⟩ = pure []) : BindsAll K nm st .none [] := binds0 fun kV doc pm an cdv ct us hl => by
  cases us with
  | nil => exact h kV doc pm an cdv ct
  | cons => cases hl
theorem bnd1 {K : PySem.W.Frag} {nm : Str} {st : Stmt} {x0 : Str} (h : ∀ (kV doc pm : Value) (an : Option Addr) (cdv ct : Value) (a0 : Value), bindArgs (PySem.W.fnOf nm nm (defArgs st) (defBody st) (defScope st) .none kV doc pm an cdv ct) ⟨[a0], []⟩ = pure [(x0, a0)]) : BindsAll K nm st .none [x0] := binds0 fun kV doc pm an cdv ct us hl => by
  cases us with
  | nil => cases hl
  | cons b0 t0 =>
    cases t0 with
    | nil => exact h kV doc pm an cdv ct b0
    | cons => cases hl
theorem bnd2 {K : PySem.W.Frag} {nm : Str} {st : Stmt} {x0 x1 : Str} (h : ∀ (kV doc pm : Value) (an : Option Addr) (cdv ct : Value) (a0 a1 : Value), bindArgs (PySem.W.fnOf nm nm (defArgs st) (defBody st) (defScope st) .none kV doc pm an cdv ct) ⟨[a0, a1], []⟩ = pure [(x0, a0), (x1, a1)]) : BindsAll K nm st .none [x0, x1] := binds0 fun kV doc pm an cdv ct us hl => by
  cases us with
  | nil => cases hl
  | cons b0 t0 =>
    cases t0 with
    | nil => cases hl
    | cons b1 t1 =>
      cases t1 with
      | nil => exact h kV doc pm an cdv ct b0 b1
      | cons => cases hl
theorem bnd3 {K : PySem.W.Frag} {nm : Str} {st : Stmt} {x0 x1 x2 : Str} (h : ∀ (kV doc pm : Value) (an : Option Addr) (cdv ct : Value) (a0 a1 a2 : Value), bindArgs (PySem.W.fnOf nm nm (defArgs st) (defBody st) (defScope st) .none kV doc pm an cdv ct) ⟨[a0, a1, a2], []⟩ = pure [(x0, a0), (x1, a1), (x2, a2)]) : BindsAll K nm st .none [x0, x1, x2] := binds0 fun kV doc pm an cdv ct us hl => by
  cases us with
  | nil => cases hl
  | cons b0 t0 =>
    cases t0 with
    | nil => cases hl
    | cons b1 t1 =>
      cases t1 with
      | nil => cases hl
      | cons b2 t2 =>
        cases t2 with
        | nil => exact h kV doc pm an cdv ct b0 b1 b2
        | cons => cases hl
theorem bnd4 {K : PySem.W.Frag} {nm : Str} {st : Stmt} {x0 x1 x2 x3 : Str} (h : ∀ (kV doc pm : Value) (an : Option Addr) (cdv ct : Value) (a0 a1 a2 a3 : Value), bindArgs (PySem.W.fnOf nm nm (defArgs st) (defBody st) (defScope st) .none kV doc pm an cdv ct) ⟨[a0, a1, a2, a3], []⟩ = pure [(x0, a0), (x1, a1), (x2, a2), (x3, a3)]) : BindsAll K nm st .none [x0, x1, x2, x3] := binds0 fun kV doc pm an cdv ct us hl => by
  cases us with
  | nil => cases hl
  | cons b0 t0 =>
    cases t0 with
    | nil => cases hl
    | cons b1 t1 =>
      cases t1 with
      | nil => cases hl
      | cons b2 t2 =>
        cases t2 with
        | nil => cases hl
        | cons b3 t3 =>
          cases t3 with
          | nil => exact h kV doc pm an cdv ct b0 b1 b2 b3
          | cons => cases hl
theorem bnd5 {K : PySem.W.Frag} {nm : Str} {st : Stmt} {x0 x1 x2 x3 x4 : Str} (h : ∀ (kV doc pm : Value) (an : Option Addr) (cdv ct : Value) (a0 a1 a2 a3 a4 : Value), bindArgs (PySem.W.fnOf nm nm (defArgs st) (defBody st) (defScope st) .none kV doc pm an cdv ct) ⟨[a0, a1, a2, a3, a4], []⟩ = pure [(x0, a0), (x1, a1), (x2, a2), (x3, a3), (x4, a4)]) : BindsAll K nm st .none [x0, x1, x2, x3, x4] := binds0 fun kV doc pm an cdv ct us hl => by
  cases us with
  | nil => cases hl
  | cons b0 t0 =>
    cases t0 with
    | nil => cases hl
    | cons b1 t1 =>
      cases t1 with
      | nil => cases hl
      | cons b2 t2 =>
        cases t2 with
        | nil => cases hl
        | cons b3 t3 =>
          cases t3 with
          | nil => cases hl
          | cons b4 t4 =>
            cases t4 with
            | nil => exact h kV doc pm an cdv ct b0 b1 b2 b3 b4
            | cons => cases hl
section
variable {P : Program} {w : World} {K : PySem.W.Frag} {mg : Str → Option Value} {base : Heap}
theorem FunAt.cal {x : Str} {st : Stmt} {dV : Value} {N ps : List Str} {k : Nat} {sp : Sp} (F : FunAt K x st dV) {h : Heap} (X : K.In h) (G : h.Ns mainGlobals mg) (S : FnScope N ps (defScope st)) (bi : BindsAll K x st dV ps) (len : ∀ vs H Q E, sp vs H Q E → vs.length = ps.length)
    (hbody : ∀ (f : Addr) (cdv : Value) (A : Around) (outer : List Env) (s : Shared) (H : Hp) (vs : List V) (Q : VK) (E : XK), Room k (A.deeper (envOfC x (defScope st) s.heap.objs.size f cdv)) → sp vs H Q E →
      ∃ t, PSs (cxOf CX0 P w K mg base N x (defScope st) f cdv A outer s H E).nox (defBody st) t ∧ t { nx := fun _ H' => Q .non H', rt := Q } (start N vs) H) : Cal P w K mg base (k + 1) x ps sp := by
  obtain ⟨f, oc, od, kV, doc, pm, an, cdv, ct, osl, lk, hcd, kp, ns⟩ := F.ex
  refine ⟨f, _, fn_of lk hcd S len fun A outer s H vs Q E hr hsp => ?_, bi kV doc pm an cdv ct, kp, PySem.W.mg_of X G ns⟩
  obtain ⟨t, h, q⟩ := hbody f cdv A outer s H vs Q E hr hsp
  exact ⟨t, h.nox, q⟩
end
theorem cxK {P : Program} {w : World} {K : PySem.W.Frag} {mg : Str → Option Value} {base : Heap} {N : List Str} {x : Str} {sc : Scope} {f : Addr} {cdv : Value} {A : Around} {outer : List Env} {s : Shared} {H : Hp} {E : XK} : (cxOf CX0 P w K mg base N x sc f cdv A outer s H E).nox.K = K := rfl
theorem same_new {H : Hp} {p : Addr} (h : H p = none) (o : HO) : Same H (upd H p o) := fun b u q => by rw [upd_ne (ne_of_none q h)]; exact q

/-! ### classes of values -/
theorem kit_ii (K : PySem.W.Frag) : PySem.W.kitOne K (.type "int") (.type "int") = some true := by unfold PySem.W.kitOne; rw [if_pos (by decide)]
theorem kit_bb (K : PySem.W.Frag) : PySem.W.kitOne K (.type "bool") (.type "bool") = some true := by unfold PySem.W.kitOne; rw [if_pos (by decide)]
theorem kit_ib (K : PySem.W.Frag) : PySem.W.kitOne K (.type "int") (.type "bool") = some false := by with_unfolding_all rfl

/-! ### tests over ints -/
theorem eqI {a b : Int} {A B : Prop} (h1 : a = b → A) (h2 : a ≠ b → B) : if decide (V.int a = V.int b) = true then A else B := by
  by_cases h : a = b
  · subst h
    rw [decide_eq_true rfl]
    exact iteT (h1 rfl)
  · rw [decide_eq_false fun e => h (V.int.inj e)]
    exact iteF (h2 h)
theorem neI {a b : Int} {A B : Prop} (h1 : a ≠ b → A) (h2 : a = b → B) : if (!decide (V.int a = V.int b)) = true then A else B := by
  by_cases h : a = b
  · subst h
    rw [decide_eq_true rfl]
    exact iteF (h2 rfl)
  · rw [decide_eq_false fun e => h (V.int.inj e)]
    exact iteT (h1 h)
theorem decI {p : Prop} [Decidable p] {A B : Prop} (h1 : p → A) (h2 : ¬ p → B) : if decide p = true then A else B := by
  by_cases h : p
  · rw [decide_eq_true h]; exact iteT (h1 h)
  · rw [decide_eq_false h]; exact iteF (h2 h)
theorem blI {c : Bool} {A B : Prop} (h1 : c = true → A) (h2 : c = false → B) : if c = true then A else B := by
  cases c
  · exact iteF (h2 rfl)
  · exact iteT (h1 rfl)
theorem nblI {c : Bool} {A B : Prop} (h1 : c = false → A) (h2 : c = true → B) : if (!c) = true then A else B := by
  cases c
  · exact iteT (h1 rfl)
  · exact iteF (h2 rfl)
/-! ### a statement with its own aim: what follows is shown once -/
def tCut (t u : TS) : TS := fun D σ H => ∃ Good : St → Hp → Prop, t { D with nx := Good } σ H ∧ ∀ σ' H', Good σ' H' → u D σ' H'
theorem pss_cut {X : Cx} {st : Stmt} {rest : List Stmt} {t u : TS} (h1 : PS X st t) (h2 : PSs X rest u) : PSs X (st :: rest) (tCut t u) := by
  intro pins s σ H D I h
  obtain ⟨Good, ht, hu⟩ := h
  refine wpAny_execs_cons (thn (h1 pins s σ H { D with nx := Good } I ht) fun f s1 q => ?_)
  cases f with
  | next =>
    obtain ⟨σ', H', I', q⟩ := q
    exact h2 pins s1 σ' H' D I' (hu σ' H' q)
  | ret v => exact q
  | brk => exact q
  | cont => exact q
theorem same_upd {H H' : Hp} {p : Addr} {o : HO} (h : Same H H') (hn : H p = none) : Same H (upd H' p o) := fun b u q => by rw [upd_ne (ne_of_none q hn)]; exact h b u q
end L2

set_option maxHeartbeats 4000000
/-! zip of two lists or tuples: its draws are told by what they do, not by what they are -/
namespace Zo
open PySem PySem.Spec PyProof.Rows
open Sem (wp)
section
variable {prog : Program} {w : World} {A : Around} {E : Value → Shared → Prop} {hp : Heap} {g : Array GenState} {d : Drawn} {tk : Nat} {os : OsState}
end
end Zo

set_option maxHeartbeats 4000000
namespace Zn
open PySem PySem.Spec PyProof.Rows
open Sem (wp)
section
variable {prog : Program} {w : World} {A : Around} {E : Value → Shared → Prop} {hp : Heap} {g : Array GenState} {d : Drawn} {tk : Nat} {os : OsState} {it l : Addr} {i n : Nat} {its : Array Value} {oi ol : Obj} {R : PySem.Fin → Shared → Prop}
end
end Zn

set_option maxHeartbeats 4000000
/-! zip of two lists or tuples, made and walked -/
namespace Zp
open PySem PySem.Spec PyProof.Rows Zo
open Sem (wp)
section
variable {prog : Program} {w : World} {A : Around}
variable {E : Value → Shared → Prop}
end
/-! zip(..) made -/
section
variable {prog : Program} {w : World} {A : Around} {E : Value → Shared → Prop} {s : Shared}
end
end Zp

set_option maxHeartbeats 4000000
namespace L2
open PySem PySem.Spec PyProof.Rows
section
variable {X : Cx} {pins : List (Addr × Obj)} {σ : St} {H : Hp} {s : Shared} {h' : Heap}
theorem Inv.turnedL {t' : Nat} {ch : List Addr} (I : Inv X pins σ H s) (k : ∀ b o, b ∉ ch → s.heap.get? b = some o → h'.get? b = some o) (hf : ∀ b ∈ ch, FpOk X pins H b) : Inv X pins σ H { s with heap := h', toks := t' } := by
  have nit : ∀ b u, H b = some u → b ∉ ch := fun b u e z => by rw [(hf b z).1] at e; cases e
  refine I.step (g' := s.gens) (d' := s.drawn) (ch := ch) (fun b hb => ⟨(hf b hb).2.2.2.1, (hf b hb).2.1, (hf b hb).2.2.2.2.1, (hf b hb).2.2.2.2.2⟩) (fun b o _ _ hc e _ => k b o hc e) (fun b o _ _ hc e _ => ⟨o.slots, k b o hc e⟩) (fun _ _ _ _ n => n)
    (fun b o hc e => ⟨o, k b o hc e⟩) (fun _ _ e => e) (fun _ _ _ e => e) (fun b ps e => ⟨#[], by rw [e]; simp⟩) (fun m hm => ?_) (fun b u e => ?_) I.bare
  · obtain ⟨o, es, ep, ho, r⟩ := hm
    exact ⟨o, es, ep, k _ o (fun z => (hf _ z).2.1 rfl) ho, r⟩
  · refine (I.hok b u e).stay (fun c v hc q => k c v ?_ q) (fun _ q => q) fun _ _ q => q
    rcases hc with z | z
    · rw [z]; exact nit b u e
    · exact nit c _ z
theorem Inv.turnedT {t' : Nat} {ch : List Addr} {T : Addr} {xs : List V} {its : List Value} (I : Inv X pins σ H s) (k : ∀ b o, b ∉ ch → s.heap.get? b = some o → h'.get? b = some o) (hf : ∀ b ∈ ch, FpOk X pins H b) (hT : s.heap.objs.size ≤ T) (hv : Vals xs its) (hz : xs.length ≤ sizeLine) (ht : IsTup h' T its.toArray) :
    Inv X pins σ (upd H T (.tup xs)) { s with heap := h', toks := t' } := by
  have nit : ∀ b u, H b = some u → b ∉ ch := fun b u e z => by rw [(hf b z).1] at e; cases e
  have hTn : H T = none := I.hok.fresh hT
  have neT : ∀ b o, s.heap.get? b = some o → b ≠ T := fun b o e => Nat.ne_of_lt (Nat.lt_of_lt_of_le (Heap.lt_size e) hT)
  have neH : ∀ b u, H b = some u → b ≠ T := fun b u e z => by rw [z, hTn] at e; cases e
  refine I.step (g' := s.gens) (d' := s.drawn) (ch := ch) (fun b hb => ⟨(hf b hb).2.2.2.1, (hf b hb).2.1, (hf b hb).2.2.2.2.1, (hf b hb).2.2.2.2.2⟩) (fun b o _ _ hc e _ => k b o hc e) (fun b o _ _ hc e _ => ⟨o.slots, k b o hc e⟩)
    (fun b o _ e n => by rw [upd_ne (neT b o e)]; exact n)
    (fun b o hc e => ⟨o, k b o hc e⟩) (fun b ys e => by rw [upd_ne (neH b _ e)]; exact e) (fun b o u e => by rw [upd_ne (neH b _ e)]; exact e) (fun b ps e => ⟨#[], by rw [upd_ne (neH b _ e), e]; simp⟩) (fun m hm => ?_) (fun b u e => ?_) I.bare
  · obtain ⟨o, es, ep, ho, r⟩ := hm
    exact ⟨o, es, ep, k _ o (fun z => (hf _ z).2.1 rfl) ho, r⟩
  · by_cases hb : b = T
    · subst hb
      rw [upd_same] at e
      cases e
      exact ⟨hz, its, hv, ht⟩
    · rw [upd_ne hb] at e
      refine (I.hok b u e).stay (fun c v hc q => k c v ?_ q) (fun c q => by rw [upd_ne (neH c _ q)]; exact q) fun c ys q => by rw [upd_ne (neH c _ q)]; exact q
      rcases hc with z | z
      · rw [z]; exact nit b u e
      · exact nit c _ z
end
section
variable {X : Cx} {es : List Expr} {kk : Nat} {tp : Pos}
end
end L2

set_option maxHeartbeats 4000000
/-! bits of ints: the lowest place at 1 -/
namespace Bt
open PySem PyProof.Rows
theorem nat_and (x y : Nat) : (x &&& y) = 2 * ((x / 2) &&& (y / 2)) + (x % 2) * (y % 2) := by
  have h1 : (x &&& y) / 2 = (x / 2) &&& (y / 2) := Nat.and_div_two
  have h2 : (x &&& y) % 2 = 1 ↔ x % 2 = 1 ∧ y % 2 = 1 := Nat.and_mod_two_eq_one
  rcases Nat.mod_two_eq_zero_or_one x with a | a <;> rcases Nat.mod_two_eq_zero_or_one y with b | b <;> rw [a, b] at h2 ⊢ <;> omega
theorem nat_or (x y : Nat) : (x ||| y) = 2 * ((x / 2) ||| (y / 2)) + (x % 2 + y % 2 - (x % 2) * (y % 2)) := by
  have h1 : (x ||| y) / 2 = (x / 2) ||| (y / 2) := Nat.or_div_two
  have h2 : (x ||| y) % 2 = 1 ↔ x % 2 = 1 ∨ y % 2 = 1 := Nat.or_mod_two_eq_one
  rcases Nat.mod_two_eq_zero_or_one x with a | a <;> rcases Nat.mod_two_eq_zero_or_one y with b | b <;> rw [a, b] at h2 ⊢ <;> omega
end Bt

set_option maxHeartbeats 4000000
/-! more rules: great shifts, bit_length, any and all of bools, lists of ints compared -/
namespace L2
open PySem PySem.Spec PyProof.Rows
section
variable {X : Cx}
def CShl (i j : Int) : Prop := ∃ a, Sz a i ∧ 0 ≤ j ∧ (a : Int) + j ≤ 1048576
theorem op_shlS : OpR X (binaryOp .LShift) (rI CShl fun i j => .int (i * 2 ^ j.toNat)) := opI fun i j _ _ _ _ _ hc q => by
  obtain ⟨a, h1, h2, h3⟩ := hc
  have := h1.bits
  exact lshift_int h2 (by omega) q
theorem call_anyL (hc : X.calm = true) : CallR X (.builtin "any") (fun xs H Q => ∃ (p : Addr) (bs : List Bool), xs = [.ref p] ∧ SqL X.K H p (bs.map V.bl) ∧ Q (.bl (bs.any id)) H) := by
  intro pins s σ H xs us Q I r h
  obtain ⟨p, bs, rfl, hq, q⟩ := h
  obtain ⟨u, rfl, ru⟩ := r.one
  cases ru
  obtain ⟨its, rv, pl, hz⟩ := I.list hq
  have hlen : its.length = bs.length := by rw [← rv.length, List.length_map]
  refine call_any_walk (wpAny_pyIter_list pl.isList ?_)
  have W := Walks.list (prog := X.prog) (w := X.w) (A := X.A.in1) (show X.A.in1.handled = none from I.ok.hd hc) s.heap.objs.size p (by
    obtain ⟨o, e, _⟩ := pl.isList
    exact Nat.ne_of_lt (Heap.lt_size e)) its.toArray
  refine ⟨s.heap.objs.size, _, _, _, _, _, fun i => bs.getD i false, rfl, W, ⟨⟨_, Heap.get?_push_size _ rfl, rfl, rfl⟩, pl.isList.push _⟩, ?_, fun h' tk hk => ?_⟩
  · intro i v s' Q' E' hv hQ
    have hv' : its[i]? = some v := by simpa using hv
    have hi : i < bs.length := by rw [← hlen]; exact (List.getElem?_eq_some_iff.mp hv').1
    have hb : (bs.map V.bl)[i]? = some (.bl (bs.getD i false)) := by
      rw [List.getElem?_map, List.getElem?_eq_getElem hi, List.getD_eq_getElem?_getD, List.getElem?_eq_getElem hi]; rfl
    obtain ⟨u, hu, ru⟩ := rv.get hb
    rw [hv'] at hu
    cases hu
    cases ru
    exact wpAny_truthy_bool hQ
  · have e : (List.range its.toArray.size).any (fun i => bs.getD i false) = bs.any id := by
      rw [List.size_toArray, hlen]
      rw [Bool.eq_iff_iff, List.any_eq_true, List.any_eq_true]
      constructor
      · rintro ⟨i, hi, hb⟩
        have hi' : i < bs.length := List.mem_range.mp hi
        rw [List.getD_eq_getElem?_getD, List.getElem?_eq_getElem hi'] at hb
        exact ⟨bs[i], List.getElem_mem hi', hb⟩
      · rintro ⟨b, hb, hb'⟩
        obtain ⟨i, hi, rfl⟩ := List.mem_iff_getElem.mp hb
        refine ⟨i, List.mem_range.mpr hi, ?_⟩
        rw [List.getD_eq_getElem?_getD, List.getElem?_eq_getElem hi]
        exact hb'
    rw [e]
    refine ⟨.bl (bs.any id), H, ?_, rfl, q⟩
    exact I.kept (t' := tk) fun b o eo => hk b o (by simp; exact Nat.ne_of_lt (Heap.lt_size eo)) (Heap.get?_push_of_some _ eo)
end
end L2

set_option maxHeartbeats 4000000
/-! amounts: four parts and halvings -/
namespace Am
open PySem
end Am

set_option maxHeartbeats 4000000
/-! how many binary places of a number are at 1 -/
namespace Pc
open PySem PyProof.Rows
def pc (n : Nat) : Nat := if h : n = 0 then 0 else n % 2 + pc (n / 2)
theorem pc_zero : pc 0 = 0 := by unfold pc; simp
theorem pc_half (n : Nat) : pc n = n % 2 + pc (n / 2) := by
  by_cases h : n = 0
  · subst h; rw [show (0 / 2 : Nat) = 0 from rfl, pc_zero]
  · conv => lhs; unfold pc
    rw [dif_neg h]
theorem nat_xor (x y : Nat) : (x ^^^ y) = 2 * ((x / 2) ^^^ (y / 2)) + (x % 2 + y % 2) % 2 := by
  have h1 : (x ^^^ y) / 2 = (x / 2) ^^^ (y / 2) := Nat.xor_div_two
  have h2 : (x ^^^ y) % 2 = (x % 2 + y % 2) % 2 := by
    have := Nat.xor_mod_two_eq_one (a := x) (b := y)
    rcases Nat.mod_two_eq_zero_or_one x with a | a <;> rcases Nat.mod_two_eq_zero_or_one y with b | b <;> rcases Nat.mod_two_eq_zero_or_one (x ^^^ y) with c | c <;> simp [a, b, c] at this ⊢
  omega
theorem pc_drop : ∀ (m n : Nat), n < m → n ≠ 0 → pc (n &&& (n - 1)) + 1 = pc n
  | 0, n, h, _ => by omega
  | m + 1, n, h, hn => by
    have e := Bt.nat_and n (n - 1)
    rw [pc_half n, pc_half (n &&& (n - 1))]
    rcases Nat.mod_two_eq_zero_or_one n with a | a
    · have e1 : (n - 1) / 2 = n / 2 - 1 := by omega
      rw [e1, a, Nat.zero_mul] at e
      have e2 : (n &&& (n - 1)) / 2 = n / 2 &&& (n / 2 - 1) := by omega
      have e3 : (n &&& (n - 1)) % 2 = 0 := by omega
      rw [e2, e3, a]
      have := pc_drop m (n / 2) (by omega) (by omega)
      omega
    · have e1 : (n - 1) / 2 = n / 2 := by omega
      have e0 : (n - 1) % 2 = 0 := by omega
      rw [e1, e0, Nat.mul_zero, Nat.and_self] at e
      have e2 : (n &&& (n - 1)) / 2 = n / 2 := by omega
      have e3 : (n &&& (n - 1)) % 2 = 0 := by omega
      rw [e2, e3, a]
      omega
theorem pc_xor : ∀ (m x y : Nat), x < m → y < m → pc (x ^^^ y) % 2 = (pc x + pc y) % 2
  | 0, x, y, h, _ => by omega
  | m + 1, x, y, hx, hy => by
    by_cases z : x = 0 ∧ y = 0
    · obtain ⟨rfl, rfl⟩ := z
      rw [show (0 ^^^ 0 : Nat) = 0 from rfl, pc_zero]
    · have e := nat_xor x y
      rw [pc_half (x ^^^ y), pc_half x, pc_half y, show (x ^^^ y) / 2 = x / 2 ^^^ y / 2 by omega]
      by_cases q : x / 2 < m ∧ y / 2 < m
      · have := pc_xor m (x / 2) (y / 2) q.1 q.2
        omega
      · exfalso; omega
theorem pcx (x y : Nat) : pc (x ^^^ y) % 2 = (pc x + pc y) % 2 := pc_xor (x + y + 1) x y (by omega) (by omega)
theorem or_eq : ∀ (m x y : Nat), x < m → y < m → (x ||| y) = (x ^^^ y) + (x &&& y)
  | 0, x, y, h, _ => by omega
  | m + 1, x, y, hx, hy => by
    by_cases z : x = 0 ∧ y = 0
    · obtain ⟨rfl, rfl⟩ := z; rfl
    · have e := nat_xor x y
      have e1 := Bt.nat_and x y
      have e2 := Bt.nat_or x y
      by_cases q : x / 2 < m ∧ y / 2 < m
      · have := or_eq m (x / 2) (y / 2) q.1 q.2
        rcases Nat.mod_two_eq_zero_or_one x with a | a <;> rcases Nat.mod_two_eq_zero_or_one y with b | b <;> rw [a, b] at e e1 e2 <;> omega
      · exfalso; omega
theorem and_i (x y : Nat) : Builtin.bitAnd (x : Int) (y : Int) = ((x &&& y : Nat) : Int) := by rw [bitAnd_pp (by omega) (by omega)]; simp
theorem xor_i (x y : Nat) : Builtin.bitXor (x : Int) (y : Int) = ((x ^^^ y : Nat) : Int) := by
  have h : Builtin.bitXor (x : Int) (y : Int) = Builtin.bitOr x y - Builtin.bitAnd x y := rfl
  have h2 : Builtin.bitOr (x : Int) (y : Int) = ((x ||| y : Nat) : Int) := by
    unfold Builtin.bitOr
    rw [bitAnd_nn (by unfold Builtin.bitNot; omega) (by unfold Builtin.bitNot; omega), bitNot_bitNot, bitNot_bitNot, bitNot_bitNot]
    simp
  rw [h, h2, and_i, or_eq (x + y + 1) x y (by omega) (by omega)]
  omega
end Pc

set_option maxHeartbeats 4000000
namespace L2
open PySem PySem.Spec PyProof.Rows
theorem Same.tup {K : PySem.W.Frag} {H H' : Hp} {a : Addr} {xs : List V} (e : Same H H') (h : SqT K H a xs) : SqT K H' a xs := by
  rcases h with h | h
  · rcases h with h | ⟨o, h⟩
    · exact .inl (.inl (e _ _ h))
    · exact .inl (.inr ⟨o, e _ _ h⟩)
  · exact .inr h
section
variable {X : Cx} {scope : Scope} {Nc : List Str} {ex : List Addr} {pins : List (Addr × Obj)} {s : Shared} {H : Hp}
theorem ix_tupC : IxR (cxLc X scope Nc ex pins s H) (rIxT X.K) := ix_tup
end
end L2
namespace L2
open PySem PySem.Spec PyProof.Rows
section
variable {K : PySem.W.Frag} {a : Addr} {ns : List Int} {te : TE} {fr : St} {H1 : Hp} {acc : Addr} {Q : VK}
theorem lc_pure {J : It} {n : Nat} {val : Nat → V} (f : Nat → V) (hn : n ≤ sizeLine) (hacc : H1 acc = none)
    (hgo : ∀ i H, i < n → Same H1 H → J.go i H ∧ ∀ x H', J.yld i H x H' → H' = H ∧ x = val i) (hst : ∀ H, Same H1 H → J.stop n H)
    (hs : ∀ i H (N : V → Hp → Prop), i < n → Same H1 H → N (f i) H → te (some (val i) :: fr) H N)
    (hd : ∀ H2, Same H1 H2 → H2 acc = some (.lst ((List.range n).map f)) → Q (.ref acc) H2) : LcW J (gName 0) te (none :: fr) H1 acc Q := by
  refine lc_by (val := val) (fun i ys H' => Same H1 H' ∧ H' acc = some (.lst ys) ∧ ys = (List.range i).map f) hn ⟨same_new hacc _, upd_same, rfl⟩ (fun i ys H hi p => hgo i H hi p.1) (fun ys H p => hst H p.1) ?_ ?_
  · rintro i ys H N hi hl ⟨s2, a2, e2⟩ kN
    refine hs i H N hi s2 (kN _ _ a2 ⟨same_upd s2 hacc, upd_same, ?_⟩)
    rw [e2, List.range_succ, List.map_append]
    rfl
  · rintro ys H hl ⟨s2, a2, e2⟩
    exact hd H s2 (by rw [a2, e2])
theorem lc_rangeP {lo : Int} {n : Nat} (f : Nat → V) (hn : n ≤ sizeLine) (hacc : H1 acc = none) (hs : ∀ i H (N : V → Hp → Prop), i < n → Same H1 H → N (f i) H → te (some (.int (lo + i)) :: fr) H N)
    (hd : ∀ H2, Same H1 H2 → H2 acc = some (.lst ((List.range n).map f)) → Q (.ref acc) H2) : LcW (Itr lo n) (gName 0) te (none :: fr) H1 acc Q :=
  lc_pure (val := fun i => .int (lo + i)) f hn hacc (fun i H hi s => ⟨hi, fun x H' y => y⟩) (fun H s => Nat.le_refl _) hs hd
theorem range_map (ns : List Int) (f : Int → V) : (List.range ns.length).map (fun i => f (ns.getD i 0)) = ns.map f := by
  apply List.ext_getElem
  · simp
  · intro i h1 h2
    simp at h1
    simp [h1]
end
section
variable {X : Cx}
end
end L2
namespace L2
open PySem PySem.Spec PyProof.Rows
end L2

namespace L2
open PySem PySem.Spec PyProof.Rows

/-! ### lists of pairs as tables -/
section
variable {κ : Type} [DecidableEq κ]
def valV (kvs : List (κ × V)) (k : κ) : Option V := (kvs.find? fun kv => decide (kv.1 = k)).map (·.2)
theorem valV_nil {k : κ} : valV ([] : List (κ × V)) k = none := rfl
theorem valV_pos {p : κ × V} {r : List (κ × V)} {k : κ} (e : p.1 = k) : valV (p :: r) k = some p.2 := by simp [valV, List.find?_cons, e]
theorem valV_neg {p : κ × V} {r : List (κ × V)} {k : κ} (e : ¬ p.1 = k) : valV (p :: r) k = valV r k := by simp [valV, List.find?_cons, e]
theorem RelO.isSome_eq {o : Option V} {u : Option Value} (r : RelO o u) : o.isSome = u.isSome := by
  cases o with
  | none => cases u with
    | none => rfl
    | some _ => exact (show False from r).elim
  | some _ => cases u with
    | none => exact (show False from r).elim
    | some _ => rfl
theorem KV.val {kvs : List (κ × V)} {vs : List (κ × Value)} (r : KV kvs vs) (k : κ) : RelO (valV kvs k) (valueAt vs k) := by
  unfold KV at r
  induction r with
  | nil => exact True.intro
  | @cons p q ps qs h t ih =>
    obtain ⟨h1, h2⟩ := h
    by_cases e : p.1 = k
    · have e' : q.1 = k := h1.symm.trans e
      have b : valueAt (q :: qs) k = some q.2 := by simp [valueAt, List.find?_cons, e']
      rw [valV_pos e, b]; exact h2
    · have e' : ¬ q.1 = k := fun z => e (h1.trans z)
      have b : valueAt (q :: qs) k = valueAt qs k := by simp [valueAt, List.find?_cons, e']
      rw [valV_neg e, b]; exact ih
theorem KV.keys {kvs : List (κ × V)} {vs : List (κ × Value)} (r : KV kvs vs) : kvs.map (·.1) = vs.map (·.1) := by
  unfold KV at r
  induction r with
  | nil => rfl
  | cons h t ih => rw [List.map_cons, List.map_cons, ih, h.1]
end


/-! ### a tracked dict, its keys ints and texts or tuples of these -/
theorem kV_is {P : Program} {w : World} {k : Key} {u : Value} (r : RelV (kV k) u) : (mixKind P w).is k u = true := by
  cases k with
  | inl i => obtain ⟨t, e⟩ := (show ∃ t, u = Value.int i t from r); subst e; exact mixKind_int P w i t
  | inr x => obtain ⟨t, e⟩ := (show ∃ t, u = Value.str x t from r); subst e; exact mixKind_str P w x t
section
variable {P : Program} {w : World} {H : Hp} {h : Heap} {a : Addr}
end

section
variable {X : Cx} {pins : List (Addr × Obj)} {σ : St} {H : Hp} {s : Shared} {a : Addr} {y v : V} {u r : Value} {o : Option V} {A : Around} {E : Value → Shared → Prop}

theorem Inv.big (I : Inv X pins σ H s) : sysModules < s.heap.objs.size := by
  have h : mainGlobals < s.heap.objs.size := (I.mod.glob.keeps I.bk).lt
  exact Nat.lt_trans (by decide) h

end

section
variable {X : Cx} {pins : List (Addr × Obj)} {σ : St} {H : Hp} {s : Shared} {a : Addr} {kvs : List (Key × V)} {k : Key} {u : Value} {A : Around} {E : Value → Shared → Prop}
end


/-! ### readings and rules -/
def NoSl (i : Expr) : Prop := ∀ ov iv, subscripted i false ov iv = operate [ov, iv] (getItem ov iv)
theorem subD_of {prog : Program} {w : World} {A : Around} {E : Value → Shared → Prop} {s : Shared} {env : Env} {value slice : Expr} {pos : Pos} {T id : String} {Q : Value → Shared → Prop}
    (hl : typeLookup (.type T) "__getitem__" = pure (some (.builtin id))) (hs : NoSl slice)
    (h : wpAny (model prog w) A (eval value env) (fun o s₁ => wpAny (model prog w) A (eval slice env) (fun i s₂ => s₂.TypeIs o T ∧ wpAny (model prog w) A (getItem o i) Q E s₂) E s₁) E s) :
    wpAny (model prog w) A (eval (.Subscript value slice pos) env) Q E s := by
  refine Subscript_ (wpAny_mono h (fun o s₁ h₁ => wpAny_mono h₁ (fun i s₂ h₂ => ?_) fun _ _ x => x) fun _ _ x => x)
  obtain ⟨hT, h₂⟩ := h₂
  unfold subscriptTail
  refine wpAny_bind ?_
  rw [getitemInPython_of_ne hT.not_modules]
  refine wpAny_bind (wpAny_specialOf hT hl ?_)
  have fin : wpAny (model prog w) A (subscripted slice false o i) (fun r s₃ => wpAny (model prog w) A (letTemporaryGo value o r >>= fun _ => pure r) Q E s₃) E s₂ := by
    rw [hs o i]
    exact wpAny_operating (wpAny_mono h₂ (fun r s₃ h₃ => wpAny_bind (wpAny_letTemporaryGo (wpAny_pure h₃))) fun _ _ x => x)
  first
    | exact wpAny_pure (wpAny_bind fin)
    | exact wpAny_bind (wpAny_pure (wpAny_bind fin))
    | exact wpAny_bind fin

section
variable {X : Cx} {o i e value : Expr} {pos pos' tpos : Pos} {td ty tv : TE}
end


/-! ### displays -/
theorem dk_empty {P : Program} {w : World} {H : Hp} (h : Heap) (hb : sysModules < h.objs.size) : ObjOk P w H (h.push { cls := .type "dict", data := .dict #[] }) h.objs.size (.dK []) :=
  ⟨Nat.zero_le _, beq_eq_false_iff_ne.mpr (Ne.symm (Nat.ne_of_lt hb)), [], .nil, Heap.DictOf.new h⟩
def tDNewK : TE := fun _ H Q => ∀ p, H p = none → Q (.ref p) (upd H p (.dK []))
section
variable {X : Cx} {pos : Pos}
theorem pe_dnewK : PE X (.Dict [] [] pos) tDNewK := fun pins s σ H Q I h =>
  wpAny_Dict_empty ⟨.ref s.heap.objs.size, _, I.laid (a := s.heap.objs.size) (o := .dK []) (t' := s.toks) (fun _ _ q => Heap.get?_push_of_some _ q) (Nat.le_refl _) (dk_empty s.heap I.big), rfl, h _ (I.hok.fresh (Nat.le_refl _))⟩
end

/-! ### methods -/
section
variable {X : Cx} {pins : List (Addr × Obj)} {σ : St} {H : Hp} {s : Shared} {a : Addr} {y d : V} {u r : Value} {o : Option V} {A : Around} {E : Value → Shared → Prop}
end

section
variable {X : Cx} {o e f : Expr} {apos cpos : Pos} {td ty tx : TE}
end

end L2

set_option maxHeartbeats 4000000
/-! boards: lists of tuples of ints; products of great ints; all(..) of bools; the script's weight -/
namespace L2
open PySem PySem.Spec PyProof.Rows
def CMulG (i j : Int) : Prop := ∃ a b, Sz a i ∧ Sz b j ∧ a + b ≤ 100000000
theorem CMulG.ok {i j : Int} (h : CMulG i j) : IntMulOk i j := by
  obtain ⟨a, b, h1, h2, h3⟩ := h
  have e1 := h1.bits
  have e2 := h2.bits
  unfold IntMulOk
  rw [show Builtin.Int.intTooBig (Builtin.Int.intBits i + Builtin.Int.intBits j) = false by
    unfold Builtin.Int.intTooBig
    have : bitsLine = 134217728 := rfl
    rw [this]
    exact decide_eq_false (by omega)]
  simp
section
variable {X : Cx}
theorem op_mulG : OpR X (binaryOp .Mult) (rI CMulG fun i j => .int (i * j)) := opI fun _ _ _ _ _ _ _ hc q => mul_int q hc.ok
theorem call_allL (hc : X.calm = true) : CallR X (.builtin "all") (fun xs H Q => ∃ (p : Addr) (bs : List Bool), xs = [.ref p] ∧ SqL X.K H p (bs.map V.bl) ∧ Q (.bl (bs.all id)) H) := by
  intro pins s σ H xs us Q I r h
  obtain ⟨p, bs, rfl, hq, q⟩ := h
  obtain ⟨u, rfl, ru⟩ := r.one
  cases ru
  obtain ⟨its, rv, pl, hz⟩ := I.list hq
  have hlen : its.length = bs.length := by rw [← rv.length, List.length_map]
  refine call_all_walk (wpAny_pyIter_list pl.isList ?_)
  have W := Walks.list (prog := X.prog) (w := X.w) (A := X.A.in1) (show X.A.in1.handled = none from I.ok.hd hc) s.heap.objs.size p (by
    obtain ⟨o, e, _⟩ := pl.isList
    exact Nat.ne_of_lt (Heap.lt_size e)) its.toArray
  refine ⟨s.heap.objs.size, _, _, _, _, _, fun i => bs.getD i false, rfl, W, ⟨⟨_, Heap.get?_push_size _ rfl, rfl, rfl⟩, pl.isList.push _⟩, ?_, fun h' tk hk => ?_⟩
  · intro i v s' Q' E' hv hQ
    have hv' : its[i]? = some v := by simpa using hv
    have hi : i < bs.length := by rw [← hlen]; exact (List.getElem?_eq_some_iff.mp hv').1
    obtain ⟨u, hu, ru⟩ := rv.get (show (bs.map V.bl)[i]? = some (.bl (bs.getD i false)) by simp [hi])
    rw [hv'] at hu
    cases hu
    cases ru
    exact wpAny_truthy_bool hQ
  · have e : (List.range its.toArray.size).all (fun i => bs.getD i false) = bs.all id := by
      rw [List.size_toArray, hlen, Bool.eq_iff_iff, List.all_eq_true, List.all_eq_true]
      constructor
      · intro z b hb
        obtain ⟨i, hi, rfl⟩ := List.mem_iff_getElem.mp hb
        have := z i (List.mem_range.mpr hi)
        simpa [hi] using this
      · intro z i hi
        have hi' : i < bs.length := List.mem_range.mp hi
        have := z bs[i] (List.getElem_mem hi')
        simpa [hi'] using this
    rw [e]
    refine ⟨.bl (bs.all id), H, ?_, rfl, q⟩
    exact I.kept (t' := tk) fun b o eo => hk b o (by simp; exact Nat.ne_of_lt (Heap.lt_size eo)) (Heap.get?_push_of_some _ eo)
end
/-! ### == of lists of tuples of ints -/
section
variable {P : Program} {w : World} {H : Hp} {h : Heap}
end
section
variable {X : Cx}
end
section
variable {X : Cx} {scope : Scope} {Nc : List Str} {ex : List Addr} {pins : List (Addr × Obj)} {s : Shared} {H : Hp}
end
end L2

set_option maxHeartbeats 4000000
/-! the script's ints weigh 2 ^ 20 places at most -/
namespace L2
open PySem PySem.W PySem.Calls PySem.Spec PyProof.Rows
def Light (ns : List Int) : Prop := ∀ n ∈ ns, Sz 1048576 n
theorem light_weight : ∀ {ns : List Int} {W : Nat}, WData.weightAll (ns.map WData.int) ≤ W → ∀ n ∈ ns, Sz W n
  | m :: r, W, h, n, hn => by
    simp only [List.map_cons, WData.weightAll, WData.weight] at h
    rcases List.mem_cons.mp hn with rfl | hn
    · unfold Sz
      by_cases z : n = 0
      · subst z; exact Nat.two_pow_pos _
      · have zb : (n == 0) = false := by simpa using z
        rw [zb, if_neg (by simp)] at h
        have h1 : n.natAbs.log2 < W := by omega
        exact (Nat.log2_lt (by omega)).mp h1
    · exact light_weight (W := W) (by omega) n hn
theorem light_of {ns : List Int} (h : WData.layableAll [WData.list (ns.map WData.int)] = true) : Light ns := by
  simp only [WData.layableAll, List.all_cons, List.all_nil, Bool.and_true, WData.layable, Bool.and_eq_true, decide_eq_true_eq] at h
  exact light_weight (W := 1048576) (by have := h.2; simpa [WData.weight] using this)
theorem attach_light {l : OpenLaw} {n : Nat} {q : Program} {loose : List Str} {XP : (Str → Option Value) → Heap → Prop} {YP : World → Heap → Prop} {d : DefRec}
    (hn : l.most = some n) (hdf : d.params.defaults = [])
    (call : ∀ (w : World) (s₀ s₁ : Shared) (mg mb : Str → Option Value) (fa : Addr) (o : Obj) (pm cd doc : Value) (a : Addr) (vs : List Value) (ns : List Int), Light ns →
      Ground q loose [] XP w s₀ mg mb s₁.heap → YP w s₁.heap →
      s₁.heap.get? fa = some o → o.data = .func (docDef d.name d.params d.body d.scope pm cd doc) → s₁.heap.CodeRec cd d.name → mg d.name = some (.ref fa) →
      s₁.heap.get? a = some { cls := .type "list", data := .seq vs.toArray } → IntsAre vs ns → ns.length ≤ n → s₁.gens = #[] →
      codeAny (model l.prog w) callerA (.call (.ref fa) ⟨[.ref a], []⟩) (fun r s' => r = .ok (.ret (.bool true)) ∧ OldK s₁.heap s'.heap ∧ s'.os = s₁.os ∧ AllBare s'.gens) s₁) :
    WalkO q loose XP YP l.row.toRowW d [] (fun f vs => PySem.call f vs) := by
  intro w s₀ s₁ mg mb G Y fa o pm cd doc dV kV ho hd hcd hD hmg hg args vals as hpre hlay hrd hwl hlo
  obtain rfl : dV = .none := Dflts.none hD hdf
  obtain rfl : kV = .none := Dflts.noKw hD
  obtain ⟨a, vs, ns, rfl, rfl, hobj, hints, hlen⟩ := Att.script_of hn hpre hwl
  refine enter_call (codeAny_mono (call w s₀ s₁ mg mb fa o pm cd doc a vs ns (light_of hlay) G Y ho (fd_plain hd) hcd hmg hobj hints hlen hg) fun r s' hq => ?_)
  obtain ⟨rfl, h2, h3, h4⟩ := hq
  exact ⟨.inl ⟨.bool true, .bool true, [], rfl, fun _ => rfl, .bool true, Att.post_true l _, fun _ => ⟨List.Pairwise.nil, fun _ hm => (nomatch hm)⟩⟩, h2, h3, h4⟩
theorem walk_light {l : PySem.W.OpenLaw} {n k : Nat} {q : Program} {loose : List Str} {XP : (Str → Option Value) → Heap → Prop} {YP : World → Heap → Prop} {d : DefRec} {K : Params → PySem.W.Frag} {CX : World → CXT} {sp : World → Sp} {x : Str}
    (hn : l.most = some n) (hn2 : n ≤ sizeLine) (hdf : d.params.defaults = []) (hr : Room k callerA)
    (hY : ∀ (w : World) (h : Heap), YP w h → (K w.params).In h)
    (F : ∀ (w : World) (mg : Str → Option Value) (fa : Addr) (h : Heap), (K w.params).In h → h.Ns mainGlobals mg → mg d.name = some (.ref fa) →
      ∃ fd : FuncData, (∀ (s : Shared) (u : Value), BindsTo s fd ⟨[u], []⟩ [(x, u)]) ∧
        ∀ base : Heap, (K w.params).In base → base.Ns mainGlobals mg → FnOk l.prog w (K w.params) mg base (CX w) k fa fd [x] (sp w))
    (hsp : ∀ (w : World) (H : Hp) (a : Addr) (ns : List Int), ns.length ≤ n → Light ns → SqL (K w.params) H a (ns.map V.int) → sp w [.ref a] H (fun v _ => v = .bl true) fun _ _ _ => False)
    (hCX : ∀ (w : World) (H : Hp) (s : Shared) (e : Value) (s' : Shared), CX w [] H s (fun _ _ _ => False) e s' → False) :
    PySem.W.WalkO q loose XP YP l.row.toRowW d [] (fun f vs => PySem.call f vs) := by
  refine attach_light hn hdf fun w s₀ s₁ mg mb fa o pm cd doc a vs ns lt G Y ho hd hcd hmg hobj hints hlen hg => ?_
  have KX := hY w _ Y
  obtain ⟨fd, hb, hF⟩ := F w mg fa _ KX G.T.g hmg
  exact law_call KX G.T.g G.T.b G.T.builtins G.T.nolimit hg hobj hints (Nat.le_trans hlen hn2) hr hF hb (fun H _ hS => hsp w H a ns hlen lt hS) fun H e s' => hCX w H s₁ e s'
end L2

set_option maxHeartbeats 4000000
/-! what the laws over boards share: amounts, boards, and what their helpers promise -/
namespace Ba
open PySem PySem.Spec PyProof.Rows L2 Am Pc
abbrev M3 (q f s : Nat) : HO := .tup [.int q, .int f, .int s]
def cell (ns : List Int) (i : Int) : Int := if i < ns.length then ns.getD i.toNat 0 else 0
def spOnes : Sp := fun vs H Q _ => ∃ n : Nat, vs = [.int n] ∧ Q (.int (pc n)) H
def spCell (K : PySem.W.Frag) : Sp := fun vs H Q _ => ∃ (a : Addr) (ns : List Int) (i : Int), vs = [.ref a, .int i] ∧ SqL K H a (ns.map V.int) ∧ 0 ≤ i ∧ Q (.int (cell ns i)) H
def spWhole : Sp := fun vs H Q _ => ∃ i : Int, vs = [.int i] ∧ Q (.bl true) H
def spLaw (K : PySem.W.Frag) (n : Nat) : Sp := fun vs H Q _ => ∃ (a : Addr) (ns : List Int), vs = [.ref a] ∧ SqL K H a (ns.map V.int) ∧ ns.length ≤ n ∧ Light ns ∧ ∀ H', Q (.bl true) H'
theorem at_map {ns : List Int} {i : Int} (h0 : 0 ≤ i) (h : i < ns.length) : atI (ns.map V.int) i = some (.int (ns.getD i.toNat 0)) := by
  have hk : i.toNat < ns.length := by omega
  have ek : i = ((i.toNat : Nat) : Int) := by omega
  have q : atI (ns.map V.int) ((i.toNat : Nat) : Int) = some (.int ns[i.toNat]) := atI_nat (by rw [List.getElem?_map, List.getElem?_eq_getElem hk] <;> rfl)
  rw [← ek] at q
  rw [q, List.getD_eq_getElem?_getD, List.getElem?_eq_getElem hk]
  rfl
theorem t64 {n : Nat} (h : n ≤ 64) : n ≤ sizeLine := Nat.le_trans h (by decide)
theorem kit_tt (K : PySem.W.Frag) : PySem.W.kitOne K (.type "tuple") (.type "tuple") = some true := by unfold PySem.W.kitOne; rw [if_pos (by decide)]
theorem kit_ll (K : PySem.W.Frag) : PySem.W.kitOne K (.type "list") (.type "list") = some true := by unfold PySem.W.kitOne; rw [if_pos (by decide)]
end Ba

set_option maxHeartbeats 4000000
namespace K95
open PySem PySem.Spec PyProof.Rows L2 Am Pc Ba
def top (i : Nat) : Stmt := PySem.Challenge.pw_spinboard_k95_plays_written.main.body.getD i (.Pass ⟨0, 0, 0, 0⟩)
structure Bs (mg : Str → Option Value) : Prop where
  isinstance : mg "isinstance" = none
  int : mg "int" = none
  bool : mg "bool" = none
  tuple : mg "tuple" = none
  list : mg "list" = none
  len : mg "len" = none
  range : mg "range" = none
  all : mg "all" = none
  any : mg "any" = none
  max : mg "max" = none
  min : mg "min" = none
  zip : mg "zip" = none
  set : mg "set" = none
  str : mg "str" = none
  enumerate : mg "enumerate" = none
  reversed : mg "reversed" = none
section
variable {P : Program} {w : World} {K : PySem.W.Frag} {mg : Str → Option Value} {base : Heap} {k : Nat} {h : Heap}

theorem sc_cell : FnScope ["_law_script", "_law_k"] ["_law_script", "_law_k"] (defScope (top 38)) := ⟨rfl, rfl, rfl, by decide +kernel, rfl, by decide +kernel, by decide +kernel⟩
theorem ok_cell (F : FunAt K "_law_cell_at" (top 38) .none) (X : K.In h) (G : h.Ns mainGlobals mg) (B : Bs mg) : Cal P w K mg base (k + 1) "_law_cell_at" ["_law_script", "_law_k"] (spCell K) := by
  have nd := sc_cell.nd
  refine F.cal X G sc_cell (bnd2 fun _ _ _ _ _ _ _ _ => rfl) (fun vs H Q E h => ?_) (fun f cdv A outer s H vs Q E hr h => ?_)
  · obtain ⟨a, ns, i, rfl, _⟩ := h; rfl
  obtain ⟨a, ns, i, rfl, hS, h0, q⟩ := h
  refine ⟨_, (@pss_cons _ _ _ _ _ (ps_if (pt_cmpR op_lt (pv 1) (pe_callB call_len_seq rfl B.len PySem.boot_len (pa_cons (pv 0) pa_nil)) (nomark _))
      (@pss_one _ _ _ (ps_ret (pe_ix ix_list (pv 0) (pv 1) (fun _ _ => rfl))))
      pss_nil)
    (@pss_one _ _ _ (ps_ret pe_int))), ?_⟩
  try dsimp only [cxK]
  have hl : (ns.map V.int).length = ns.length := List.length_map _
  refine ⟨_, rfl, _, rfl, a, _, rfl, .inl hS, _, _, rfl, rfl, _, rfl, decI (fun c => ?_) (fun c => ?_)⟩
  · rw [hl] at c
    refine ⟨_, rfl, _, rfl, a, _, _, _, rfl, rfl, hS, at_map h0 c, ?_⟩
    unfold cell at q
    rw [if_pos c] at q
    exact q
  · rw [hl] at c
    unfold cell at q
    rw [if_neg c] at q
    exact q

theorem sc_whole : FnScope ["_law_found"] ["_law_found"] (defScope (top 39)) := ⟨rfl, rfl, rfl, by decide +kernel, rfl, by decide +kernel, by decide +kernel⟩
theorem ok_whole (F : FunAt K "_law_whole" (top 39) .none) (X : K.In h) (G : h.Ns mainGlobals mg) (B : Bs mg) : Cal P w K mg base (k + 1) "_law_whole" ["_law_found"] spWhole := by
  have nd := sc_whole.nd
  refine F.cal X G sc_whole (bnd1 fun _ _ _ _ _ _ _ => rfl) (fun vs H Q E h => ?_) (fun f cdv A outer s H vs Q E hr h => ?_)
  · obtain ⟨i, rfl, _⟩ := h; rfl
  obtain ⟨i, rfl, q⟩ := h
  refine ⟨_, (@pss_one _ _ _ (ps_ret (pe_and (pe_callB call_isinst rfl B.isinstance boot_isinstance (pa_cons (pv 0) (pa_cons (pe_bltn (v := .ty "int") rfl B.int boot_int rfl) pa_nil))) (pe_one (pe_not (pe_callB call_isinst rfl B.isinstance boot_isinstance (pa_cons (pv 0) (pa_cons (pe_bltn (v := .ty "bool") rfl B.bool boot_bool rfl) pa_nil)))))))), ?_⟩
  try dsimp only [cxK]
  refine ⟨_, rfl, _, _, _, true, rfl, TyOf.int i, kit_ii K, _, rfl, iteT ?_⟩
  exact ⟨_, rfl, _, _, _, false, rfl, TyOf.int i, kit_ib K, _, rfl, q⟩

end
end K95

set_option maxHeartbeats 4000000
namespace K95
open PySem PySem.Spec PyProof.Rows L2 Am Pc Ba
theorem lc_tupM {K : PySem.W.Frag} {a : Addr} {ns : List Int} {te : TE} {fr : L2.St} {H1 : Hp} {acc : Addr} {Q : VK} (f : Int → V) (hl : SqT K H1 a (ns.map V.int)) (hn : ns.length ≤ sizeLine) (hacc : H1 acc = none) (hs : ∀ n H (N : V → Hp → Prop), n ∈ ns → Same H1 H → N (f n) H → te (some (.int n) :: fr) H N)
    (hd : ∀ H2, Same H1 H2 → H2 acc = some (.lst (ns.map f)) → Q (.ref acc) H2) : LcW (Itt K a) (gName 0) te (none :: fr) H1 acc Q := by
  refine lc_pure (n := ns.length) (val := fun i => .int (ns.getD i 0)) (fun i => f (ns.getD i 0)) hn hacc (fun i H hi s => ?_) (fun H s => ⟨_, s.tup hl, by simp⟩) (fun i H N hi s kN => hs _ H N (by simp [hi]) s kN) (fun H2 s h => hd H2 s (by rw [h, range_map]))
  have e : (ns.map V.int)[i]? = some (.int (ns.getD i 0)) := by simp [hi]
  refine ⟨⟨_, _, s.tup hl, e⟩, fun x H' y => ⟨y.1, ?_⟩⟩
  have := y.2 _ (s.tup hl)
  rw [e] at this
  exact (Option.some.inj this).symm
end K95

set_option maxHeartbeats 4000000
/-! a dict of texts and ints that the program keeps under a global name -/
namespace L2
open PySem PySem.Spec PyProof.Rows
def TEnt (P : Params) (e : DictEntry) (p : Str × Int) : Prop := ∃ t u, e = ⟨PyData.keyHash P p.1, .str p.1 t, .int p.2 u⟩
structure KDic (K : PySem.W.Frag) (P : Params) (a : Addr) (kvs : List (Str × Int)) : Prop where
  ex : ∃ o es ep, K.lookup a = some o ∧ o.ExactDict ∧ o.data = .dict es ep ∧ Paired (TEnt P) es.toList kvs
  nd : (kvs.map (·.1)).Nodup
  ns : (a == sysModules) = false
def txt (p : Str × Int) : Key × V := (Sum.inr p.1, .int p.2)
theorem KDic.at {K : PySem.W.Frag} {prog : Program} {w : World} {a : Addr} {kvs : List (Str × Int)} {h : Heap} (D : KDic K w.params a kvs) (X : K.In h) : ∃ vs, KV (kvs.map txt) vs ∧ h.DictOf (mixKind prog w) a vs := by
  obtain ⟨o, es, ep, hl, hx, hd, hp⟩ := D.ex
  have key : ∀ {l : List DictEntry} {kvs : List (Str × Int)}, Paired (TEnt w.params) l kvs → ∃ vs : List (Key × Value), KV (kvs.map txt) vs ∧ Pairs (mixKind prog w) l vs := by
    intro l kvs h
    induction h with
    | nil => exact ⟨[], .nil, .nil⟩
    | @cons e p l kvs he hr ih =>
      obtain ⟨vs, a1, a2⟩ := ih
      obtain ⟨t, u, rfl⟩ := he
      exact ⟨(Sum.inr p.1, .int p.2 u) :: vs, .cons ⟨rfl, u, rfl⟩ a1, .cons (keyIs_str p.1 t) rfl a2⟩
  have all : ∀ {l : List DictEntry} {kvs : List (Str × Int)}, Paired (TEnt w.params) l kvs → ∀ e ∈ l, ∃ p, TEnt w.params e p := by
    intro l kvs h
    induction h with
    | nil => intro e he; cases he
    | @cons e p l kvs he hr ih =>
      intro e' h'
      rcases List.mem_cons.mp h' with rfl | h'
      · exact ⟨p, he⟩
      · exact ih e' h'
  obtain ⟨vs, a1, a2⟩ := key hp
  refine ⟨vs, a1, o, es, ep, X _ _ hl, hx, hd, ?_, a2, ?_⟩
  · intro e he
    obtain ⟨p, t, u, rfl⟩ := all hp e (Array.mem_toList_iff.mpr he)
    exact ⟨Sum.inr p.1, keyIs_str p.1 t, rfl⟩
  · rw [← a1.keys, List.map_map]
    have e : kvs.map ((fun kv => kv.1) ∘ txt) = (kvs.map (·.1)).map (Sum.inr : Str → Key) := by rw [List.map_map]; rfl
    rw [e]
    exact List.pairwise_map.mpr (D.nd.imp fun h z => h (Sum.inr.inj z))
def numAt (kvs : List (Str × Int)) (x : Str) : Option V := valV (kvs.map txt) (Sum.inr x)
def tKNotIn (kvs : List (Str × Int)) (ty : TE) : TE := fun σ H Q => ty σ H fun y H1 => ∃ x, y = .str x ∧ Q (.bl (!(numAt kvs x).isSome)) H1
def tKGet (kvs : List (Str × Int)) (ty : TE) : TE := fun σ H Q => ty σ H fun y H1 => ∃ x v, y = .str x ∧ numAt kvs x = some v ∧ Q v H1
section
variable {X : Cx} {o i : Expr} {pos : Pos} {ty : TE} {aN : Addr} {kvs : List (Str × Int)}
theorem pc_knotin (D : KDic X.K X.w.params aN kvs) (hi : PE X i ty) (ho : PE X o (tC (.ref aN))) : PC X .NotIn i o (tKNotIn kvs ty) := by
  intro pins s σ H Q I h
  refine thn (hi pins s σ H _ I h) fun iv s1 ⟨y, H1, I1, ry, x, ey, q1⟩ => thn (ho pins s1 σ H1 (fun v H2 => v = .ref aN ∧ H2 = H1) I1 ⟨rfl, rfl⟩) fun u s2 ⟨v, H2, I2, rv, ev, eh⟩ => ?_
  subst ev eh ey
  cases rv
  obtain ⟨vs, rel, dd⟩ := D.at (prog := X.prog) (w := X.w) I2.kIn
  refine wpAny_notIn_of (kV_is (k := Sum.inr x) ry) D.ns dd.mapOf ?_
  rw [← (rel.val (Sum.inr x)).isSome_eq]
  exact ⟨.bl _, H2, I2.tok _, rfl, q1⟩
theorem pe_kget (D : KDic X.K X.w.params aN kvs) (ho : PE X o (tC (.ref aN))) (hi : PE X i ty) (hs : NoSl i) : PE X (.Subscript o i pos) (tKGet kvs ty) := by
  intro pins s σ H Q I h
  refine subD_of PySem.F.slot_dict_getitem.lookup hs (thn (ho pins s σ H (fun v H2 => v = .ref aN ∧ H2 = H) I ⟨rfl, rfl⟩) fun u s1 ⟨v, H1, I1, rv, ev, eh⟩ => ?_)
  subst ev eh
  cases rv
  refine thn (hi pins s1 σ H1 _ I1 h) fun iv s2 ⟨y, H2, I2, ry, x, w', ey, g, q2⟩ => ?_
  subst ey
  obtain ⟨vs, rel, dd⟩ := D.at (prog := X.prog) (w := X.w) I2.kIn
  obtain ⟨u, hw, ru⟩ := RelO.some_of (v := w') (o := valueAt vs (Sum.inr x)) (by rw [← g]; exact rel.val (Sum.inr x))
  exact ⟨dd.typeIs, wpAny_getItem_of (kV_is (k := Sum.inr x) ry) dd.mapOf hw ⟨w', H2, I2.tok _, ru, q2⟩⟩
end
end L2

set_option maxHeartbeats 4000000
/-! set(a tuple of ints), and its len -/
namespace L2
open PySem PySem.Spec PyProof.Rows
abbrev unlike (ns : List Int) : Nat := (firstMet (fun i => ns.getD i 0) ns.length).length
abbrev fresh0 (led : Bool) : Obj := { cls := .type "set", dict := none, data := .set #[] 0 (.fresh 0 0 led) }
def SetEnd (prog : Program) (w : World) (s : Shared) (ns : List Int) (S : Int → Bool) (s' : Shared) : Prop :=
  ∃ h' tk, s' = { s with heap := h', toks := tk } ∧ h'.SetOf (intKind prog w) s.heap.objs.size S (unlike ns) ∧ ∀ b o, s.heap.get? b = some o → h'.get? b = some o
section
variable {prog : Program} {w : World} {A : Around} {E : Value → Shared → Prop} {s : Shared} {p : Addr} {its : Array Value} {ns : List Int}
theorem fill_tup (hh : A.handled = none) (ht : s.heap.IsTuple p its) (hi : IntsAre its.toList ns) (hb : ns.length + 1 < scanBound) (led : Bool) {R : Result → Shared → Prop}
    (h : ∀ s', SetEnd prog w s ns (fun k => (firstMet (fun i => ns.getD i 0) ns.length).any (· == k)) s' → R (.ok (.ret .none)) s') :
    codeAny (model prog w) A (.builtin "set.update.loop" ⟨[.ref s.heap.objs.size, .ref (s.heap.push (fresh0 led)).objs.size], []⟩) R { s with heap := (s.heap.push (fresh0 led)).push { cls := .type "tuple_iterator", data := .fields #[.ref p, .int 0 0] } } := by
  obtain ⟨o, ho, hc, n, hd⟩ := id ht
  have lt : p < s.heap.objs.size := Heap.lt_size ho
  have e1 : (s.heap.push (fresh0 led)).objs.size = s.heap.objs.size + 1 := Heap.size_push ..
  have hz : its.size = ns.length := by rw [← Array.length_toList]; exact hi.length
  have W := (Walks.tuple (prog := prog) (w := w) (A := A.in1) (by simp [hh]) (s.heap.push (fresh0 led)).objs.size p (by rw [e1]; exact Nat.ne_of_lt (Nat.lt_succ_of_lt lt)) its).toS
  have t1 : (s.heap.push (fresh0 led)).IsTuple p its := ⟨o, Heap.get?_push_of_some _ ho, hc, n, hd⟩
  refine codeAny_set_update_loopS W s.heap.objs.size (by rw [e1]; simp only [List.mem_cons, List.not_mem_nil, or_false, not_or]; exact ⟨Nat.ne_of_lt (Nat.lt_succ_self _), Nat.ne_of_gt lt⟩) (fun i => ns.getD i 0) (fun i v q => hi.int_at i v (by rw [Array.getElem?_toList]; exact q)) (by rw [hz]; exact hb) its.size 0 _ rfl (Nat.zero_le _)
    ⟨⟨_, Heap.get?_push_size _ rfl, rfl, rfl⟩, t1.push _⟩ ?_ ?_
  · have g : ((s.heap.push (fresh0 led)).push { cls := .type "tuple_iterator", data := .fields #[.ref p, .int 0 0] }).get? s.heap.objs.size = some (fresh0 led) := Heap.get?_push_of_some _ (Heap.get?_push_size _ rfl)
    exact SetOf_congr ((setObjOf_fresh (knd := intKind prog w) led).setOf g (by unfold scanBound; omega)) (fun _ => rfl) rfl
  · intro s' hm hS
    rw [hz] at hS
    obtain ⟨h', g', d', tk', os'⟩ := s'
    obtain rfl : g' = s.gens := hm.gens
    obtain rfl : d' = s.drawn := hm.drawn
    obtain rfl : os' = s.os := hm.os
    refine h _ ⟨h', tk', rfl, hS, fun b o e => ?_⟩
    have lb := Heap.lt_size e
    exact hm.heap b o (by rw [e1]; simp only [List.mem_cons, List.not_mem_nil, or_false, not_or]; exact ⟨Nat.ne_of_lt lb, Nat.ne_of_lt (Nat.lt_succ_of_lt lb)⟩) (Heap.get?_push_of_some _ (Heap.get?_push_of_some _ e))
theorem init_tup (hh : A.handled = none) (ht : s.heap.IsTuple p its) (hi : IntsAre its.toList ns) (hb : ns.length + 1 < scanBound) (led : Bool) {R : Value → Shared → Prop}
    (h : ∀ s', SetEnd prog w s ns (fun k => (firstMet (fun i => ns.getD i 0) ns.length).any (· == k)) s' → R .none s') :
    codeAny (model prog w) A (.call (.builtin "set.__init__") ⟨[.ref s.heap.objs.size, .ref p], []⟩) (wants R E) { s with heap := s.heap.push (fresh0 led) } := by
  have ty : Shared.TypeIs { s with heap := s.heap.push (fresh0 led) } (.ref s.heap.objs.size) "set" := ⟨_, Heap.get?_push_size _ rfl, rfl⟩
  obtain ⟨o, ho, hc, n, hd⟩ := id ht
  obtain ⟨ocls, odict, odata, oslots⟩ := o
  simp only at hc hd
  subst hc hd
  have ho1 : (s.heap.push (fresh0 led)).get? p = some { cls := .type "tuple", dict := odict, data := .seq its n, slots := oslots } := Heap.get?_push_of_some _ ho
  have t1 : (s.heap.push (fresh0 led)).IsTuple p its := ⟨_, ho1, rfl, n, rfl⟩
  have n1 := F.sub_tuple_set
  have n2 := F.sub_tuple_frozenset
  have n3 : (Value.type "tuple" == Value.type "dict") = false := by decide
  refine codeAny_call_builtin F.called_set.init.plain F.entry_set_init (check_set_init_1 ty ?_)
  unfold Builtin.«set.__init__» noKeywords Builtin.Frozenset.updateFrom
  generalize hP : pyIter = PI
  wp_walk
  subst hP
  refine wpAny_pyIter_tuple t1 (wpAny_bind (wpAny_runValue (fill_tup (by simp [hh]) ht hi hb led fun s' e => ?_)))
  exact wpAny_pure (wpAny_pure (h _ e))
theorem set_tup (hh : A.handled = none) (ht : s.heap.IsTuple p its) (hi : IntsAre its.toList ns) (hb : ns.length + 1 < scanBound) {Q : Value → Shared → Prop}
    (h : ∀ s', SetEnd prog w s ns (fun k => (firstMet (fun i => ns.getD i 0) ns.length).any (· == k)) s' → Q (.ref s.heap.objs.size) s') : wpAny (model prog w) A (call (.type "set") [.ref p]) Q E s := by
  obtain ⟨c, tl, hmro⟩ := F.called_set.mro
  have m1 := F.called_set.made
  have m2 := F.called_set.sub
  have m3 := F.called_set.notType
  have m4 := F.called_set.canCreate
  have m5 := F.typeCall_set_1 (.ref p)
  refine wpAny_call (codeAny_of_tree ?_)
  show wpAny _ _ (callAny (.type "set") _) _ _ _
  refine wpAny_pure ⟨Code.quiet_builtin _ (by decide +kernel), codeAny_builtin F.entry_type_call ?_⟩
  rw [Around.under_plain (weight_type_call_type "set" [.ref p] []) rfl]
  repeat any_goals first | assumption | wp_step
  refine codeAny_mono (code_set_new_1 (.ref p) (E := E) (Q₁ := fun ob s₁ => ∃ led : Bool, ob = .ref s.heap.objs.size ∧ s₁ = { s with heap := s.heap.push (fresh0 led) }) fun led => ⟨led, rfl, rfl⟩) fun r s₁ hr => ?_
  rcases r with e | fl
  · exact hr
  cases fl with
  | ret ob =>
    obtain ⟨led, rfl, rfl⟩ := hr
    have ty : Shared.TypeIs { s with heap := s.heap.push (fresh0 led) } (.ref s.heap.objs.size) "set" := ⟨_, Heap.get?_push_size _ rfl, rfl⟩
    have i1 := F.called_set.init.lookup
    have i2 := F.called_set.init.bind (.ref s.heap.objs.size)
    repeat any_goals first | assumption | wp_step
    refine codeAny_mono (init_tup (E := E) (R := fun r s' => r = .none ∧ SetEnd prog w s ns (fun k => (firstMet (fun i => ns.getD i 0) ns.length).any (· == k)) s') (by simp [hh]) ht hi hb led fun s' e => ⟨rfl, e⟩) fun r₂ s₂ hr₂ => ?_
    rcases r₂ with e | fl₂
    · exact hr₂
    cases fl₂ with
    | ret r =>
      obtain ⟨rfl, e⟩ := hr₂
      repeat any_goals first | assumption | wp_step
      exact h _ e
    | next => exact hr₂.elim
    | brk => exact hr₂.elim
    | cont => exact hr₂.elim
  | next => exact hr.elim
  | brk => exact hr.elim
  | cont => exact hr.elim
end
theorem ints_vals : ∀ {ns : List Int} {us : List Value}, Vals (ns.map V.int) us → IntsAre us ns
  | [], _, .nil => .nil
  | n :: ns, _, .cons r rs => by
    obtain ⟨t, rfl⟩ := r
    exact .cons n t (ints_vals rs)
section
variable {X : Cx}
theorem call_setT (hc : X.calm = true) : CallR X (.type "set") (fun xs H Q => ∃ (p : Addr) (ns : List Int), xs = [.ref p] ∧ SqT X.K H p (ns.map V.int) ∧ ns.length < 64 ∧ ∀ (l : Addr) (S : Int → Bool), H l = none → Q (.ref l) (upd H l (.set S (unlike ns)))) := by
  intro pins s σ H xs us Q I r h
  obtain ⟨p, ns, rfl, hS, h64, q⟩ := h
  obtain ⟨u, rfl, rx⟩ := vals1 r
  cases rx
  obtain ⟨its, rv, ht, _⟩ := I.tuple hS
  obtain ⟨o, ho, hcl, n, hd⟩ := ht
  refine set_tup (I.ok.hd hc) ⟨o, ho, hcl, n, hd⟩ (ns := ns) (ints_vals (by simpa using rv)) (by unfold scanBound; omega) fun s' ⟨h', tk, e, hs, hk⟩ => ?_
  subst e
  exact ⟨.ref s.heap.objs.size, _, I.laid (o := .set _ (unlike ns)) (t' := tk) hk (Nat.le_refl _) hs, rfl, q _ _ (I.hok.fresh (Nat.le_refl _))⟩
theorem call_lenS : CallR X (.builtin "len") (fun xs H Q => ∃ (p : Addr) (S : Int → Bool) (n : Nat), xs = [.ref p] ∧ H p = some (.set S n) ∧ n < 64 ∧ Q (.int n) H) := by
  intro pins s σ H xs us Q I r h
  obtain ⟨p, S, n, rfl, hp, h64, q⟩ := h
  obtain ⟨u, rfl, rx⟩ := vals1 r
  cases rx
  have hs : s.heap.SetOf (intKind X.prog X.w) p S n := I.hok p _ hp
  obtain ⟨o, ho, hso⟩ := hs.objOf
  obtain ⟨hex, es, ep, t, hd, _, _, hn, hf⟩ := hso
  subst hn
  exact call_len_set ho hex hd hf (by omega) ⟨.int es.size, H, (I.tok _).tok _, ⟨_, rfl⟩, q⟩
end
end L2

set_option maxHeartbeats 4000000
/-! slices of lists with a step -/
namespace L2
open PySem PySem.Spec PyProof.Rows
section
variable {X : Cx} {e st : Expr} {lo hi : Option Expr} {te : TE} {tl th ts : TO} {p2 pos : Pos}
end
end L2

set_option maxHeartbeats 4000000
namespace HT
open PySem PySem.Spec PyProof.Rows
section
variable {prog : Program} {w : World} {A : Around} {E : Value → Shared → Prop} {s : Shared}
theorem getItem_tuple_all {t sl : Addr} {items : Array Value} {vl vu : Value} {lo hi : Option Int} {Q : Value → Shared → Prop} (ht : IsTup s.heap t items) (hs : s.heap.IsSliceOf sl vl vu .none) (pl : IsPart vl lo) (pu : IsPart vu hi)
    (h1 : sIx items.size 0 lo = 0) (h2 : sIx items.size items.size hi = items.size) (h : Q (.ref t) s) : wpAny (model prog w) A (getItem (.ref t) (.ref sl)) Q E s := by
  obtain ⟨os, hos, hcs, hds⟩ := id hs
  have ty : s.TypeIs (.ref sl) "slice" := ⟨os, hos, hcs⟩
  unfold getItem
  try with_reducible refine wpAny_holding ?_
  first | refine wpAny_bind (wpAny_pure ?_) | skip
  refine wpAny_bind (wpAny_sequenceKey ht.typeIs (by decide) (wpAny_bind (wpAny_callSpecial?_slot (name := Str.ofString "__getitem__") ht.typeIs PyProof.Rows.slot_tuple_getitem (wpAny_call_entry PyProof.Rows.slot_tuple_getitem ht.typeIs entry_tuple_getitem ?_ (args_tuple_getitem _ _)))))
  show wpAny _ _ (Builtin.Tuple.tupleItemsOf (.ref t) >>= _) _ _ s; refine wpAny_bind (tupleItemsOf_ ht (wpAny_bind (wpAny_typeOf ty ?_))); rw [if_pos (by decide)]
  refine wpAny_bind (sliceApplied_gen hs pl pu ?_)
  show wpAny _ _ (if (((sIx items.size 0 lo : Nat) : Int) == 0 && (1 : Int) == 1 && (sIx items.size items.size hi - sIx items.size 0 lo) == items.size) = true then _ else _) _ _ s; rw [if_pos (by rw [h1, h2]; simp)]
  refine wpAny_bind ?_
  unfold Builtin.Tuple.tupleIsExact
  refine wpAny_bind (wpAny_typeOf ht.typeIs (wpAny_pure ?_))
  rw [if_pos (by decide)]
  exact wpAny_bind (wpAny_rule (wpAny_pure ⟨_, rfl, wpAny_pure h⟩))
end
end HT
namespace L2
open PySem PySem.Spec PyProof.Rows
section
variable {X : Cx}
def rSlA (K : PySem.W.Frag) : V → Option Int → Option Int → Hp → VK → Prop := fun x lo hi H Q => ∃ a xs, x = .ref a ∧ SqT K H a xs ∧
  ((HT.sIx xs.length 0 lo = 0 ∧ HT.sIx xs.length xs.length hi = xs.length) ∧ Q (.ref a) H ∨ ¬ (HT.sIx xs.length 0 lo = 0 ∧ HT.sIx xs.length xs.length hi = xs.length) ∧ ∀ p, H p = none → Q (.ref p) (upd H p (.tup (cutV xs lo hi))))
theorem sl_tupA : SlR X (rSlA X.K) := by
  intro pins s σ H x v vl vu lo hi sl Q I rx hs pl pu h
  obtain ⟨a, xs, rfl, hx, ⟨hw, q⟩ | ⟨hw, q⟩⟩ := h
  · cases rx
    obtain ⟨its, r, ht, hz⟩ := I.tuple hx
    have hlen := r.length
    refine ⟨"tuple", _, slot_tuple_getitem.lookup, ht.typeIs, HT.getItem_tuple_all ht hs pl pu (by rw [List.size_toArray, ← hlen]; exact hw.1) (by rw [List.size_toArray, ← hlen]; exact hw.2) ⟨.ref a, H, I, rfl, q⟩⟩
  · exact sl_tup pins s σ H _ v vl vu lo hi sl Q I rx hs pl pu ⟨a, xs, rfl, hx, hw, q⟩
end
end L2

set_option maxHeartbeats 4000000
/-! list comprehensions of one clause with one test -/
namespace L2
open PySem PySem.Spec PyProof.Rows
theorem tests_one {prog : Program} {w : World} {A : Around} {env : Env} {c : Expr} {s : Shared} {Q : Bool → Shared → Prop} (h : wpAny (model prog w) A (isTrue c env (eval c env)) Q Calm s) :
    wpAny (model prog w) A (forIn [c] true fun c r => if r = true then do let ok ← isTrue c env (eval c env); pure (ForInStep.yield ok) else pure (ForInStep.yield r)) Q Calm s := wpAny_tests_one h
theorem compLoop_calmF {prog : Program} {w : World} {A : Around} {R : Result → Shared → Prop} {s : Shared} {e t i c : Expr} {sc : Scope} {pos : Pos} {it acc : Value} {env : Env} (J : Nat → Shared → Prop)
    (turn : ∀ n s, J n s → wpAny (model prog w) A (pyNext it) (fun r s1 => (r = none → R (.ok .next) s1) ∧ ∀ v, r = some v →
      wpAny (model prog w) A (letOwnedTupleGo t it v) (fun _ s2 => wpAny (model prog w) A (assign t env v) (fun _ s3 => wpAny (model prog w) A (isTrue c env (eval c env)) (fun ok s3' => if ok = true then wpAny (model prog w) A (eval e env) (fun x s4 =>
        wpAny (model prog w) A (call (.builtin "list.append") [acc, x]) (fun _ s5 => ∃ m, m < n ∧ J m s5) Calm s4) Calm s3' else ∃ m, m < n ∧ J m s3') Calm s3) Calm s2) Calm s1) Calm s)
    (n : Nat) (h : J n s) : codeAny (model prog w) A (.compLoop (.ListComp e [⟨t, i, [c], 0⟩] sc pos) 0 it acc env) R s := by
  have eq := compTurn_list e t i [c] sc pos it acc env
  refine codeAny_loop rfl J (fun n s j => wpAny_noted (m := compTurn (.ListComp e [⟨t, i, [c], 0⟩] sc pos) 0 it acc env) ?_) n h
  rw [eq]
  refine wpAny_bind (wpAny_standAt (thenC (turn n s j) fun r s1 q => ?_))
  match r, q with
  | none, q => exact wpAny_pure (q.1 rfl)
  | some v, q =>
    refine thenC (q.2 v rfl) fun _ s2 q2 => thenC q2 fun _ s3 q3 => thenC (tests_one q3) fun ok s4 q4 => ?_
    cases ok with
    | false => exact wpAny_pure ⟨rfl, q4⟩
    | true => exact wpAny_bind (thenC q4 fun x s5 q5 => thenC q5 fun _ s6 q6 => wpAny_pure (wpAny_pure ⟨rfl, q6⟩))
def LcWF (J : It) (g : TG) (tc : TT) (te : TE) (σ : St) (H : Hp) (acc : Addr) (Q : VK) : Prop := ∃ W : Nat → Nat → List V → St → Hp → Prop, (∃ m, W 0 m [] σ (upd H acc (.lst []))) ∧
  ∀ i m ys σ2 H2, W i m ys σ2 H2 → (J.stop i H2 ∧ Q (.ref acc) H2) ∨ (J.go i H2 ∧ ∀ x H3, J.yld i H2 x H3 → g x σ2 H3 fun σ4 H4 => tc σ4 H4 fun b H5 =>
    (b = true → te σ4 H5 fun y H6 => H6 acc = some (.lst ys) ∧ ys.length < sizeLine ∧ ∃ m', m' < m ∧ W (i + 1) m' (ys ++ [y]) σ4 (upd H6 acc (.lst (ys ++ [y])))) ∧ (b = false → ∃ m', m' < m ∧ W (i + 1) m' ys σ4 H5))
def tLcF (mp : List (Option Nat)) (wi : TI) (g : TG) (tc : TT) (te : TE) : TE := fun σ H Q => wi σ H fun J H1 => ∀ acc, H1 acc = none → LcWF J g tc te (sub mp σ) H1 acc Q
section
variable {X : Cx} {elt tg iter cond : Expr} {scope : Scope} {pos : Pos} {wi : TI} {g : TG} {tc : TT} {te : TE} {Nc : List Str} {mp : List (Option Nat)}
theorem lc_runF (hc : X.calm = true) (S : LcOk X.N X.env.scope scope Nc mp) (hg : ∀ ex pins s H, PG (cxLc X scope Nc ex pins s H) tg g) (ht : ∀ ex pins s H, PT (cxLc X scope Nc ex pins s H) cond tc) (he : ∀ ex pins s H, PE (cxLc X scope Nc ex pins s H) elt te)
    {pins : List (Addr × Obj)} {σ : St} {H2 : Hp} {s2 : Shared} {E : Value → Shared → Prop} {it : Addr} {fp : List Addr} {tn : Nat → Heap → Prop} {J : It} {Q : VK} {RR : Value → Addr → Result → Shared → Prop}
    (I2 : Inv X pins σ H2 s2) (T : Turn X.prog X.w X.K tg J fp it tn) (st2 : tn 0 s2.heap) (f2 : ∀ b ∈ fp, FpOk X pins H2 b)
    (q : ∀ acc, H2 acc = none → LcWF J g tc te (sub mp σ) H2 acc Q)
    (fin : ∀ acc C H' s' m', Q (.ref acc) H' → Inv X pins σ H' s' → s'.heap.Ns C m' → H' C = none → X.s₀.heap.objs.size ≤ C → C ≠ X.env.locals → (∀ x c, X.env.cells.lookup x = some c → c ≠ C) → (∀ p ∈ X.pn ++ pins, p.1 ≠ C) → RR (.ref acc) C (.ok .next) s') :
    wpAny (model X.prog X.w) X.A (newList []) (fun acc s₃ => wpAny (model X.prog X.w) X.A (newFunctionEnv scope X.env.globals (clo scope.names X.env.cells) [] X.env.qual none .none (some X.env)) (fun cenv s₄ =>
      codeAny (model X.prog X.w) X.A (.compStart (.ListComp elt [⟨tg, iter, [cond], 0⟩] scope pos) 0 (.ref it) acc { cenv with scope := relabel scope X.env }) (RR acc cenv.locals) s₄) E s₃) E s2 := by
  refine wpAny_newObj_type (wpAny_newFunctionEnv S.nocell (by intro y hy; simp at hy) (fun h₁ hns₁ hsb₁ => ?_) S.kind)
  dsimp only at hns₁ hsb₁ ⊢
  have I3 := I2.lnew (its := []) (ys := []) (t' := s2.toks) .nil (Nat.zero_le _)
  have hacc : H2 s2.heap.objs.size = none := I2.fresh
  obtain ⟨W, ⟨m0, w0⟩, turn⟩ := q s2.heap.objs.size hacc
  have hpush : (s2.heap.push { cls := .type "list", dict := none, data := .seq ([] : List Value).toArray }).objs.size = s2.heap.objs.size + 1 := Heap.size_push ..
  have hlt : ∀ b ∈ fp, b < s2.heap.objs.size := fun b hb => by
    obtain ⟨o, e, _⟩ := T.obj _ _ st2 b hb
    exact Heap.lt_size e
  have f3 : ∀ b ∈ fp, FpOk X pins (upd H2 s2.heap.objs.size (.lst [])) b := fun b hb => ⟨by rw [upd_ne (Nat.ne_of_lt (hlt b hb))]; exact (f2 b hb).1, (f2 b hb).2⟩
  have I3' : Inv X pins σ (upd H2 s2.heap.objs.size (.lst [])) (withList s2) := I3
  have hsz : (withList s2).heap.objs.size = s2.heap.objs.size + 1 := hpush
  have hlt3 : ∀ b ∈ fp, b < (withList s2).heap.objs.size := fun b hb => by rw [hsz]; exact Nat.lt_succ_of_lt (hlt b hb)
  have k3 : ∀ b o, (withList s2).heap.get? b = some o → h₁.get? b = some o := fun b o e => hsb₁.extBut b o (Nat.ne_of_lt (Heap.lt_size e)) (Heap.get?_push_of_some _ e)
  have Ic := lc_start (tk := (withList s2).toks) I3' S f3 hlt3 hns₁ k3
  have st3 : tn 0 h₁ := T.keep _ _ _ st2 fun b hb o e => k3 b o (Heap.get?_push_of_some _ e)
  -- what the block's frame is to the def
  have cC : X.s₀.heap.objs.size ≤ (withList s2).heap.objs.size := I3'.sz
  have cL : (withList s2).heap.objs.size ≠ X.env.locals := Nat.ne_of_gt I3'.lt
  have cc : ∀ x c, X.env.cells.lookup x = some c → c ≠ (withList s2).heap.objs.size := fun x c e => by
    obtain ⟨v, o, ho, _⟩ := I3'.cell x c e
    exact Nat.ne_of_lt (Heap.lt_size ho)
  have cp : ∀ p ∈ X.pn ++ pins, p.1 ≠ (withList s2).heap.objs.size := fun p hp => Nat.ne_of_lt (Heap.lt_size (I3'.pin p hp).1)
  have stat : ∀ {H' : Hp}, (∀ b ∈ fp, H' b = none) → ∀ b ∈ fp, FpOk (cxLc X scope Nc fp pins (withList s2) (upd H2 s2.heap.objs.size (.lst []))) [] H' b := fun hn b hb =>
    ⟨hn b hb, Nat.ne_of_lt (hlt3 b hb), fun z => by
      rcases List.mem_cons.mp (I3'.stkSub b z) with e | e
      · exact (f3 b hb).2.1 e
      · exact (f3 b hb).2.2.1 e, .inl hb, fun x c e => (f3 b hb).2.2.2.2.1 x c (lc_sub I3' S e), fun p hp => (f3 b hb).2.2.2.2.2 p (by
        have : p ∈ (X.pn ++ pins) ++ [] := hp
        simpa using this)⟩
  have loop : ∀ s4 : Shared, s4 = { (withList s2) with heap := h₁, toks := (withList s2).toks } →
      codeAny (model X.prog X.w) X.A (.compLoop (.ListComp elt [⟨tg, iter, [cond], 0⟩] scope pos) 0 (.ref it) (.ref s2.heap.objs.size) (cxLc X scope Nc fp pins (withList s2) (upd H2 s2.heap.objs.size (.lst []))).env)
        (RR (.ref s2.heap.objs.size) (withList s2).heap.objs.size) s4 := by
    rintro s4 rfl
    refine compLoop_calmF (fun n s' => ∃ i ys σ' H', Inv (cxLc X scope Nc fp pins (withList s2) (upd H2 s2.heap.objs.size (.lst []))) [] σ' H' s' ∧ tn i s'.heap ∧ (∀ b ∈ fp, H' b = none) ∧ W i n ys σ' H') ?_ m0
      ⟨0, [], sub mp σ, _, Ic, st3, fun b hb => (f3 b hb).1, w0⟩
    rintro n s5 ⟨i, ys, σ5, H5, I5, st5, fr5, w5⟩
    rcases turn i n ys σ5 H5 w5 with ⟨stop, qn⟩ | ⟨go, step⟩
    · refine wpAny_mono (T.done (cxLc X scope Nc fp pins (withList s2) (upd H2 s2.heap.objs.size (.lst []))) rfl rfl rfl hc i [] s5 σ5 H5 (fun _ _ => False) I5 (stat fr5) st5 stop) (fun r s6 ⟨hr, I6⟩ => ?_) fun _ _ f => f.elim
      subst hr
      obtain ⟨m6, hn6, _⟩ := I6.loc
      refine ⟨fun _ => ?_, fun _ z => nomatch z⟩
      exact fin _ _ H5 s6 m6 qn (lc_end I3' f3 I6) hn6 I6.free cC cL cc cp
    · refine wpAny_mono (T.item (cxLc X scope Nc fp pins (withList s2) (upd H2 s2.heap.objs.size (.lst []))) rfl rfl rfl hc i [] s5 σ5 H5 (fun _ _ => False) I5 (stat fr5) st5 go) (fun r s6 ⟨u, hr, h6⟩ => ?_) fun _ _ f => f.elim
      subst hr
      refine ⟨(fun z => by cases z), ?_⟩
      rintro _ ⟨⟩
      refine wpAny_mono h6 (fun _ s7 ⟨x, H7, I7, r7, y7, st7, fr7⟩ => ?_) fun _ _ f => f.elim
      have I7' := I7.pinned (stat fr7) (T.obj _ _ st7)
      refine wpAny_mono (hg _ _ _ _ _ s7 σ5 H7 x u _ I7' r7 (step x H7 y7)) (fun _ s8 ⟨σ8, H8, I8, q8⟩ => ?_) fun _ _ f => f.elim
      refine wpAny_mono (ht _ _ _ _ _ s8 σ8 H8 _ I8 q8) (fun bb s9 ⟨H9, I9, p9, n9⟩ => ?_) fun _ _ f => f.elim
      have keeps : ∀ {H' : Hp} {s' : Shared}, Inv (cxLc X scope Nc fp pins (withList s2) (upd H2 s2.heap.objs.size (.lst []))) ([] ++ pinsAt fp s7.heap) σ8 H' s' → tn (i + 1) s'.heap ∧ ∀ b ∈ fp, H' b = none := fun {H' s'} J' =>
        ⟨T.keep _ _ _ st7 fun b hb o e => (J'.pin (b, o) (List.mem_append_right _ (List.mem_append_right _ (mem_pinsAt hb e)))).1, fun b hb => by
          obtain ⟨o, e, d⟩ := T.obj _ _ st7 b hb
          exact (J'.pin (b, o) (List.mem_append_right _ (List.mem_append_right _ (mem_pinsAt hb e)))).2.1⟩
      cases bb with
      | false =>
        obtain ⟨m', hm', w9⟩ := n9 rfl
        rw [if_neg Bool.false_ne_true]
        exact ⟨m', hm', i + 1, ys, σ8, H9, I9.unpinned, (keeps I9).1, (keeps I9).2, w9⟩
      | true =>
        rw [if_pos rfl]
        refine wpAny_mono (he _ _ _ _ _ s9 σ8 H9 _ I9 (p9 rfl)) (fun v s10 ⟨y, H10, I10, r10, a10, l10, m', hm', w10⟩ => ?_) fun _ _ f => f.elim
        refine wpAny_mono (mt_append (X := cxLc X scope Nc fp pins (withList s2) (upd H2 s2.heap.objs.size (.lst []))) _ s10 σ8 H10 (.ref s2.heap.objs.size) [y] (.ref s2.heap.objs.size) [v] (fun z Hz => z = .non ∧ Hz = upd H10 s2.heap.objs.size (.lst (ys ++ [y]))) I10 rfl (.cons r10 .nil) ⟨_, ys, y, rfl, rfl, a10, l10, rfl, rfl⟩) (fun v11 s11 ⟨z, H11, I11, _, _, e11⟩ => ?_) fun _ _ f => f.elim
        subst e11
        exact ⟨m', hm', i + 1, ys ++ [y], σ8, _, I11.unpinned, (keeps I11).1, (keeps I11).2, w10⟩
  exact codeAny_compStart_list (loop _ rfl) (T.self _ 0 _ _ _ st3 (loop _ rfl))
theorem pe_lcF (hc : X.calm = true) (S : LcOk X.N X.env.scope scope Nc mp) (hi : PI X tg iter wi) (hg : ∀ ex pins s H, PG (cxLc X scope Nc ex pins s H) tg g) (ht : ∀ ex pins s H, PT (cxLc X scope Nc ex pins s H) cond tc) (he : ∀ ex pins s H, PE (cxLc X scope Nc ex pins s H) elt te)
    (hf : ∀ x, foldedSetIterable iter X.env x = pure x := by intro _; rfl) : PE X (.ListComp elt [⟨tg, iter, [cond], 0⟩] scope pos) (tLcF mp wi g tc te) := by
  intro pins s σ H Q I h
  rw [eval_ListComp]
  refine wpAny_comprehension_free (use := none) rfl hf (closure_eq (lc_cells I S)) S.kind S.names (thn (hi pins s σ H _ I h) fun v s1 h1 => thn h1 fun itv s2 h2 => ?_)
  obtain ⟨it, fp, tn, J, H2, e, I2, T, st2, f2, q⟩ := h2
  subst e
  refine lc_runF (RR := fun acc C => compPost (model X.prog X.w) X.A X.xe none (EP X pins σ Q) acc C) hc S hg ht he I2 T st2 f2 q ?_
  intro acc C H' s' m' qq I' hn hC c1 c2 c3 c4
  refine ⟨m', hn, fun h' hs => ⟨.ref acc, H', ?_, rfl, qq⟩⟩
  exact I'.turnedNew (t' := s'.toks) (fun b o hb e => hs.extBut b o hb e) hC c1 c2 c3 c4
theorem ps_setLcF {i : Nat} {x : Str} {pos' spos : Pos} (hc : X.calm = true) (hN : X.N.Nodup) (hi' : X.N[i]? = some x) (hx : X.env.scope.names.lookup x = some .local) (S : LcOk X.N X.env.scope scope Nc mp) (hi : PI X tg iter wi)
    (hg : ∀ ex pins s H, PG (cxLc X scope Nc ex pins s H) tg g) (ht : ∀ ex pins s H, PT (cxLc X scope Nc ex pins s H) cond tc) (he : ∀ ex pins s H, PE (cxLc X scope Nc ex pins s H) elt te)
    (hsw : swapsWith (.ListComp elt [⟨tg, iter, [cond], 0⟩] scope pos) (some (.Name x pos')) spos.line X.env = pure true)
    (hf : ∀ x, foldedSetIterable iter X.env x = pure x := by intro _; rfl) : PS X (.Assign [.Name x pos'] (.ListComp elt [⟨tg, iter, [cond], 0⟩] scope pos) spos) (tAsg (tLcF mp wi g tc te) (gName i)) := by
  intro pins s σ H D I h
  rw [exec_Assign_Name_used _ _ _ _ hsw]
  refine wpAny_bind (wpAny_standAt (wpAny_bind ?_))
  show wpAny _ X.A (do let _ ← comprehension (.ListComp elt [⟨tg, iter, [cond], 0⟩] scope pos) scope X.env _ (newList []) false (eval iter X.env) (some (assign (.Name x pos') X.env))) _ _ s
  refine wpAny_bind (wpAny_mono (wpAny_comprehension_free (use := some (assign (.Name x pos') X.env)) (Q := fun _ s' => SP X pins D .next s') rfl hf (closure_eq (lc_cells I S)) S.kind S.names
    (thn (hi pins s σ H _ I h) fun v s1 h1 => thn h1 fun itv s2 h2 => ?_)) (fun _ s' hq => wpAny_pure (wpAny_pure hq)) fun _ _ e => e)
  obtain ⟨it, fp, tn, J, H2, e, I2, T, st2, f2, q⟩ := h2
  subst e
  refine lc_runF (Q := fun x H1 => gName i x σ H1 D.nx) (RR := fun acc C => compPost (model X.prog X.w) X.A X.xe (some (assign (.Name x pos') X.env)) (fun _ s' => SP X pins D .next s') acc C) hc S hg ht he I2 T st2 f2 q ?_
  intro acc C H' s' m' qq I' hn hC c1 c2 c3 c4
  show wpAny _ X.A (assign (.Name x pos') X.env (.ref acc)) _ _ _
  refine wpAny_assign_Name (store_ok2 (v := .ref acc) I' hN hi' (.inl hx) rfl (fun s5 I5 ⟨a, hs5, ha⟩ => ?_) (.inr hx))
  have hCa : C ≠ a := by
    rcases ha with z | z
    · rw [z]; exact c2
    · exact Ne.symm (c3 x a z)
  refine ⟨m', hn.sameBut hs5 hCa, fun h' hs => ⟨σ.set i (some (.ref acc)), H', ?_, qq⟩⟩
  exact I5.turnedNew (t' := s5.toks) (fun b o hb e => hs.extBut b o hb e) hC c1 c2 c3 c4
end
end L2

set_option maxHeartbeats 4000000
namespace K95
open PySem PySem.Spec PyProof.Rows L2 Am Pc Ba
theorem ps_never {X : Cx} {st : Stmt} : PS X st (fun _ _ _ => False) := fun _ _ _ _ _ _ h => h.elim
theorem pss_never {X : Cx} {sts : List Stmt} : PSs X sts (fun _ _ _ => False) := fun _ _ _ _ _ _ h => h.elim
theorem unlike_nodup {ns : List Int} (h : ns.Nodup) : unlike ns = ns.length := by
  have key : ∀ i, i ≤ ns.length → (firstMet (fun i => ns.getD i 0) i).length = i := by
    intro i
    induction i with
    | zero => intro _; rfl
    | succ i ih =>
      intro hi
      rw [firstMet_succ, step_length, firstMet_any, if_neg, ih (by omega)]
      intro z
      obtain ⟨y, hy, e⟩ := List.any_eq_true.mp z
      obtain ⟨j, hj, rfl⟩ := List.mem_map.mp hy
      have hj := List.mem_range.mp hj
      have e : ns.getD j 0 = ns.getD i 0 := by simpa using e
      rw [List.getD_eq_getElem?_getD, List.getD_eq_getElem?_getD, List.getElem?_eq_getElem (by omega), List.getElem?_eq_getElem (by omega)] at e
      have := (List.getElem_inj h).mp e
      omega
  exact key _ (Nat.le_refl _)
abbrev NB : List (Str × Int) := [("flip", 1), ("mix", 1), ("turn", 2), ("if", 2), ("pair", 2), ("swap", 2), ("cross", 3)]
abbrev MvT (nm : Str) (ns : List Int) : HO := .tup (.str nm :: ns.map V.int)
def named (nm : Str) (ns : List Int) : List Int := if nm = "turn" then ns.take 1 else ns
structure Form (nm : Str) (ns : List Int) : Prop where
  num : numAt NB nm = some (.int ns.length)
  len : ns.length ≤ 3
  turn : nm = "turn" → ∃ a k, ns = [a, k] ∧ 1 ≤ k ∧ k ≤ 7
structure Fits (nm : Str) (ns : List Int) (c : Nat) : Prop where
  form : Form nm ns
  low : ∀ a ∈ named nm ns, 0 ≤ a ∧ a < c
  nd : (named nm ns).Nodup
def spHasForm : Sp := fun vs H Q _ => ∃ (p : Addr) (nm : Str) (ns : List Int), vs = [.ref p] ∧ H p = some (MvT nm ns) ∧ Form nm ns ∧ ∀ H', Same H H' → Q (.bl true) H'
def spNamed : Sp := fun vs H Q _ => ∃ (p : Addr) (nm : Str) (ns : List Int), vs = [.ref p] ∧ H p = some (MvT nm ns) ∧ Form nm ns ∧ ∀ (r : Addr) (H' : Hp), Same H H' → H' r = some (.tup ((named nm ns).map V.int)) → Q (.ref r) H'
def spCheck : Sp := fun vs H Q _ => ∃ (p : Addr) (nm : Str) (ns : List Int) (c : Nat), vs = [.ref p, .int c] ∧ H p = some (MvT nm ns) ∧ Fits nm ns c ∧ ∀ H', Same H H' → Q (.ref p) H'
theorem at0 {x : V} {xs : List V} : atI (x :: xs) 0 = some x := atI_nat (show (x :: xs)[0]? = some x from rfl)
theorem one_ix {x : V} {xs : List V} : HT.sIx (x :: xs).length 0 (some 1) = 1 := by
  have := HT.sIx_nat (x :: xs).length 0 1
  rw [show ((1 : Nat) : Int) = 1 from rfl] at this
  rw [this]
  simp
theorem cut_one {x : V} {xs : List V} : cutV (x :: xs) (some 1) none = xs := by
  unfold cutV
  rw [one_ix]
  have e2 : HT.sIx (x :: xs).length (x :: xs).length none = (x :: xs).length := rfl
  rw [e2]
  simp
theorem kit_ss (K : PySem.W.Frag) : PySem.W.kitOne K (.type "str") (.type "str") = some true := by unfold PySem.W.kitOne; rw [if_pos (by decide)]
section
variable {P : Program} {w : World} {K : PySem.W.Frag} {mg : Str → Option Value} {base : Heap} {k : Nat} {h : Heap}
theorem sc_iswhole : FnScope ["thing"] ["thing"] (defScope (top 9)) := ⟨rfl, rfl, rfl, by decide +kernel, rfl, by decide +kernel, by decide +kernel⟩
theorem ok_iswhole (F : FunAt K "is_whole" (top 9) .none) (X : K.In h) (G : h.Ns mainGlobals mg) (B : Bs mg) : Cal P w K mg base (k + 1) "is_whole" ["thing"] spWhole := by
  have nd := sc_iswhole.nd
  refine F.cal X G sc_iswhole (bnd1 fun _ _ _ _ _ _ _ => rfl) (fun vs H Q E h => ?_) (fun f cdv A outer s H vs Q E hr h => ?_)
  · obtain ⟨i, rfl, _⟩ := h; rfl
  obtain ⟨i, rfl, q⟩ := h
  refine ⟨_, (@pss_one _ _ _ (ps_ret (pe_and (pe_callB call_isinst rfl B.isinstance boot_isinstance (pa_cons (pv 0) (pa_cons (pe_bltn (v := .ty "int") rfl B.int boot_int rfl) pa_nil))) (pe_one (pe_not (pe_callB call_isinst rfl B.isinstance boot_isinstance (pa_cons (pv 0) (pa_cons (pe_bltn (v := .ty "bool") rfl B.bool boot_bool rfl) pa_nil)))))))), ?_⟩
  try dsimp only [cxK]
  refine ⟨_, rfl, _, _, _, true, rfl, TyOf.int i, kit_ii K, _, rfl, iteT ?_⟩
  exact ⟨_, rfl, _, _, _, false, rfl, TyOf.int i, kit_ib K, _, rfl, q⟩
theorem sc_named : FnScope ["move"] ["move"] (defScope (top 20)) := ⟨rfl, rfl, rfl, by decide +kernel, rfl, by decide +kernel, by decide +kernel⟩
theorem ok_named (F : FunAt K "named_cells" (top 20) .none) (X : K.In h) (G : h.Ns mainGlobals mg) (B : Bs mg) : Cal P w K mg base (k + 1) "named_cells" ["move"] spNamed := by
  have nd := sc_named.nd
  refine F.cal X G sc_named (bnd1 fun _ _ _ _ _ _ _ => rfl) (fun vs H Q E h => ?_) (fun f cdv A outer s H vs Q E hr h => ?_)
  · obtain ⟨p, nm, ns, rfl, _⟩ := h; rfl
  obtain ⟨p, nm, ns, rfl, hp, FO, kq⟩ := h
  have SP : SqT K H p (.str nm :: ns.map V.int) := SqT.of hp
  refine ⟨_, (@pss_one _ _ _ (ps_ret (pe_ifExp (pt_cmpR op_eq (pe_ix ix_tup (pv 0) pe_int (fun _ _ => rfl)) pe_str (nomark _)) (pe_slice sl_tupA (pv 0) (po_some pe_int) (po_some pe_int)) (pe_slice sl_tupA (pv 0) (po_some pe_int) po_none)))), ?_⟩
  try dsimp only [cxK]
  refine ⟨_, rfl, p, _, _, .str nm, rfl, rfl, SP, at0, rfl, _, rfl, decI (fun z => ?_) (fun z => ?_)⟩
  · have e : nm = "turn" := V.str.inj z
    obtain ⟨a, kk, rfl, _⟩ := FO.turn e
    refine ⟨_, rfl, _, rfl, _, rfl, p, _, rfl, SP, .inr ⟨fun c => absurd c.1 (by rw [one_ix]; decide), fun r hr => kq r _ (same_new hr _) ?_⟩⟩
    rw [upd_same]
    unfold named
    rw [if_pos e]
    rfl
  · have e : nm ≠ "turn" := fun c => z (by rw [c])
    refine ⟨_, rfl, _, rfl, p, _, rfl, SP, .inr ⟨fun c => absurd c.1 (by rw [one_ix]; decide), fun r hr => kq r _ (same_new hr _) ?_⟩⟩
    rw [upd_same, cut_one]
    unfold named
    rw [if_neg e]
theorem sc_form : FnScope ["thing"] ["thing"] (defScope (top 19)) := ⟨rfl, rfl, rfl, by decide +kernel, rfl, by decide +kernel, by decide +kernel⟩
theorem ok_form (F : FunAt K "has_move_form" (top 19) .none) (X : K.In h) (G : h.Ns mainGlobals mg) (B : Bs mg) {aN : Addr} (gN : mg "NUMBERS_BEHIND" = some (.ref aN)) (DN : KDic K w.params aN NB) (c_is_whole : Cal P w K mg base k "is_whole" ["thing"] spWhole) :
    Cal P w K mg base (k + 1) "has_move_form" ["thing"] spHasForm := by
  have nd := sc_form.nd
  refine F.cal X G sc_form (bnd1 fun _ _ _ _ _ _ _ => rfl) (fun vs H Q E h => ?_) (fun f cdv A outer s H vs Q E hr h => ?_)
  · obtain ⟨p, nm, ns, rfl, _⟩ := h; rfl
  obtain ⟨p, nm, ns, rfl, hp, FO, kq⟩ := h
  have SP : SqT K H p (.str nm :: ns.map V.int) := SqT.of hp
  have l3 := FO.len
  have lm : (V.str nm :: ns.map V.int).length = ns.length + 1 := by rw [List.length_cons, List.length_map]
  refine ⟨_, (@pss_cons _ _ _ _ _ (ps_if (PW.pt (pw_or (pt_not (pt_val (pe_callB call_isinst rfl B.isinstance boot_isinstance (pa_cons (pv 0) (pa_cons (pe_bltn (v := .ty "tuple") rfl B.tuple boot_tuple rfl) pa_nil))))) (pw_or1 (pt_cmpR op_eq (pe_callB call_len_seq rfl B.len PySem.boot_len (pa_cons (pv 0) pa_nil)) pe_int (nomark _)))))
      (@pss_one _ _ _ (ps_ret pe_bl))
      pss_nil)
    (@pss_cons _ _ _ _ _ (ps_if (PW.pt (pw_or (pt_not (pt_val (pe_callB call_isinst rfl B.isinstance boot_isinstance (pa_cons (pe_ix ix_tup (pv 0) pe_int (fun _ _ => rfl)) (pa_cons (pe_bltn (v := .ty "str") rfl B.str boot_str rfl) pa_nil))))) (pw_or1 (pt_cmp (pc_knotin DN (pe_ix ix_tup (pv 0) pe_int (fun _ _ => rfl)) (pe_glob (v := .ref aN) rfl gN rfl))))))
      (@pss_one _ _ _ (ps_ret pe_bl))
      pss_nil)
    (@pss_cons _ _ _ _ _ (ps_if (pt_cmpR op_ne (pe_callB call_len_seq rfl B.len PySem.boot_len (pa_cons (pv 0) pa_nil)) (pe_op op_add pe_int (pe_kget DN (pe_glob (v := .ref aN) rfl gN rfl) (pe_ix ix_tup (pv 0) pe_int (fun _ _ => rfl)) (fun _ _ => rfl))) (nomark _))
      (@pss_one _ _ _ (ps_ret pe_bl))
      pss_nil)
    (@pss_cons _ _ _ _ _ (ps_if (pt_not (pt_val (pe_callB (call_allL rfl) rfl B.all boot_all (pa_cons (pe_lc rfl (LcOk.of (Nc := ["number"]) (mp := [none]) (by kernel_rfl)) (pi_tup (pe_slice sl_tupA (pv 0) (po_some pe_int) po_none)) (fun _ _ _ _ => (pg_name (i := 0) (show (["number"] : List Str).Nodup by decide +kernel) rfl (Or.inl rfl))) (fun _ _ _ _ => (pe_cal c_is_whole hr rfl (pa_cons (pv 0) pa_nil)))) pa_nil))))
      (@pss_one _ _ _ (ps_ret pe_bl))
      pss_nil)
    (@pss_one _ _ _ (ps_ret (pe_or (pe_cmpR op_ne (pe_ix ix_tup (pv 0) pe_int (fun _ _ => rfl)) pe_str (nomark _)) (pe_one (pe_and (pe_cmpR op_ge (pe_ix ix_tup (pv 0) pe_int (fun _ _ => rfl)) pe_int (nomark _)) (pe_one (pe_cmpR op_le (pe_ix ix_tup (pv 0) pe_int (fun _ _ => rfl)) pe_int (nomark _)))))))))))), ?_⟩
  try dsimp only [cxK]
  refine ⟨_, rfl, _, _, _, true, rfl, TyOf.tup hp, kit_tt K, _, rfl, iteF ⟨_, rfl, p, _, rfl, .inr SP, rfl, _, rfl, eqI (fun z => absurd z (by rw [lm]; omega)) (fun _ => ?_)⟩⟩
  refine ⟨_, rfl, p, _, _, .str nm, rfl, rfl, SP, at0, _, _, _, true, rfl, TyOf.str nm, kit_ss K, _, rfl, iteF ⟨_, rfl, p, _, _, .str nm, rfl, rfl, SP, at0, nm, rfl, _, rfl, ?_⟩⟩
  rw [FO.num]
  refine iteF ⟨_, rfl, p, _, rfl, .inr SP, _, rfl, p, _, _, .str nm, rfl, rfl, SP, at0, nm, _, rfl, FO.num, _, _, rfl, rfl, rfl, _, rfl, neI (fun z => absurd (by rw [lm]; omega) z) (fun _ => ?_)⟩
  refine ⟨_, rfl, _, rfl, p, _, rfl, SP, .inr ⟨fun c => absurd c.1 (by rw [one_ix]; decide), fun r hr => ?_⟩⟩
  rw [cut_one]
  have s1 := same_new hr (.tup (ns.map V.int))
  refine ⟨r, rfl, ⟨_, SqT.of upd_same⟩, fun acc hacc => ?_⟩
  refine lc_tupM (K := K) (fun _ => .bl true) (SqT.of upd_same) (t64 (by omega)) hacc (fun n H2 N hn S2 kN => ⟨_, rfl, n, rfl, kN⟩) (fun H3 S3 a3 => ?_)
  have e : ns.map (fun _ => V.bl true) = (ns.map fun _ => true).map V.bl := by rw [List.map_map]; rfl
  rw [e] at a3
  have S03 := s1.trans S3
  have SP3 : SqT K H3 p (.str nm :: ns.map V.int) := SqT.of (S03 _ _ hp)
  refine ⟨acc, _, rfl, SqL.of a3, _, rfl, nblI (fun z => absurd z (by simp)) (fun _ => ?_)⟩
  refine ⟨_, rfl, p, _, _, .str nm, rfl, rfl, SP3, at0, rfl, _, rfl, nblI (fun _ => kq _ S03) (fun z => ?_)⟩
  obtain ⟨a, kk, rfl, k1, k7⟩ := FO.turn (V.str.inj (of_decide_eq_true z))
  refine ⟨_, rfl, p, _, _, .int kk, rfl, rfl, SP3, rfl, _, _, rfl, rfl, _, rfl, decI (fun _ => ?_) (fun z => absurd k1 z)⟩
  refine ⟨_, rfl, p, _, _, .int kk, rfl, rfl, SP3, rfl, _, _, rfl, rfl, ?_⟩
  show Q (.bl (decide (kk ≤ 7))) H3
  rw [decide_eq_true k7]
  exact kq _ S03
theorem sc_check : FnScope ["move", "cells", "named"] ["move", "cells"] (defScope (top 18)) := ⟨rfl, rfl, rfl, by decide +kernel, rfl, by decide +kernel, by decide +kernel⟩
theorem ok_check (F : FunAt K "check_move" (top 18) .none) (X : K.In h) (G : h.Ns mainGlobals mg) (B : Bs mg) (c_has_move_form : Cal P w K mg base k "has_move_form" ["thing"] spHasForm) (c_named_cells : Cal P w K mg base k "named_cells" ["move"] spNamed) :
    Cal P w K mg base (k + 1) "check_move" ["move", "cells"] spCheck := by
  have nd := sc_check.nd
  refine F.cal X G sc_check (bnd2 fun _ _ _ _ _ _ _ _ => rfl) (fun vs H Q E h => ?_) (fun f cdv A outer s H vs Q E hr h => ?_)
  · obtain ⟨p, nm, ns, c, rfl, _⟩ := h; rfl
  obtain ⟨p, nm, ns, c, rfl, hp, FI, kq⟩ := h
  have l3 : (named nm ns).length ≤ 3 := by
    have := FI.form.len
    unfold named
    split
    · rw [List.length_take]; omega
    · exact this
  refine ⟨_, (@pss_cons _ _ _ _ _ (ps_if (pt_not (pt_val (pe_cal c_has_move_form hr rfl (pa_cons (pv 0) pa_nil))))
      (@pss_one _ _ _ ps_never)
      pss_nil)
    (@pss_cons _ _ _ _ _ (@ps_set _ _ 2 _ _ _ _ nd rfl (Or.inl rfl) (pe_cal c_named_cells hr rfl (pa_cons (pv 0) pa_nil)) rfl (.inl rfl))
    (@pss_cons _ _ _ _ _ (ps_if (pt_val (pe_callB (call_anyL rfl) rfl B.any boot_any (pa_cons (pe_lc rfl (LcOk.of (Nc := ["cell", "cells"]) (mp := [none, some 1]) (by kernel_rfl)) (pi_tup (pv 2)) (fun _ _ _ _ => (pg_name (i := 0) (show (["cell", "cells"] : List Str).Nodup by decide +kernel) rfl (Or.inl rfl))) (fun _ _ _ _ => (pe_or (pe_cmpR op_lt (pv 0) pe_int (nomark _)) (pe_one (pe_cmpR op_ge (pv 0) (pv 1) (nomark _)))))) pa_nil)))
      (@pss_one _ _ _ ps_never)
      pss_nil)
    (@pss_cons _ _ _ _ _ (ps_if (pt_cmpR op_ne (pe_callB call_lenS rfl B.len PySem.boot_len (pa_cons (pe_callTy (call_setT rfl) rfl B.set boot_set (pa_cons (pv 2) pa_nil)) pa_nil)) (pe_callB call_len_seq rfl B.len PySem.boot_len (pa_cons (pv 2) pa_nil)) (nomark _))
      (@pss_one _ _ _ ps_never)
      pss_nil)
    (@pss_one _ _ _ (ps_ret (pv 0))))))), ?_⟩
  try dsimp only [cxK]
  refine ⟨_, rfl, p, nm, ns, rfl, hp, FI.form, fun H1 S1 => ⟨_, rfl, iteF ?_⟩⟩
  refine ⟨_, rfl, p, nm, ns, rfl, S1 _ _ hp, FI.form, fun r H2 S2 hr => ?_⟩
  have SR : SqT K H2 r ((named nm ns).map V.int) := SqT.of hr
  refine ⟨_, rfl, r, rfl, ⟨_, SR⟩, fun acc hacc => ?_⟩
  refine lc_tupM (K := K) (fun _ => .bl false) SR (t64 (by omega)) hacc (fun n H2 N hn S2 kN => ?_) (fun H3 S3 a3 => ?_)
  · obtain ⟨n0, nc⟩ := FI.low n hn
    refine ⟨_, rfl, _, _, rfl, rfl, _, rfl, decI (fun z => absurd z (by omega)) (fun _ => ?_)⟩
    refine ⟨_, rfl, _, rfl, _, _, rfl, rfl, ?_⟩
    show N (.bl (decide ((c : Int) ≤ n))) _
    rw [decide_eq_false (by omega)]
    exact kN
  have e : (named nm ns).map (fun _ => V.bl false) = ((named nm ns).map fun _ => false).map V.bl := by rw [List.map_map]; rfl
  rw [e] at a3
  refine ⟨acc, _, rfl, SqL.of a3, _, rfl, ?_⟩
  rw [show ((named nm ns).map fun _ => false).any id = false by simp]
  refine iteF ?_
  refine ⟨_, rfl, r, _, rfl, S3.tup SR, by omega, fun l S hl => ?_⟩
  have s4 := same_new hl (.set S (unlike (named nm ns)))
  have un := unlike_nodup FI.nd
  refine ⟨l, S, _, rfl, upd_same, by omega, _, rfl, r, _, rfl, .inr (s4.tup (S3.tup SR)), rfl, _, rfl, neI (fun z => absurd (by rw [un, List.length_map]) z) (fun _ => ?_)⟩
  exact ⟨_, rfl, kq _ (((S1.trans S2).trans S3).trans s4)⟩
end
end K95

set_option maxHeartbeats 4000000
namespace L2
open PySem PySem.Spec PyProof.Rows
/-! a def that is called with fewer arguments, or by a keyword -/
section
variable {X : Cx} {k : Nat} {x : Str} {ps ks : List Str} {sp : Sp} {p pos : Pos} {e : Expr} {es : List Expr} {t tk : TA} {dvs : List V} {gV : List V → List V → List V} {kws : List Keyword}
end
theorem range_mapV (xs : List V) (f : V → V) : (List.range xs.length).map (fun i => f (xs.getD i .non)) = xs.map f := by
  apply List.ext_getElem
  · simp
  · intro i h1 h2
    simp at h1
    simp [h1]
theorem lc_tupV {K : PySem.W.Frag} {a : Addr} {xs : List V} {te : TE} {fr : St} {H1 : Hp} {acc : Addr} {Q : VK} (f : V → V) (hl : SqT K H1 a xs) (hn : xs.length ≤ sizeLine) (hacc : H1 acc = none) (hs : ∀ v H (N : V → Hp → Prop), v ∈ xs → Same H1 H → N (f v) H → te (some v :: fr) H N)
    (hd : ∀ H2, Same H1 H2 → H2 acc = some (.lst (xs.map f)) → Q (.ref acc) H2) : LcW (Itt K a) (gName 0) te (none :: fr) H1 acc Q := by
  refine lc_pure (n := xs.length) (val := fun i => xs.getD i .non) (fun i => f (xs.getD i .non)) hn hacc (fun i H hi s => ?_) (fun H s => ⟨_, s.tup hl, by simp⟩) (fun i H N hi s kN => hs _ H N (by simp [hi]) s kN) (fun H2 s h => hd H2 s (by rw [h, range_mapV]))
  have e : xs[i]? = some (xs.getD i .non) := by simp [hi]
  refine ⟨⟨_, _, s.tup hl, e⟩, fun x H' y => ⟨y.1, ?_⟩⟩
  have := y.2 _ (s.tup hl)
  rw [e] at this
  exact (Option.some.inj this).symm
end L2
namespace Pt
open PySem PySem.Spec PyProof.Rows L2
def isI : V → Bool
  | .int _ => true
  | _ => false
structure Part (K : PySem.W.Frag) (H : Hp) (v : V) : Prop where
  ex : ∃ t b1 b2, TyOf K H v t ∧ PySem.W.kitOne K t (.type "int") = some b1 ∧ PySem.W.kitOne K t (.type "bool") = some b2 ∧ (b1 && !b2) = isI v
theorem kit_tt (K : PySem.W.Frag) : PySem.W.kitOne K (.type "tuple") (.type "tuple") = some true := by unfold PySem.W.kitOne; rw [if_pos (by decide)]
section
variable {K : PySem.W.Frag} {H : Hp}
theorem Part.int (i : Int) : Part K H (.int i) := ⟨_, true, false, .int i, kit_ii K, kit_ib K, rfl⟩
theorem Part.bl (b : Bool) : Part K H (.bl b) := ⟨_, true, true, .bl b, by with_unfolding_all rfl, kit_bb K, rfl⟩
theorem Part.non : Part K H .non := ⟨_, false, false, .non, by with_unfolding_all rfl, by with_unfolding_all rfl, rfl⟩
theorem Part.str (x : Str) : Part K H (.str x) := ⟨_, false, false, .str x, by with_unfolding_all rfl, by with_unfolding_all rfl, rfl⟩
theorem Part.lst {a : Addr} {xs : List V} (e : H a = some (.lst xs)) : Part K H (.ref a) := ⟨_, false, false, .lst e, by with_unfolding_all rfl, by with_unfolding_all rfl, rfl⟩
theorem Part.tup {a : Addr} {xs : List V} (e : H a = some (.tup xs)) : Part K H (.ref a) := ⟨_, false, false, .tup e, by with_unfolding_all rfl, by with_unfolding_all rfl, rfl⟩
theorem Part.dic {a : Addr} {xs : List (Key × V)} (e : H a = some (.dK xs)) : Part K H (.ref a) := ⟨_, false, false, .dK e, by with_unfolding_all rfl, by with_unfolding_all rfl, rfl⟩
end
theorem Part.flat {K : PySem.W.Frag} {H : Hp} {v : V} (h : flatV v = true) : Part K H v := by
  cases v with
  | int i => exact Part.int i
  | bl b => exact Part.bl b
  | non => exact Part.non
  | str x => exact Part.str x
  | _ => cases h
def Thg (H : Hp) (v : V) : Prop := flatV v = true ∨ ∃ p, v = .ref p ∧ ((∃ xs, H p = some (.lst xs)) ∨ (∃ xs, H p = some (.tup xs)) ∨ ∃ xs, H p = some (.dK xs))
theorem Thg.same {H H' : Hp} {v : V} (t : Thg H v) (s : Same H H') : Thg H' v := by
  rcases t with t | ⟨p, e, ⟨xs, h⟩ | ⟨xs, h⟩ | ⟨xs, h⟩⟩
  · exact .inl t
  · exact .inr ⟨p, e, .inl ⟨xs, s _ _ h⟩⟩
  · exact .inr ⟨p, e, .inr (.inl ⟨xs, s _ _ h⟩)⟩
  · exact .inr ⟨p, e, .inr (.inr ⟨xs, s _ _ h⟩)⟩
theorem Thg.part {K : PySem.W.Frag} {H : Hp} {v : V} (t : Thg H v) : Part K H v := by
  rcases t with t | ⟨p, rfl, ⟨xs, h⟩ | ⟨xs, h⟩ | ⟨xs, h⟩⟩
  · exact Part.flat t
  · exact Part.lst h
  · exact Part.tup h
  · exact Part.dic h
def spIsWhole (K : PySem.W.Frag) : Sp := fun vs H Q _ => ∃ v, vs = [v] ∧ Part K H v ∧ Q (.bl (isI v)) H
end Pt

set_option maxHeartbeats 4000000
namespace K95
open PySem PySem.Spec PyProof.Rows L2 Am Pc Ba
open Pt hiding kit_tt
theorem TyOf.same {K : PySem.W.Frag} {H H' : Hp} {v : V} {t : Value} (ty : TyOf K H v t) (s : Same H H') : TyOf K H' v t := by
  cases ty with
  | non => exact .non
  | bl b => exact .bl b
  | int i => exact .int i
  | str x => exact .str x
  | flt x => exact .flt x
  | lst e => exact .lst (s _ _ e)
  | frz e => exact .frz (s _ _ e)
  | tup e => exact .tup (s _ _ e)
  | dK e => exact .dK (s _ _ e)
  | dT e => exact .dT (s _ _ e)
  | ins e cl ha hn htk hm => exact .ins (s _ _ e) cl ha hn htk hm
inductive NoForm (K : PySem.W.Frag) (H : Hp) : V → Prop where
  | odd {v : V} {t : Value} (ty : TyOf K H v t) (e : PySem.W.kitOne K t (.type "tuple") = some false) : NoForm K H v
  | nil {p : Addr} (e : H p = some (.tup [])) : NoForm K H (.ref p)
  | head {p : Addr} {x : V} {xs : List V} {t : Value} (e : H p = some (.tup (x :: xs))) (ty : TyOf K H x t) (e' : PySem.W.kitOne K t (.type "str") = some false) : NoForm K H (.ref p)
  | name {p : Addr} {nm : Str} {xs : List V} (e : H p = some (.tup (.str nm :: xs))) (z : numAt NB nm = none) : NoForm K H (.ref p)
  | size {p : Addr} {nm : Str} {xs : List V} {n : Int} (e : H p = some (.tup (.str nm :: xs))) (z : numAt NB nm = some (.int n)) (l : (xs.length : Int) ≠ n) : NoForm K H (.ref p)
  | part {p : Addr} {nm : Str} {xs : List V} (e : H p = some (.tup (.str nm :: xs))) (z : numAt NB nm = some (.int xs.length)) (l : xs.length ≤ 3) (all : ∀ x ∈ xs, Thg H x) (no : ∃ x ∈ xs, isI x = false) : NoForm K H (.ref p)
  | turn {p : Addr} {a k : Int} (e : H p = some (MvT "turn" [a, k])) (z : k < 1 ∨ 7 < k) : NoForm K H (.ref p)
def spNoForm (K : PySem.W.Frag) : Sp := fun vs H Q _ => ∃ v : V, vs = [v] ∧ NoForm K H v ∧ ∀ H', Same H H' → Q (.bl false) H'
section
variable {P : Program} {w : World} {K : PySem.W.Frag} {mg : Str → Option Value} {base : Heap} {k : Nat} {h : Heap}
theorem ok_iswholeP (F : FunAt K "is_whole" (top 9) .none) (X : K.In h) (G : h.Ns mainGlobals mg) (B : Bs mg) : Cal P w K mg base (k + 1) "is_whole" ["thing"] (spIsWhole K) := by
  have nd := sc_iswhole.nd
  refine F.cal X G sc_iswhole (bnd1 fun _ _ _ _ _ _ _ => rfl) (fun vs H Q E h => ?_) (fun f cdv A outer s H vs Q E hr h => ?_)
  · obtain ⟨v, rfl, _⟩ := h; rfl
  obtain ⟨v, rfl, ⟨t, b1, b2, ty, e1, e2, e3⟩, q⟩ := h
  refine ⟨_, (@pss_one _ _ _ (ps_ret (pe_and (pe_callB call_isinst rfl B.isinstance boot_isinstance (pa_cons (pv 0) (pa_cons (pe_bltn (v := .ty "int") rfl B.int boot_int rfl) pa_nil))) (pe_one (pe_not (pe_callB call_isinst rfl B.isinstance boot_isinstance (pa_cons (pv 0) (pa_cons (pe_bltn (v := .ty "bool") rfl B.bool boot_bool rfl) pa_nil)))))))), ?_⟩
  try dsimp only [cxK]
  refine ⟨_, rfl, _, _, _, b1, rfl, ty, e1, _, rfl, blI (fun z => ?_) (fun z => ?_)⟩
  · subst z
    refine ⟨_, rfl, _, _, _, b2, rfl, ty, e2, _, rfl, ?_⟩
    rw [Bool.true_and] at e3
    rw [e3]
    exact q
  · subst z
    rw [Bool.false_and] at e3
    rw [e3]
    exact q
theorem ok_noform (F : FunAt K "has_move_form" (top 19) .none) (X : K.In h) (G : h.Ns mainGlobals mg) (B : Bs mg) {aN : Addr} (gN : mg "NUMBERS_BEHIND" = some (.ref aN)) (DN : KDic K w.params aN NB) (c_is_whole : Cal P w K mg base k "is_whole" ["thing"] (spIsWhole K)) :
    Cal P w K mg base (k + 1) "has_move_form" ["thing"] (spNoForm K) := by
  have nd := sc_form.nd
  refine F.cal X G sc_form (bnd1 fun _ _ _ _ _ _ _ => rfl) (fun vs H Q E h => ?_) (fun f cdv A outer s H vs Q E hr h => ?_)
  · obtain ⟨v, rfl, _⟩ := h; rfl
  obtain ⟨v, rfl, NF, kq⟩ := h
  refine ⟨_, (@pss_cons _ _ _ _ _ (ps_if (PW.pt (pw_or (pt_not (pt_val (pe_callB call_isinst rfl B.isinstance boot_isinstance (pa_cons (pv 0) (pa_cons (pe_bltn (v := .ty "tuple") rfl B.tuple boot_tuple rfl) pa_nil))))) (pw_or1 (pt_cmpR op_eq (pe_callB call_len_seq rfl B.len PySem.boot_len (pa_cons (pv 0) pa_nil)) pe_int (nomark _)))))
      (@pss_one _ _ _ (ps_ret pe_bl))
      pss_nil)
    (@pss_cons _ _ _ _ _ (ps_if (PW.pt (pw_or (pt_not (pt_val (pe_callB call_isinst rfl B.isinstance boot_isinstance (pa_cons (pe_ix ix_tup (pv 0) pe_int (fun _ _ => rfl)) (pa_cons (pe_bltn (v := .ty "str") rfl B.str boot_str rfl) pa_nil))))) (pw_or1 (pt_cmp (pc_knotin DN (pe_ix ix_tup (pv 0) pe_int (fun _ _ => rfl)) (pe_glob (v := .ref aN) rfl gN rfl))))))
      (@pss_one _ _ _ (ps_ret pe_bl))
      pss_nil)
    (@pss_cons _ _ _ _ _ (ps_if (pt_cmpR op_ne (pe_callB call_len_seq rfl B.len PySem.boot_len (pa_cons (pv 0) pa_nil)) (pe_op op_add pe_int (pe_kget DN (pe_glob (v := .ref aN) rfl gN rfl) (pe_ix ix_tup (pv 0) pe_int (fun _ _ => rfl)) (fun _ _ => rfl))) (nomark _))
      (@pss_one _ _ _ (ps_ret pe_bl))
      pss_nil)
    (@pss_cons _ _ _ _ _ (ps_if (pt_not (pt_val (pe_callB (call_allL rfl) rfl B.all boot_all (pa_cons (pe_lc rfl (LcOk.of (Nc := ["number"]) (mp := [none]) (by kernel_rfl)) (pi_tup (pe_slice sl_tupA (pv 0) (po_some pe_int) po_none)) (fun _ _ _ _ => (pg_name (i := 0) (show (["number"] : List Str).Nodup by decide +kernel) rfl (Or.inl rfl))) (fun _ _ _ _ => (pe_cal c_is_whole hr rfl (pa_cons (pv 0) pa_nil)))) pa_nil))))
      (@pss_one _ _ _ (ps_ret pe_bl))
      pss_nil)
    (@pss_one _ _ _ (ps_ret (pe_or (pe_cmpR op_ne (pe_ix ix_tup (pv 0) pe_int (fun _ _ => rfl)) pe_str (nomark _)) (pe_one (pe_and (pe_cmpR op_ge (pe_ix ix_tup (pv 0) pe_int (fun _ _ => rfl)) pe_int (nomark _)) (pe_one (pe_cmpR op_le (pe_ix ix_tup (pv 0) pe_int (fun _ _ => rfl)) pe_int (nomark _)))))))))))), ?_⟩
  try dsimp only [cxK]
  have s0 := Same.refl H
  -- a tuple with something in it
  cases NF with
  | odd ty e => exact ⟨_, rfl, _, _, _, false, rfl, ty, e, _, rfl, iteT (kq _ s0)⟩
  | @nil p e => exact ⟨_, rfl, _, _, _, true, rfl, TyOf.tup e, kit_tt K, _, rfl, iteF ⟨_, rfl, p, _, rfl, .inr (SqT.of e), rfl, _, rfl, eqI (fun _ => kq _ s0) (fun z => absurd rfl z)⟩⟩
  | @head p x xs t e ty e' =>
    refine ⟨_, rfl, _, _, _, true, rfl, TyOf.tup e, kit_tt K, _, rfl, iteF ⟨_, rfl, p, _, rfl, .inr (SqT.of e), rfl, _, rfl, eqI (fun z => absurd z (by simp; omega)) (fun _ => ?_)⟩⟩
    exact ⟨_, rfl, p, _, _, x, rfl, rfl, SqT.of e, at0, _, _, _, false, rfl, ty, e', _, rfl, iteT (kq _ s0)⟩
  | @name p nm xs e z =>
    refine ⟨_, rfl, _, _, _, true, rfl, TyOf.tup e, kit_tt K, _, rfl, iteF ⟨_, rfl, p, _, rfl, .inr (SqT.of e), rfl, _, rfl, eqI (fun z => absurd z (by simp; omega)) (fun _ => ?_)⟩⟩
    refine ⟨_, rfl, p, _, _, .str nm, rfl, rfl, SqT.of e, at0, _, _, _, true, rfl, TyOf.str nm, kit_ss K, _, rfl, iteF ⟨_, rfl, p, _, _, .str nm, rfl, rfl, SqT.of e, at0, nm, rfl, _, rfl, ?_⟩⟩
    rw [z]
    exact iteT (kq _ s0)
  | @size p nm xs n e z l =>
    refine ⟨_, rfl, _, _, _, true, rfl, TyOf.tup e, kit_tt K, _, rfl, iteF ⟨_, rfl, p, _, rfl, .inr (SqT.of e), rfl, _, rfl, eqI (fun z => absurd z (by simp; omega)) (fun _ => ?_)⟩⟩
    refine ⟨_, rfl, p, _, _, .str nm, rfl, rfl, SqT.of e, at0, _, _, _, true, rfl, TyOf.str nm, kit_ss K, _, rfl, iteF ⟨_, rfl, p, _, _, .str nm, rfl, rfl, SqT.of e, at0, nm, rfl, _, rfl, ?_⟩⟩
    rw [z]
    exact iteF ⟨_, rfl, p, _, rfl, .inr (SqT.of e), _, rfl, p, _, _, .str nm, rfl, rfl, SqT.of e, at0, nm, _, rfl, z, _, _, rfl, rfl, rfl, _, rfl, neI (fun _ => kq _ s0) (fun q => absurd q (by simp; omega))⟩
  | @part p nm xs e z l all no =>
    refine ⟨_, rfl, _, _, _, true, rfl, TyOf.tup e, kit_tt K, _, rfl, iteF ⟨_, rfl, p, _, rfl, .inr (SqT.of e), rfl, _, rfl, eqI (fun z => absurd z (by simp; omega)) (fun _ => ?_)⟩⟩
    refine ⟨_, rfl, p, _, _, .str nm, rfl, rfl, SqT.of e, at0, _, _, _, true, rfl, TyOf.str nm, kit_ss K, _, rfl, iteF ⟨_, rfl, p, _, _, .str nm, rfl, rfl, SqT.of e, at0, nm, rfl, _, rfl, ?_⟩⟩
    rw [z]
    refine iteF ⟨_, rfl, p, _, rfl, .inr (SqT.of e), _, rfl, p, _, _, .str nm, rfl, rfl, SqT.of e, at0, nm, _, rfl, z, _, _, rfl, rfl, rfl, _, rfl, neI (fun q => absurd (by simp; omega) q) (fun _ => ?_)⟩
    refine ⟨_, rfl, _, rfl, p, _, rfl, SqT.of e, .inr ⟨fun c => absurd c.1 (by rw [one_ix]; decide), fun r hr => ?_⟩⟩
    rw [cut_one]
    have s1 := same_new hr (.tup xs)
    refine ⟨r, rfl, ⟨_, SqT.of upd_same⟩, fun acc hacc => ?_⟩
    refine lc_tupV (K := K) (fun v => .bl (isI v)) (SqT.of upd_same) (t64 (by omega)) hacc (fun v H2 N hv S2 kN => ⟨_, rfl, v, rfl, (((all v hv).same s1).same S2).part, kN⟩) (fun H3 S3 a3 => ?_)
    have e3 : xs.map (fun v => V.bl (isI v)) = (xs.map isI).map V.bl := by rw [List.map_map]; rfl
    rw [e3] at a3
    have al : (xs.map isI).all id = false := by
      obtain ⟨x, hx, ex⟩ := no
      rw [List.all_eq_false]
      exact ⟨false, List.mem_map.mpr ⟨x, hx, ex⟩, by simp⟩
    refine ⟨acc, _, rfl, SqL.of a3, _, rfl, ?_⟩
    rw [al]
    exact iteT (kq _ (s1.trans S3))
  | @turn p a kk e z =>
    have nt : numAt NB "turn" = some (.int 2) := by decide
    refine ⟨_, rfl, _, _, _, true, rfl, TyOf.tup e, kit_tt K, _, rfl, iteF ⟨_, rfl, p, _, rfl, .inr (SqT.of e), rfl, _, rfl, eqI (fun z => absurd z (by simp)) (fun _ => ?_)⟩⟩
    refine ⟨_, rfl, p, _, _, .str "turn", rfl, rfl, SqT.of e, at0, _, _, _, true, rfl, TyOf.str "turn", kit_ss K, _, rfl, iteF ⟨_, rfl, p, _, _, .str "turn", rfl, rfl, SqT.of e, at0, "turn", rfl, _, rfl, ?_⟩⟩
    rw [nt]
    refine iteF ⟨_, rfl, p, _, rfl, .inr (SqT.of e), _, rfl, p, _, _, .str "turn", rfl, rfl, SqT.of e, at0, "turn", _, rfl, nt, _, _, rfl, rfl, rfl, _, rfl, neI (fun q => absurd rfl q) (fun _ => ?_)⟩
    refine ⟨_, rfl, _, rfl, p, _, rfl, SqT.of e, .inr ⟨fun c => absurd c.1 (by rw [one_ix]; decide), fun r hr => ?_⟩⟩
    rw [cut_one]
    have s1 := same_new hr (.tup ([a, kk].map V.int))
    refine ⟨r, rfl, ⟨_, SqT.of upd_same⟩, fun acc hacc => ?_⟩
    refine lc_tupM (K := K) (ns := [a, kk]) (fun _ => .bl true) (SqT.of upd_same) (t64 (by simp)) hacc (fun n H2 N hn S2 kN => ⟨_, rfl, .int n, rfl, Part.int n, kN⟩) (fun H3 S3 a3 => ?_)
    have S03 := s1.trans S3
    have SP3 : SqT K H3 p (.str "turn" :: [a, kk].map V.int) := SqT.of (S03 _ _ e)
    refine ⟨acc, [true, true], rfl, SqL.of a3, _, rfl, iteF ?_⟩
    refine ⟨_, rfl, p, _, _, .str "turn", rfl, rfl, SP3, at0, rfl, _, rfl, ?_⟩
    show if (!decide (V.str "turn" = V.str "turn")) = true then _ else _
    rw [decide_eq_true rfl]
    refine iteF ⟨_, rfl, p, _, _, .int kk, rfl, rfl, SP3, rfl, _, _, rfl, rfl, _, rfl, decI (fun k1 => ?_) (fun k1 => ?_)⟩
    · refine ⟨_, rfl, p, _, _, .int kk, rfl, rfl, SP3, rfl, _, _, rfl, rfl, ?_⟩
      show Q (.bl (decide (kk ≤ 7))) H3
      rw [decide_eq_false (by omega)]
      exact kq _ S03
    · exact kq _ S03
end
end K95

set_option maxHeartbeats 4000000
/-! an exception leaves a def: what is kept, exactly -/
namespace Fx
open PySem PySem.Spec PyProof.Rows
def Tr (di : Option Addr) (e T : Addr) (cls fl : Value) (h : Heap) : Prop := ∃ oe vs oT ts, h.get? e = some oe ∧ (oe.cls = cls ∧ oe.dict = di) ∧ oe.data = .fields vs ∧ (vs[1]? = some (.ref T) ∧ vs[2]? = some .none) ∧ T ≠ e ∧ h.get? T = some oT ∧ oT.data = .fields ts ∧ ts[3]? = some fl ∧ 3 < ts.size
structure Kp (fs xs : List Addr) (h h' : Heap) : Prop where
  keep : ∀ b o, h.get? b = some o → b ∉ fs → b ∉ xs → h'.get? b = some o
  slot : ∀ b o, h.get? b = some o → b ∉ xs → ∃ sl, h'.get? b = some { o with slots := sl }
  there : ∀ b o, h.get? b = some o → ∃ o', h'.get? b = some o'
/-! what is kept, put together from single changes -/
section
variable {fs xs : List Addr} {h h1 h2 : Heap}
theorem Kp.trans (p : Kp fs xs h h1) (q : Kp fs xs h1 h2) : Kp fs xs h h2 where
  keep := fun b o e n m => q.keep b o (p.keep b o e n m) n m
  slot := fun b o e m => by
    obtain ⟨sl, e1⟩ := p.slot b o e m
    obtain ⟨sl2, e2⟩ := q.slot b _ e1 m
    exact ⟨sl2, e2⟩
  there := fun b o e => by
    obtain ⟨o1, e1⟩ := p.there b o e
    exact q.there b o1 e1
theorem Kp.same (k : ∀ b o, h.get? b = some o → h1.get? b = some o) : Kp fs xs h h1 := ⟨fun b o e _ _ => k b o e, fun b o e _ => ⟨o.slots, k b o e⟩, fun b o e => ⟨o, k b o e⟩⟩
theorem Kp.new (o : Obj) : Kp fs xs h (h.push o) := .same fun _ _ e => Heap.get?_push_of_some _ e
theorem Kp.slots (p : Heap.SlotsOnly fs h h1) : Kp fs xs h h1 where
  keep := fun b o e n _ => (p.2.1 b n).trans e
  slot := fun b o e _ => p.2.2 b o e
  there := fun b o e => let ⟨_, q⟩ := p.2.2 b o e; ⟨_, q⟩
theorem Kp.field {a : Addr} {o : Obj} {vs : Array Value} {f : Array Value → Array Value} (ha : a ∈ xs) (e : h.get? a = some o) (d : o.data = .fields vs) : Kp fs xs h (h.update a (Obj.mapFields f)) := by
  have k : ∀ b u, b ≠ a → h.get? b = some u → (h.update a (Obj.mapFields f)).get? b = some u := fun b u n q => (Heap.get?_update_other _ _ n.symm).trans q
  have at_a := Heap.get?_update_self (Obj.mapFields f) e (Obj.isFreed_of_fields (Obj.data_mapFields d f))
  exact ⟨fun b u q _ m => k b u (fun z => m (z ▸ ha)) q, fun b u q m => ⟨u.slots, k b u (fun z => m (z ▸ ha)) q⟩, fun b u q => (Classical.em (b = a)).elim (fun z => ⟨o.mapFields f, by rw [z]; exact at_a⟩) fun z => ⟨u, k b u z q⟩⟩
theorem Kp.fresh (p : Kp fs xs h h1) {b : Addr} (e : h1.get? b = none) : h.get? b = none := by
  cases q : h.get? b with
  | none => rfl
  | some o => obtain ⟨o', e'⟩ := p.there b o q; rw [e] at e'; cases e'
end
def Rec (h : Heap) (a : Addr) (o : Obj) (vs : Array Value) : Prop := h.get? a = some o ∧ o.data = .fields vs
theorem Rec.put {h : Heap} {a : Addr} {o : Obj} {vs : Array Value} (r : Rec h a o vs) (f : Array Value → Array Value) : Rec (h.update a (Obj.mapFields f)) a (o.mapFields f) (f vs) :=
  ⟨Heap.get?_update_self _ r.1 (Obj.isFreed_of_fields (Obj.data_mapFields r.2 f)), Obj.data_mapFields r.2 f⟩
theorem Rec.off {h : Heap} {a b : Addr} {o : Obj} {vs : Array Value} (r : Rec h a o vs) (n : a ≠ b) (f : Obj → Obj) : Rec (h.update b f) a o vs := ⟨(Heap.get?_update_other _ _ n.symm).trans r.1, r.2⟩
theorem put_cls (o : Obj) (f : Array Value → Array Value) : (o.mapFields f).cls = o.cls ∧ (o.mapFields f).dict = o.dict := by
  obtain ⟨c, d, dt, sl⟩ := o
  cases dt <;> exact ⟨rfl, rfl⟩
theorem Tr.of {h : Heap} {e T : Addr} {oe oT : Obj} {vs ts : Array Value} {cls fl : Value} (r : Rec h e oe vs) (c : oe.cls = cls ∧ oe.dict = di) (r' : Rec h T oT ts) (n : T ≠ e) (v : vs[1]? = some (.ref T) ∧ vs[2]? = some .none) (t : ts[3]? = some fl) (z : 3 < ts.size) : Tr di e T cls fl h :=
  ⟨oe, vs, oT, ts, r.1, c, r.2, v, n, r'.1, r'.2, t, z⟩
section
variable {M : Model} {A : Around} {E : Value → Shared → Prop} {s : Shared}
theorem hung {base : Heap} {env : Env} {outer : List Env} {L e : Addr} {oe : Obj} {vs : Array Value} {head : Value} {b : Bool} {xs : List Addr} {Q : Unit → Shared → Prop}
    (ha : A.frames = some (env :: outer)) (hf : s.heap.FunFrames base (env :: outer)) (hl : env.frame = some L) (r : Rec s.heap e oe vs) (hd : oe.dict = di) (two : 1 < vs.size) (ctx : vs[2]? = some .none) (he : e ∈ xs)
    (k : ∀ h' T, s.heap.get? T = none → Tr di e T oe.cls .none h' → Kp ((env :: outer).filterMap (·.frame)) xs s.heap h' → Q () { s with heap := h' }) :
    wpAny M A (do let a ← frameOf env; let pl ← entryPlaceOf L b; let t ← EntryCells.newEntry head a .none (rawInt L) .none pl; setField (.ref e) 1 t) (fun _ s' => wpAny M A (setFlight (.ref e) none) Q E s') E s := by
  have nf : e ∉ (env :: outer).filterMap (·.frame) := fun z => by
    obtain ⟨_, o, q, n⟩ := hf.mem z
    exact n vs (Option.some.inj (r.1.symm.trans q) ▸ r.2)
  refine wpAny_bind (wpAny_frameOf_fun ha hf hl fun h1 sl => wpAny_bind (wpAny_entryPlaceOf fun pl place => wpAny_bind ?_))
  have p1 : Kp ((env :: outer).filterMap (·.frame)) xs s.heap h1 := .slots sl
  have r1 : Rec h1 e oe vs := ⟨(sl.2.1 e nf).trans r.1, r.2⟩
  have ne : h1.objs.size ≠ e := Nat.ne_of_gt (Heap.lt_size r1.1)
  have new : s.heap.get? h1.objs.size = none := p1.fresh (Heap.get?_none_of_le (Nat.le_refl _))
  simp only [EntryCells.newEntry, newFields]
  refine wpAny_newObj_type ?_ (place.sizeOk5 _ _ _ _ _)
  obtain ⟨o, ho, ts, d, t3, tz⟩ : ∃ o : Obj, o = { cls := .type "traceback", dict := none, data := .fields ([head, .ref L, .none, rawInt L, .none] ++ (if pl.isEmpty then List.replicate 6 Value.none else pl)).toArray } ∧ ∃ ts : Array Value, o.data = .fields ts ∧ ts[3]? = some (rawInt L) ∧ 3 < ts.size := by
    refine ⟨_, rfl, _, rfl, ?_, ?_⟩
    · rcases place with rfl | ⟨_, _, _, _, _, _, _, rfl⟩ <;> simp
    · simp only [List.size_toArray, List.length_append, List.length_cons, List.length_nil]; omega
  rw [← ho]
  have r2 : Rec (h1.push o) e oe vs := ⟨Heap.get?_push_of_some _ r1.1, r1.2⟩
  have n2 : Rec (h1.push o) h1.objs.size o ts := ⟨Heap.get?_push_size _ (Obj.isFreed_of_fields d), d⟩
  have p2 := p1.trans (Kp.new o)
  refine wpAny_setField r2.1 r2.2 two ?_
  have r3 := r2.put (·.setIfInBounds 1 (Value.ref h1.objs.size))
  have n3 := n2.off ne (Obj.mapFields (·.setIfInBounds 1 (Value.ref h1.objs.size)))
  have p3 := p2.trans (Kp.field (f := (·.setIfInBounds 1 (Value.ref h1.objs.size))) he r2.1 r2.2)
  have v1 : (vs.setIfInBounds 1 (Value.ref h1.objs.size))[1]? = some (.ref h1.objs.size) := by simp [two]
  refine wpAny_setFlight_none r3.1 r3.2 v1 n3.1 n3.2 tz (k _ h1.objs.size new ?_ ?_)
  · have c := put_cls oe (·.setIfInBounds 1 (Value.ref h1.objs.size))
    exact Tr.of (r3.off ne.symm _) ⟨c.1, c.2.trans hd⟩ (n3.put _) ne ⟨v1, by rw [Array.getElem?_setIfInBounds_ne (by decide)]; exact ctx⟩ (by simp [tz]) (by simpa using tz)
  · have q : ∀ b u, b ≠ h1.objs.size → Heap.get? ((h1.push o).update e (Obj.mapFields (·.setIfInBounds 1 (Value.ref h1.objs.size)))) b = some u → Heap.get? (((h1.push o).update e (Obj.mapFields (·.setIfInBounds 1 (Value.ref h1.objs.size)))).update h1.objs.size (Obj.mapFields (·.setIfInBounds 3 .none))) b = some u := fun b u n z => (Heap.get?_update_other _ _ n.symm).trans z
    have old : ∀ b u, s.heap.get? b = some u → b ≠ h1.objs.size := fun b u z w => by rw [w, new] at z; cases z
    exact ⟨fun b u z n m => q b u (old b u z) (p3.keep b u z n m), fun b u z m => let ⟨sl, w⟩ := p3.slot b u z m; ⟨sl, q b _ (old b u z) w⟩, fun b u z => let ⟨u', w⟩ := p3.there b u z; ⟨u', q b u' (old b u z) w⟩⟩
theorem flight {e T : Addr} {cls fl : Value} {Q : Unit → Shared → Prop} (t : Tr di e T cls fl s.heap) (k : ∀ h', Tr di e T cls .none h' → (∀ b, b ≠ T → h'.get? b = s.heap.get? b) → Q () { s with heap := h' }) : wpAny M A (setFlight (.ref e) none) Q E s := by
  obtain ⟨oe, vs, oT, ts, e1, c, e2, v, n, t1, t2, -, z⟩ := t
  have r : Rec s.heap e oe vs := ⟨e1, e2⟩
  have r' : Rec s.heap T oT ts := ⟨t1, t2⟩
  exact wpAny_setFlight_none e1 e2 v.1 t1 t2 z (k _ (Tr.of (r.off n.symm _) c (r'.put _) n v (by simp [z]) (by simpa using z)) fun b m => Heap.get?_update_other _ _ m.symm)
theorem leave_first {base : Heap} {env : Env} {outer : List Env} {L e : Addr} {oe : Obj} {vs : Array Value} {Q : Unit → Shared → Prop}
    (ha : A.frames = some (env :: outer)) (hf : s.heap.FunFrames base (env :: outer)) (hl : env.frame = some L) (e1 : s.heap.get? e = some oe) (hd : oe.dict = di) (e2 : oe.data = .fields vs) (one : vs[1]? = some .none) (ctx : vs[2]? = some .none)
    (k : ∀ h' T, s.heap.get? T = none → Tr di e T oe.cls .none h' → Kp ((env :: outer).filterMap (·.frame)) [e] s.heap h' → Q () { s with heap := h' }) : wpAny M A (leaving env (.ref e)) Q E s := by
  have r : Rec s.heap e oe vs := ⟨e1, e2⟩
  unfold leaving noteFrame
  simp only [hl]
  exact wpAny_bind (wpAny_bind (wpAny_field e1 e2 one (hung ha hf hl r hd (Array.getElem?_eq_some_iff.mp one).1 ctx (by simp) k)))
theorem note_next {base : Heap} {env : Env} {outer : List Env} {L e T0 : Addr} {cls : Value} {Q : Unit → Shared → Prop}
    (ha : A.frames = some (env :: outer)) (hf : s.heap.FunFrames base (env :: outer)) (hl : env.frame = some L) (ht : Tr di e T0 cls .none s.heap)
    (k : ∀ h' T, s.heap.get? T = none → Tr di e T cls .none h' → Kp ((env :: outer).filterMap (·.frame)) [e, T0] s.heap h' → Q () { s with heap := h' }) : wpAny M A (noteFrame (.ref e) env) (fun _ s' => wpAny M A (setFlight (.ref e) none) Q E s') E s := by
  obtain ⟨oe, vs, oT, ts, e1, ⟨c, hd⟩, e2, ⟨one, ctx⟩, n, t1, t2, three, room⟩ := ht
  have r : Rec s.heap e oe vs := ⟨e1, e2⟩
  have r' : Rec s.heap T0 oT ts := ⟨t1, t2⟩
  have p : Kp ((env :: outer).filterMap (·.frame)) [e, T0] s.heap (s.heap.update T0 (Obj.mapFields (·.setIfInBounds 3 Value.none))) := .field (by simp) t1 t2
  have fr : Heap.FunFrames (s.heap.update T0 (Obj.mapFields (·.setIfInBounds 3 Value.none))) base (env :: outer) := hf.of_keeps fun b o q nf => ⟨o, (Heap.get?_update_other _ _ fun z => by
    rw [← z, t1] at q; exact nf ts (Option.some.inj q ▸ t2)).trans q, rfl⟩
  unfold noteFrame
  simp only [hl]
  refine wpAny_bind (wpAny_field e1 e2 one ?_)
  simp only [show (Value.ref T0 != Value.none) = true from rfl, if_true]
  refine wpAny_bind (wpAny_field t1 t2 three ?_)
  simp only [show (Value.none == rawInt L) = false from rfl, Bool.false_eq_true, if_false]
  refine wpAny_bind (wpAny_setField t1 t2 room ?_)
  refine hung (s := { s with heap := s.heap.update T0 (Obj.mapFields (·.setIfInBounds 3 Value.none)) }) (xs := [e, T0]) ha fr hl (r.off n.symm _) hd (Array.getElem?_eq_some_iff.mp one).1 ctx (.head _) fun h' T nw tr q => ?_
  rw [c] at tr
  exact k h' T (p.fresh nw) tr (p.trans q)
theorem leave_next {base : Heap} {env : Env} {outer : List Env} {L e T0 : Addr} {cls : Value} {Q : Unit → Shared → Prop}
    (ha : A.frames = some (env :: outer)) (hf : s.heap.FunFrames base (env :: outer)) (hl : env.frame = some L) (ht : Tr di e T0 cls .none s.heap)
    (k : ∀ h' T, s.heap.get? T = none → Tr di e T cls .none h' → Kp ((env :: outer).filterMap (·.frame)) [e, T0] s.heap h' → Q () { s with heap := h' }) : wpAny M A (leaving env (.ref e)) Q E s :=
  wpAny_bind (note_next ha hf hl ht k)
end
end Fx
namespace L2
open PySem PySem.Spec PyProof.Rows Fx
def CX2 (P : Program) (w : World) : CXT := fun outer H s E e s' => ∃ (a T : Addr) (cls : Value) (di : Option Addr) (H' : Hp), e = .ref a ∧ s'.os = s.os ∧ AllBare s'.gens ∧ Un (frs outer) [] H H' s.heap s'.heap ∧ HOk P w H' s'.heap ∧
  Tr di a T cls .none s'.heap ∧ s.heap.get? a = none ∧ s.heap.get? T = none ∧ H' a = none ∧ H' T = none ∧ E cls di H'
end L2

set_option maxHeartbeats 4000000
namespace L2
open PySem PySem.Spec PyProof.Rows Fx
theorem ObjOk.get {P : Program} {w : World} {H : Hp} {h : Heap} {a : Addr} {o : HO} (x : ObjOk P w H h a o) : ∃ ob, h.get? a = some ob := by
  cases o with
  | lst xs => obtain ⟨_, _, _, _, e⟩ := x; exact ⟨_, e⟩
  | tup xs => obtain ⟨_, _, _, ob, e, _⟩ := x; exact ⟨_, e⟩
  | dK kvs => obtain ⟨_, _, _, _, o, _, _, e, _⟩ := x; exact ⟨_, e⟩
  | dT kvs => obtain ⟨_, _, _, _, o, _, _, e, _⟩ := x; exact ⟨_, e⟩
  | set S n => obtain ⟨o, _, _, _, e, _⟩ := x; exact ⟨_, e⟩
  | ins C dx fs => obtain ⟨_, _, _, e, _⟩ := x; exact ⟨_, e⟩
  | own y => obtain ⟨_, e⟩ := x; exact ⟨_, e⟩
  | xd fs => obtain ⟨_, ⟨_, _, _, e, _⟩, _⟩ := x; exact ⟨_, e⟩
  | rng lo hi => obtain ⟨_, _, _, e⟩ := x; exact ⟨_, e⟩
  | frz ob u => obtain ⟨e, _⟩ := x; exact ⟨_, e⟩
  | tbl ps => exact ⟨_, x⟩
  | met f y => exact ⟨_, x⟩
  | ext φ => obtain ⟨_, ⟨_, e⟩, _⟩ := x; exact ⟨_, e⟩
structure Flies (X : Cx) (E : XK) : Prop where
  xe : ∀ e s', wpAny (model X.prog X.w) X.A (leaving X.env e) (fun _ s'' => CX2 X.prog X.w X.outer X.H₀ X.s₀ E e s'') (fun e' s'' => CX2 X.prog X.w X.outer X.H₀ X.s₀ E e' s'') s' → X.xe e s'
  stk : X.stack = X.env :: X.outer ∧ X.env.frame = some X.env.locals
  ex : X.ex = []
section
variable {X : Cx} {pins : List (Addr × Obj)} {σ : St} {H : Hp} {s : Shared} {E : XK}
theorem Inv.new0 (I : Inv X pins σ H s) (F : Flies X E) {b : Addr} (hb : s.heap.get? b = none) : X.s₀.heap.get? b = none := by
  cases q : X.s₀.heap.get? b with
  | none => rfl
  | some o =>
    obtain ⟨o', e'⟩ := I.base.there b o q (by rw [F.ex]; intro z; cases z)
    rw [hb] at e'; cases e'
theorem Inv.newH (I : Inv X pins σ H s) {b : Addr} (hb : s.heap.get? b = none) : H b = none := by
  cases q : H b with
  | none => rfl
  | some o =>
    obtain ⟨ob, e'⟩ := ObjOk.get (I.hok b o q)
    rw [hb] at e'; cases e'
theorem Inv.left {h1 h' : Heap} {e T : Addr} {xs : List Addr} {cls : Value} {di : Option Addr} (I : Inv X pins σ H s) (F : Flies X E) (k1 : ∀ b o, s.heap.get? b = some o → h1.get? b = some o) (hxs : ∀ b ∈ xs, X.s₀.heap.get? b = none ∧ H b = none)
    (kp : Kp ((X.env :: X.outer).filterMap (·.frame)) xs h1 h') (he : X.s₀.heap.get? e = none ∧ H e = none) (hT : X.s₀.heap.get? T = none ∧ H T = none) (tr : Tr di e T cls .none h') (q : E cls di H) : CX2 X.prog X.w X.outer X.H₀ X.s₀ E (.ref e) { s with heap := h' } := by
  have hfs : ∀ b, b ∈ (X.env :: X.outer).filterMap (·.frame) → b = X.env.locals ∨ b ∈ X.fs := fun b hb => by
    have := I.stkSub b (by rw [F.stk.1]; exact hb)
    exact List.mem_cons.mp this
  have old : ∀ b o, X.s₀.heap.get? b = some o → b ≠ X.env.locals := fun b o hb z => by
    have h1 := Heap.lt_size hb
    have h2 := I.ok.above
    rw [z] at h1
    exact Nat.lt_irrefl _ (Nat.lt_of_lt_of_le h1 h2)
  have nex : ∀ b, b ∉ X.ex := fun b hb => by rw [F.ex] at hb; cases hb
  have nxs : ∀ b o, X.s₀.heap.get? b = some o → b ∉ xs := fun b o hb hm => by rw [(hxs b hm).1] at hb; cases hb
  refine ⟨e, T, cls, di, H, rfl, I.os, I.bare, ⟨fun b o hb hn hf _ => ?_, fun b o hb hn hf _ => ?_, fun b o hb hn _ => I.base.free b o hb hn (nex b), fun b o hb _ => ?_, I.base.tups, I.base.frzs, I.base.tbls⟩, fun a o ha => ?_, tr, he.1, hT.1, he.2, hT.2, q⟩
  · have q1 := I.base.keep b o hb hn hf (nex b)
    exact kp.keep b o (k1 b o q1) (fun hm => (hfs b hm).elim (old b o hb) hf) (nxs b o hb)
  · obtain ⟨sl, q1⟩ := I.base.slot b o hb hn hf (nex b)
    obtain ⟨sl2, q2⟩ := kp.slot b _ (k1 b _ q1) (nxs b o hb)
    exact ⟨sl2, q2⟩
  · obtain ⟨o', q1⟩ := I.base.there b o hb (nex b)
    exact kp.there b o' (k1 b o' q1)
  · refine (I.hok a o ha).stay (fun c v hc q => ?_) (fun _ q => q) fun _ _ q => q
    have hcn : ∃ u, H c = some u := by
      rcases hc with z | z
      · rw [z]; exact ⟨_, ha⟩
      · exact ⟨_, z⟩
    obtain ⟨u, hu⟩ := hcn
    refine kp.keep c v (k1 c v q) (fun hm => ?_) (fun hm => by rw [(hxs c hm).2] at hu; cases hu)
    have := I.stkFree c (by rw [F.stk.1]; exact hm)
    rw [hu] at this; cases this
theorem Inv.fly {h1 : Heap} {e : Addr} {cls : Value} {args : List Value} (I : Inv X pins σ H s) (F : Flies X E) (m : Heap.MadeExcOf s.heap h1 e cls args) (q : E cls none H) : X.xe (.ref e) { s with heap := h1 } := by
  refine F.xe _ _ ?_
  obtain ⟨t, he, _, _⟩ := m.there
  have ne : X.s₀.heap.get? e = none ∧ H e = none := ⟨I.new0 F m.new, I.newH m.new⟩
  refine leave_first (base := X.base) (outer := X.outer) (s := { s with heap := h1 }) (by rw [I.ok.frames, F.stk.1]) ((by rw [← F.stk.1]; exact I.stack : s.heap.FunFrames X.base (X.env :: X.outer)).of_keeps fun b o hb _ => ⟨o, m.keeps b o hb, rfl⟩) F.stk.2 he rfl rfl rfl rfl fun h' T nT tr kp => ?_
  have nT' : s.heap.get? T = none := by
    cases q : s.heap.get? T with
    | none => rfl
    | some o =>
      have nT2 : h1.get? T = none := nT
      rw [m.keeps T o q] at nT2; cases nT2
  exact Inv.left (s := s) (h1 := h1) (h' := h') I F m.keeps (fun b hb => by rw [List.mem_singleton.mp hb]; exact ne) kp ne ⟨I.new0 F nT', I.newH nT'⟩ tr q
theorem Inv.flyOn {E' : XK} {e : Value} {s' : Shared} (I : Inv X pins σ H s) (F : Flies X E) (c : CX2 X.prog X.w X.stack H s E' e s') (hE : ∀ cls di H', E' cls di H' → E cls di H') : X.xe e s' := by
  obtain ⟨a, T, cls, di, H1, rfl, os, bare, un, hok, tr, na, nT, ha, hT, q⟩ := c
  have I1 : Inv X pins σ H1 s' := I.call' (ch := []) os un hok bare (fun b hb => by cases hb)
  refine F.xe _ _ ?_
  refine leave_next (base := X.base) (outer := X.outer) (by rw [I.ok.frames, F.stk.1]) (by rw [← F.stk.1]; exact I1.stack) F.stk.2 tr fun h' T' nT' tr' kp => ?_
  refine Inv.left (s := s') (h1 := s'.heap) (h' := h') I1 F (fun b o hb => hb) (fun b hb => ?_) kp ⟨I.new0 F na, ha⟩ ⟨I1.new0 F nT', I1.newH nT'⟩ tr' (hE _ _ _ q)
  simp only [List.mem_cons, List.not_mem_nil, or_false] at hb
  rcases hb with rfl | rfl
  · exact ⟨I.new0 F na, ha⟩
  · exact ⟨I.new0 F nT, hT⟩
theorem Flies.passes {E' : XK} (F : Flies X E) (hE : ∀ cls di H', E' cls di H' → E cls di H') : Passes (CX2 X.prog X.w) X E' := fun pins σ H s e s' I c => I.flyOn F c hE
theorem flies_of {P : Program} {w : World} {K : PySem.W.Frag} {mg : Str → Option Value} {base : Heap} {N : List Str} {qual : Str} {scope : Scope} {f : Addr} {cd : Value} {A : Around} {outer : List Env} {s : Shared} {H : Hp} {E : XK} :
    Flies (cxOf (CX2 P w) P w K mg base N qual scope f cd A outer s H E) E := ⟨fun _ _ h => h, ⟨rfl, rfl⟩, rfl⟩
end
theorem FnOk.calm {P : Program} {w : World} {K : PySem.W.Frag} {mg : Str → Option Value} {base : Heap} {CX : CXT} {k : Nat} {f : Addr} {fd : FuncData} {ps : List Str} {sp : Sp} (F : FnOk P w K mg base CX0 k f fd ps sp) : FnOk P w K mg base CX k f fd ps sp :=
  ⟨F.len, fun A outer s H args us vs Q E hr he hb hv hs => codeAny_mono (F.run A outer s H args us vs Q E hr he hb hv hs) fun r s' h => by
    cases r with
    | ok fl => cases fl with
      | ret u => exact h
      | next => exact h
      | brk => exact h
      | cont => exact h
    | error e => exact False.elim h⟩
end L2

set_option maxHeartbeats 4000000
namespace L2
open PySem PySem.Spec PyProof.Rows Fx
abbrev bmVE : List Value := [.type "ValueError", .type "Exception", .type "BaseException", .type "object"]
structure ExcAt (K : PySem.W.Frag) (C : Addr) (bm : List Value) : Prop where
  ex : ∃ N nm q bs hdct sn sub ab col dd k0 k1 k2 k3 k5, K.lookup C = some (excClassObj nm q C N bs bm hdct sn sub ab col dd k0 k1 k2 k3 k5 "ValueError.__new__") ∧ PySem.W.nsOkIn K N = true ∧ PySem.W.nsIn K N "__init__" = some none
  tail : PySem.W.tailIn K bmVE bm = true
theorem excAt {K : PySem.W.Frag} {C N : Addr} {nm q : Str} {bs bm : List Value} {hdct : Bool} {sn : List Str} {sub : List Value} {ab : Bool} {col : Option Bool} {dd : Option Addr} {k0 k1 k2 k3 k5 : Option Value}
    (l : K.lookup C = some (excClassObj nm q C N bs bm hdct sn sub ab col dd k0 k1 k2 k3 k5 "ValueError.__new__")) (o : PySem.W.nsOkIn K N = true) (n : PySem.W.nsIn K N "__init__" = some none) (t : PySem.W.tailIn K bmVE bm = true) : ExcAt K C bm :=
  ⟨⟨N, nm, q, bs, hdct, sn, sub, ab, col, dd, k0, k1, k2, k3, k5, l, o, n⟩, t⟩
section
variable {X : Cx} {E : XK} {x : Str} {C : Addr} {e : Expr} {es : List Expr} {t : TA} {np cpos pos : Pos} {bm : List Value}
def tRaise (E : XK) (C : Addr) (t : TA) : TS := fun _ σ H => t σ H fun vs H1 => vs.length ≤ sizeLine ∧ E (.ref C) none H1
theorem ps_raise (F : Flies X E) (hc : X.calm = true) (hg : Gl X x) (hm : X.mg x = some (.ref C)) (hx : ExcAt X.K C bm) (ha : PA X (e :: es) t) (hdb : (x == ("__debug__" : Str)) = false := by decide)
    (he : starEach (e :: es) X.env = (false, eval e X.env) :: starEach es X.env := by rfl) (hpl : (backTo cpos (starEach es X.env)).any (·.1) = false := by rfl) :
    PS X (.Raise (some (.Call (.Name x np) (e :: es) [] cpos)) none pos) (tRaise E C t) := by
  intro pins s σ H D I h
  obtain ⟨N, nm, q, bs, hdct, sn, sub, ab, col, dd, k0, k1, k2, k3, k5, lk, ok, ni⟩ := hx.ex
  have KX := I.ok.mod.kin
  have hC := KX _ _ lk
  have hN : X.base.Ns N _ := .of_isNs (PySem.W.isNs_of_in KX ok)
  have hni := PySem.W.nsMap_none_of_in KX ok ni
  have T := PySem.W.tail_of_in KX hx.tail
  refine wpAny_Raise_call_subT (C := C) (nm := nm) (q := q) (N := N) (bs := bs) (bm := bm) (hdct := hdct) (sn := sn) (sub := sub) (ab := ab) (col := col) (dd := dd) (k0 := k0) (k1 := k1) (k2 := k2) (k3 := k3) (k5 := k5)
    PySem.F.excBase_ValueError (T.hasType PySem.F.excBase_ValueError.hasBase) (I.ok.hd hc) (by rw [he]; show (false || (backTo cpos (starEach es X.env)).any (·.1)) = false; rw [hpl]; rfl) hni (ld_glob I hg hm ⟨rfl, ?_⟩ hdb)
  have h2 := ha cpos pins s σ H _ I h
  rw [he] at h2 ⊢
  refine Calls.evalArgs_plain (wpAny_mono h2 (fun us s1 ⟨vs, H1, I1, r1, hl, q1⟩ => ⟨rfl, by rw [← r1.length]; exact hl, I1.bk _ _ hC, hN.keeps I1.bk, T.keeps I1.bk, fun h' a m => I1.fly F m q1⟩) fun _ _ y => y)
end
end L2

set_option maxHeartbeats 4000000
namespace PySem
section
variable {M : Model} {A : Around} {E : Value → Shared → Prop}
theorem excMatches_base {h : Heap} {g : Array GenState} {d : Drawn} {t : Nat} {os : OsState} {e C D : Addr} {oe : Obj} {Q : Bool → Shared → Prop}
    {nm q : Str} {N : Addr} {bs bm : List Value} {hdct : Bool} {sn : List Str} {sub : List Value} {ab : Bool} {col : Option Bool} {dd : Option Addr} {k0 k1 k2 k3 k5 : Option Value} {newId : String}
    {nm' q' : Str} {N' : Addr} {bs' bm' : List Value} {hdct' : Bool} {sn' : List Str} {sub' : List Value} {ab' : Bool} {col' : Option Bool} {dd' : Option Addr} {k0' k1' k2' k3' k5' : Option Value} {newId' : String}
    (hC : h.get? C = some (excClassObj nm q C N bs bm hdct sn sub ab col dd k0 k1 k2 k3 k5 newId)) (hD : h.get? D = some (excClassObj nm' q' D N' bs' bm' hdct' sn' sub' ab' col' dd' k0' k1' k2' k3' k5' newId'))
    (he : h.get? e = some oe) (hcls : oe.cls = .ref C) (hbase : bm'.contains (.type "BaseException") = true) (hsub : (Value.ref C :: bm).contains (.ref D) = true)
    (hq : Q true ⟨h, g, d, t, os⟩) : wpAny M A (excMatches (.ref e) (.ref D)) Q E ⟨h, g, d, t, os⟩ := by
  have hcB : (Value.ref D :: bm').contains (.type "BaseException") = true := by rw [List.contains_cons, hbase, Bool.or_true]
  have f := tc_notTuple
  unfold excMatches
  repeat (first | (with_reducible refine wpAny_loadPart_at he ?_; rw [hcls]) | with_reducible refine wpAny_loadPart_at hD ?_ | (with_reducible refine wpAny_isSubtype_exc hD ?_; rw [hcB]) | (with_reducible refine wpAny_isSubtype_exc hC ?_; rw [hsub]) | wp_step)
  exact hq
end
end PySem
namespace L2
open PySem PySem.Spec PyProof.Rows Fx
def ExcO (di : Option Addr) (a : Addr) (cls : Value) : HO := .ext fun h => ∃ o vs, h.get? a = some o ∧ (o.cls = cls ∧ o.dict = di) ∧ o.data = .fields vs ∧ vs[2]? = some .none
def Xt (X : Cx) (pins : List (Addr × Obj)) (σ0 : St) (E : XK) : Cx := { X with pn := X.pn ++ pins, xe := fun e s' => ∃ H1 s1, Inv X pins σ0 H1 s1 ∧ CX2 X.prog X.w X.stack H1 s1 E e s' }
theorem Inv.ofXt {X : Cx} {pins p2 : List (Addr × Obj)} {σ0 σ : St} {E : XK} {H : Hp} {s : Shared} (I : Inv (Xt X pins σ0 E) p2 σ H s) : Inv X pins σ H s :=
  ⟨⟨I.ok.mod, I.ok.kind, I.ok.glob, I.ok.blt, I.ok.above, I.ok.inj, I.ok.has, I.ok.cab, I.ok.hd, I.ok.frames, I.ok.stk, I.ok.exf, I.ok.bs, I.ok.bsz, I.ok.noex, I.ok.exfs, I.ok.funs, I.ok.frf⟩,
    I.os, I.bare, I.base, I.loc, I.cell, I.free, I.freeC, fun p hp => I.pin p (List.mem_append_left _ hp), I.hok, I.len⟩
theorem Inv.toXt {X : Cx} {pins : List (Addr × Obj)} {σ0 σ : St} {E : XK} {H : Hp} {s : Shared} (I : Inv X pins σ H s) : Inv (Xt X pins σ0 E) [] σ H s :=
  ⟨⟨I.ok.mod, I.ok.kind, I.ok.glob, I.ok.blt, I.ok.above, I.ok.inj, I.ok.has, I.ok.cab, I.ok.hd, I.ok.frames, I.ok.stk, I.ok.exf, I.ok.bs, I.ok.bsz, I.ok.noex, I.ok.exfs, I.ok.funs, I.ok.frf⟩,
    I.os, I.bare, I.base, I.loc, I.cell, I.free, I.freeC, fun p hp => I.pin p (by rw [List.append_nil] at hp; exact hp), I.hok, I.len⟩
def Xh (X : Cx) (a : Addr) : Cx := { X with A := X.A.mark (some (.ref a)), calm := false, xe := fun _ _ => False }
theorem Inv.toXh {X : Cx} {pins : List (Addr × Obj)} {σ : St} {a : Addr} {H : Hp} {s : Shared} (I : Inv X pins σ H s) : Inv (Xh X a) pins σ H s :=
  ⟨⟨I.ok.mod, I.ok.kind, I.ok.glob, I.ok.blt, I.ok.above, I.ok.inj, I.ok.has, I.ok.cab, (fun z => by cases z), I.ok.frames, I.ok.stk, I.ok.exf, I.ok.bs, I.ok.bsz, I.ok.noex, I.ok.exfs, I.ok.funs, I.ok.frf⟩,
    I.os, I.bare, I.base, I.loc, I.cell, I.free, I.freeC, I.pin, I.hok, I.len⟩
theorem Inv.ofXh {X : Cx} {pins : List (Addr × Obj)} {σ : St} {a : Addr} {H : Hp} {s : Shared} (ok : X.Ok) (I : Inv (Xh X a) pins σ H s) : Inv X pins σ H s :=
  ⟨ok, I.os, I.bare, I.base, I.loc, I.cell, I.free, I.freeC, I.pin, I.hok, I.len⟩
theorem Inv.landed {X : Cx} {pins : List (Addr × Obj)} {σ : St} {H1 H' : Hp} {s1 s' : Shared} {a T T' : Addr} {cls : Value} {h' : Heap} (I : Inv X pins σ H1 s1) (os : s'.os = s1.os) (bare : AllBare s'.gens) (un : Un (frs X.stack) [] H1 H' s1.heap s'.heap) (hok : HOk X.prog X.w H' s'.heap)
    (kp : Kp (frs X.stack) [a, T] s'.heap h') (na : s1.heap.get? a = none) (nT : s1.heap.get? T = none) (ha : H' a = none) (hT : H' T = none) (tr : Tr di a T' cls .none h') : Inv X pins σ (upd H' a (ExcO di a cls)) { s' with heap := h' } := by
  obtain ⟨oe, vs, oT, ts, he, hc, hd, h1, hTe, hT', hdT, h3, hz⟩ := tr
  have nx : ∀ b o, s1.heap.get? b = some o → b ∉ [a, T] := fun b o hb hm => by
    simp only [List.mem_cons, List.not_mem_nil, or_false] at hm
    rcases hm with rfl | rfl
    · rw [na] at hb; cases hb
    · rw [nT] at hb; cases hb
  have nea : ∀ b u, H' b = some u → b ≠ a := fun b u hb z => by rw [z, ha] at hb; cases hb
  have frn : ∀ b, b ∈ frs X.stack → H' b = none := fun b hb => by
    obtain ⟨_, o, ho, _⟩ := I.stack.mem hb
    exact un.free b o ho (I.stkFree b hb) (by intro z; cases z)
  refine I.call' (ch := []) (s' := { s' with heap := h' }) os ⟨fun b o hb hn hf ox => ?_, fun b o hb hn hf ox => ?_, fun b o hb hn ox => ?_, fun b o hb ox => ?_, fun b xs hb => ?_, fun b o u hb => ?_, fun b ps hb => ?_⟩ (fun c o hc' => ?_) bare (fun b hb => by cases hb)
  · exact kp.keep b o (un.keep b o hb hn hf ox) hf (nx b o hb)
  · obtain ⟨sl, q⟩ := un.slot b o hb hn hf ox
    obtain ⟨sl2, q2⟩ := kp.slot b _ q (nx b o hb)
    exact ⟨sl2, q2⟩
  · rw [upd_ne (fun z => nx b o hb (by simp [z]))]; exact un.free b o hb hn ox
  · obtain ⟨o', q⟩ := un.there b o hb ox
    exact kp.there b o' q
  · have := un.tups b xs hb
    rw [upd_ne (nea b _ this)]; exact this
  · have := un.frzs b o u hb
    rw [upd_ne (nea b _ this)]; exact this
  · obtain ⟨more, this⟩ := un.tbls b ps hb
    exact ⟨more, by rw [upd_ne (nea b _ this)]; exact this⟩
  · by_cases hca : c = a
    · subst hca
      rw [upd_same] at hc'
      cases hc'
      exact ⟨⟨oe, vs, he, hc, hd, h1.2⟩, ⟨oe, he⟩, fun h1 h2 ⟨o, vs, q1, q2, q3⟩ k => ⟨o, vs, k o q1, q2, q3⟩⟩
    · rw [upd_ne hca] at hc'
      refine (hok c o hc').stay (fun d v hd' q => ?_) (fun b q => by rw [upd_ne (nea b _ q)]; exact q) fun b xs q => by rw [upd_ne (nea b _ q)]; exact q
      have hdn : ∃ u, H' d = some u := by
        rcases hd' with z | z
        · rw [z]; exact ⟨_, hc'⟩
        · exact ⟨_, z⟩
      obtain ⟨u, hu⟩ := hdn
      refine kp.keep d v q (fun hm => ?_) (fun hm => ?_)
      · rw [frn d hm] at hu; cases hu
      · simp only [List.mem_cons, List.not_mem_nil, or_false] at hm
        rcases hm with rfl | rfl
        · rw [ha] at hu; cases hu
        · rw [hT] at hu; cases hu
theorem Inv.blank {X : Cx} {pins : List (Addr × Obj)} {σ : St} {H : Hp} {s : Shared} {h' : Heap} {m' : Str → Option Value} {tk : Nat} (I : Inv X pins σ H s) (hn : h'.Ns X.env.locals m') (hs : Heap.SameBut X.env.locals s.heap h') : Inv X pins (List.replicate X.N.length none) H { s with heap := h', toks := tk } := by
  have offL : ∀ b o, X.s₀.heap.get? b = some o → b ≠ X.env.locals := fun b o e => Nat.ne_of_lt (Nat.lt_of_lt_of_le (Heap.lt_size e) I.ok.above)
  refine ⟨I.ok, I.os, I.bare, ⟨fun b o e n hb nx => ?_, fun b o e n hb nx => ?_, I.base.free, fun b o e nx => ?_, I.base.tups, I.base.frzs, I.base.tbls⟩, ⟨m', hn, fun i x v k1 e2 e3 => ?_⟩, fun x c e => ?_, I.free, I.freeC, fun p hp => ?_, fun b ob e => ?_, by simp⟩
  · exact (hs.2 b (offL b o e)).trans (I.base.keep b o e n hb nx)
  · obtain ⟨sl, k1⟩ := I.base.slot b o e n hb nx
    exact ⟨sl, (hs.2 b (offL b o e)).trans k1⟩
  · obtain ⟨o', k1⟩ := I.base.there b o e nx
    exact ⟨o', (hs.2 b (offL b o e)).trans k1⟩
  · rw [List.getElem?_replicate] at e2
    split at e2 <;> cases e2
  · obtain ⟨v, o, ho, hd⟩ := I.cell x c e
    exact ⟨v, o, (hs.2 c (I.cne x c e)).trans ho, hd⟩
  · obtain ⟨q1, q2, q3, q4, q5⟩ := I.pin p hp
    exact ⟨(hs.2 _ q3).trans q1, q2, q3, q4, q5⟩
  · refine (I.hok b ob e).stay (fun c w' hc q => (hs.2 c ?_).trans q) (fun _ q => q) fun _ _ q => q
    rintro rfl
    rcases hc with rfl | hc
    · rw [I.free] at e; cases e
    · rw [I.free] at hc; cases hc
end L2

set_option maxHeartbeats 4000000
namespace L2
open PySem PySem.Spec PyProof.Rows Fx
section
variable {X : Cx} {E : XK}
end
end L2

set_option maxHeartbeats 4000000
namespace PySem.W
open PySem PySem.Spec PySem.Calls PyProof.Rows Builtin Builtin.ObjectAttr
def overVE : List Value → Bool
  | .ref _ :: r => overVE r
  | [.type a, .type b, .type c, .type d] => a == "ValueError" && b == "Exception" && c == "BaseException" && d == "object"
  | _ => false
theorem ve_end {l : List Value} (e : overVE l = true) : (∃ c r, l = .ref c :: r ∧ overVE r = true) ∨ l = [.type "ValueError", .type "Exception", .type "BaseException", .type "object"] := by
  unfold overVE at e
  split at e
  · exact .inl ⟨_, _, rfl, e⟩
  · simp only [Bool.and_eq_true, beq_iff_eq] at e
    obtain ⟨⟨⟨rfl, rfl⟩, rfl⟩, rfl⟩ := e
    exact .inr rfl
  · cases e
theorem refuse_ve (self : Value) : ∀ {l : List Value}, overVE l = true → refuseLoop self "__setattr__" l = pure ()
  | [], e => by cases e
  | v :: r, e => by
    rcases ve_end e with ⟨c, r', q, e'⟩ | q
    · obtain ⟨rfl, rfl⟩ := List.cons.inj q
      rw [refuseLoop_ref]; exact refuse_ve self e'
    · rw [q]; exact PySem.F.store_ValueError.passes self
theorem ve_has : ∀ {l : List Value}, overVE l = true → l.contains (.type "object") = true
  | [], e => by cases e
  | v :: r, e => by
    rcases ve_end e with ⟨c, r', q, e'⟩ | q
    · obtain ⟨rfl, rfl⟩ := List.cons.inj q
      rw [List.contains_cons, ve_has e', Bool.or_true]
    · rw [q]; rfl
section
variable {prog : Program} {w : World} {A : Around} {E : Value → Shared → Prop} {K : Frag} {x C : Addr} {s : Shared} {R : Result → Shared → Prop}
theorem osa_openE {ox : Obj} {od : Option Obj} {name : Str} {tk : Tok} {v : Value} (X : K.In s.heap) (I : InstAt s.heap x ox C od) (hp : ((clsIn K C).any fun cd => overVE cd.mro) = true) (ht : findIn K (.ref C) name = some none)
    (h : ∀ b, wpAny (model prog w) A.in1 (storeInOwnDict (.ref x) (.ref C) (.str name tk) name v b)
      (fun fin s' => match fin with | .done f => R (.ok f) s' | .again c' => c'.quiet = true ∧ codeAny (model prog w) A c' R s') (fun e s' => R (.error e) s') s) :
    codeAny (model prog w) A (.call (.builtin "object.__setattr__") ⟨[.ref x, .str name tk, v], []⟩) R s := by
  have SF := PySem.F.store_object
  obtain ⟨cd, hc, ho⟩ := any_some hp
  have ne : cd.mro.isEmpty = false := by cases q : cd.mro with | nil => rw [q] at ho; cases ho | cons _ _ => rfl
  have sub : Looks (model prog w) s.heap (isInstance (.ref x) (.type "object")) true := I.type.andThen (looks_mroIn X (by unfold mroIn; rw [hc, Option.bind_some, if_neg (by rw [ne]; decide), ve_has ho]))
  refine codeAny_call_builtin SF.slot.plain SF.entry (@check_slot (model prog w) _ _ s "object.__setattr__" "object" "__setattr__" (.ref x) [.str name tk, v] [] _ SF.kind SF.split sub (SF.args (.ref x) (.str name tk) v) ?_)
  have hm : Looks (model prog w) s.heap (mroOf (.ref C)) cd.mro := (looks_clsIn X hc).andThen .now
  rw [osa_eq, refuse_eq]
  refine wpAny_bind (wpAny_bind (I.type.here (wpAny_bind (hm.here ?_))))
  rw [refuse_ve _ ho]
  have L3 : Looks (model prog w) s.heap (storeTaker? none) none := .now
  refine wpAny_pure (wpAny_bind (I.type.here (wpAny_bind ((looks_findIn X ht).here (wpAny_bind (L3.here ?_))))))
  exact h _
theorem set_first {ox : Obj} {name : Str} {v : Value} {Q : Unit → Shared → Prop} (X : K.In s.heap) (I : InstAt s.heap x ox C none) (hd : ox.dict = none) (hf : ox.isFreed = false)
    (hs : findIn K (.ref C) "__setattr__" = some (some (.builtin "object.__setattr__"))) (hp : ((clsIn K C).any fun cd => overVE cd.mro) = true) (ht : findIn K (.ref C) name = some none) (hh : hasDictIn K C = true)
    (h : ∀ h' : Heap, h'.get? x = some { ox with dict := some s.heap.objs.size } → h'.Ns1 s.heap.objs.size (fun y => if y = name then some v else none) → (∀ b o, b ≠ x → s.heap.get? b = some o → h'.get? b = some o) → Q () { s with heap := h', toks := s.toks + 2 }) :
    wpAny (model prog w) A (setAttr (.ref x) name v) Q E s := by
  refine set_plain X I hs (osa_openE (s := { s with toks := s.toks + 1 }) X I hp ht fun b => ?_)
  obtain ⟨cd, hc, hd'⟩ := any_some hh
  have hx := I.at_
  have hn := I.no
  obtain ⟨hp', g, d, t, os⟩ := s
  obtain ⟨oc, odi, oda, osl⟩ := ox
  cases hd
  cases (show oc = Value.ref C from I.cls)
  have hxs : x ≠ hp'.objs.size := Nat.ne_of_lt (Heap.lt_size hx)
  have hx₁ : (hp'.push { cls := .type "dict", data := .dict #[] }).get? x = some ⟨.ref C, none, oda, osl⟩ := Heap.get?_push_of_some _ hx
  have hgd : ((hp'.push { cls := .type "dict", data := .dict #[] }).update x fun o => { cls := o.cls, dict := some hp'.objs.size, data := o.data, slots := o.slots }).get? hp'.objs.size = some { cls := .type "dict", data := .dict #[] } :=
    (Heap.get?_update_ne _ _ _ _ hxs.symm).trans (Heap.get?_push_at rfl rfl)
  have hnd : ((hp'.push { cls := .type "dict", data := .dict #[] }).update x fun o => { cls := o.cls, dict := some hp'.objs.size, data := o.data, slots := o.slots }).Ns hp'.objs.size (fun _ => none) :=
    ⟨_, #[], _, hgd, rfl, fun e he => absurd he (by simp), fun _ => rfl⟩
  refine wpAny_bind (wpAny_pure (wpAny_bind (wpAny_bind (wpAny_loadPart hx (wpAny_bind (Looks.here (s := ⟨hp', g, d, t + 1, os⟩) (looks_clsIn X hc) ?_))))))
  rw [hd', if_neg (by decide), if_neg (by simp [typeHasDict])]
  have fin : wpAny (model prog w) A.in1 (do
      let d ← alloc { cls := Value.type "dict", data := Data.dict #[] }
      update x fun o => { cls := o.cls, dict := some d, data := o.data, slots := o.slots }
      dictMade (Value.ref C) x d) (fun a s' => wpAny (model prog w) A.in1 (match a with
        | some d_1 => storeInDict d_1 (Value.str name t) name v
        | none => noDictFor (Value.ref x) (Value.ref C) name b)
        (fun fin s' => match fin with
          | Fin.done f => (match (Except.ok f : Result) with
            | Except.ok (Flow.ret v) => Q () s'
            | Except.ok a => False
            | Except.error e => E e s')
          | Fin.again c' => c'.quiet = true ∧ codeAny (model prog w) A c' (fun r s' => match r with
                  | Except.ok (Flow.ret v) => Q () s'
                  | Except.ok a => False
                  | Except.error e => E e s') s') (fun e s' => E e s') s') (fun e s' => E e s') ⟨hp', g, d, t + 1, os⟩ := by
    refine wpAny_bind (wpAny_alloc' (wpAny_bind (wpAny_update' hx₁ (wpAny_pure ?_))))
    show wpAny _ _ (storeInDict hp'.objs.size (.str name t) name v) _ _ _
    unfold storeInDict newKeyGuard
    refine wpAny_bind (wpAny_pure (wpAny_bind (wpAny_nsSet1 (Heap.Ns1.of_empty hnd) fun h' hn' hs => ?_)))
    obtain ⟨oD, esD, epD, hoD, hdD, hcD⟩ := hn'.count (Within.cons name v Within.nil)
    refine wpAny_bind (wpAny_lookBehind hoD (by rw [hdD]; exact pastItsLine_dict (Nat.le_trans hcD (by rw [List.length_cons, List.length_nil, sizeLine_eq]; omega))) ?_)
    refine wpAny_pure (h h' ?_ hn' fun b o hbx hb => ?_)
    · refine (hs.2 x hxs).trans (Heap.get?_update_self _ hx₁ ?_)
      cases oda <;> first | rfl | exact hf
    · exact (hs.2 b (Nat.ne_of_lt (Heap.lt_size hb))).trans ((Heap.get?_update_ne _ _ _ _ hbx).trans (Heap.get?_push_of_some _ hb))
  cases oda <;> first | exact fin | cases hn
end
end PySem.W

set_option maxHeartbeats 4000000
namespace PySem.W
open PySem PySem.Spec PySem.Calls PyProof.Rows
structure ExcG (K : Frag) (D : Addr) : Prop where
  ga : findIn K (.ref D) "__getattribute__" = some (some (.builtin "BaseException.__getattribute__"))
  gt : findIn K (.ref D) "__getattr__" = some none
  ff : ∀ od, findObj K D od "__class__" = some (.bind (.builtin "getset_descriptor.__get__") (.builtin "object.__class__"))
  ob : mroIn K D (.type "object") = some true
  be : kitCls K (.ref D) (.type "BaseException") = some true
  me : kitCls K (.ref D) (.ref D) = some true
  dc : hasDictIn K D = true
section
variable {prog : Program} {w : World} {A : Around} {E : Value → Shared → Prop} {K : Frag} {x D : Addr} {ox : Obj} {od : Option Obj}
theorem exc_told {tk : Tok} {s : Shared} {Q : Fin → Shared → Prop} (g : ExcG K D) (X : K.In s.heap) (I : InstAt s.heap x ox D od) (q : Q (.done (.ret (.ref D))) s) :
    wpAny (model prog w) A (Builtin.«object.__getattribute__» ⟨[.ref x, .str "__class__" tk], []⟩) Q E s := by
  have L0 := I.type (M := model prog w)
  have L1 := looks_find (M := model prog w) X I (g.ff od)
  unfold Builtin.«object.__getattribute__»
  refine wpAny_bind (wpAny_pure (wpAny_bind (wpAny_pure (wpAny_bind (L0.at (wpAny_bind (L1.at ?_)))))))
  show wpAny _ _ (Builtin.ObjectAttr.bindTo _ _ _ _) _ _ _
  unfold Builtin.ObjectAttr.bindTo
  show wpAny _ _ (holding [Value.builtin "object.__class__"] (call (Value.builtin "getset_descriptor.__get__") [Value.builtin "object.__class__", Value.ref x, Value.ref D]) >>= ret) _ _ _
  exact wpAny_bind (wpAny_holding (wpAny_call (class_get (ox := ox) (od := od) X I g.ob (wpAny_pure q))))
theorem exc_value {name : Str} {v : Value} {tk : Tok} {s : Shared} {Q : Fin → Shared → Prop} (X : K.In s.heap) (I : InstAt s.heap x ox D od) (hf : findObj K D od name = some (.value v)) (q : Q (.done (.ret v)) s) :
    wpAny (model prog w) A (Builtin.«object.__getattribute__» ⟨[.ref x, .str name tk], []⟩) Q E s := by
  have L0 := I.type (M := model prog w)
  have L1 := looks_find (M := model prog w) X I hf
  unfold Builtin.«object.__getattribute__»
  refine wpAny_bind (wpAny_pure (wpAny_bind (wpAny_pure (wpAny_bind (L0.at (wpAny_bind (L1.at ?_)))))))
  exact wpAny_pure q
theorem exc_class {s : Shared} {Q : Option Value → Shared → Prop} (g : ExcG K D) (X : K.In s.heap) (I : InstAt s.heap x ox D od) (q : Q (some (.ref D)) { s with toks := s.toks + 1 }) : wpAny (model prog w) A (getAttr? (.ref x) "__class__") Q E s := by
  have L0 := I.type (M := model prog w)
  have L1 := looks_findIn (M := model prog w) X g.ga
  have L2 := looks_findIn (M := model prog w) X g.gt
  have L3 := (kit_cls (M := model prog w) X g.be).2.2
  have fb := PySem.F.attr_ValueError.ga.bind (.ref x)
  unfold getAttr? getAttrBy? getAttrBy
  refine wpAny_bind (wpAny_mkText (wpAny_bind (wpAny_attempt (wpAny_holding (wpAny_bind (L0.at (wpAny_bind (L1.at ?_))))))))
  show wpAny _ _ (getAttrByItsOwn _ _ _ _ _ _) _ _ _
  unfold getAttrByItsOwn
  refine wpAny_bind (L2.at (wpAny_bind (wpAny_attempt (wpAny_holding ?_))))
  show wpAny _ _ (boundAndCalled _ _ _) _ _ _
  unfold boundAndCalled
  rw [fb]
  refine wpAny_bind (wpAny_pure (wpAny_call (codeAny_call_builtin PySem.F.attr_ValueError.ga.plain F.entry_bexc_ga ?_)))
  have hk : builtinKind "BaseException.__getattribute__" = some .slot := by decide +kernel
  have hsplit : splitId "BaseException.__getattribute__" = some ("BaseException", "__getattribute__") := by decide +kernel
  have ha := F.args_bexc_ga (.ref x) (.str "__class__" s.toks)
  simp only [checkBuiltinCall, hk, hsplit]
  refine wpAny_bind (wpAny_bind (L0.at (L3.at ?_)))
  refine wpAny_of_eq (a := ()) ha ?_
  exact exc_told (s := { s with toks := s.toks + 1 }) g X I (handed_on rfl (wpAny_pure q))
theorem exc_get {name : Str} {v : Value} {expr : Bool} {s : Shared} {Q : Value → Shared → Prop} (g : ExcG K D) (X : K.In s.heap) (I : InstAt s.heap x ox D od) (hf : findObj K D od name = some (.value v)) (hh : handedIn v = true) (q : Q v { s with toks := s.toks + 1 }) :
    wpAny (model prog w) A (getAttr (.ref x) name expr) Q E s := by
  have L0 := I.type (M := model prog w)
  have L1 := looks_findIn (M := model prog w) X g.ga
  have L2 := looks_findIn (M := model prog w) X g.gt
  have L3 := (kit_cls (M := model prog w) X g.be).2.2
  have fb := PySem.F.attr_ValueError.ga.bind (.ref x)
  unfold getAttr getAttrBy
  refine wpAny_bind (wpAny_mkText (wpAny_holding (wpAny_bind (L0.at (wpAny_bind (L1.at ?_))))))
  show wpAny _ _ (getAttrByItsOwn _ _ _ _ _ _) _ _ _
  unfold getAttrByItsOwn
  refine wpAny_bind (L2.at (wpAny_bind (wpAny_attempt (wpAny_holding ?_))))
  have hx0 : (expr && onTheHeap (Value.builtin "BaseException.__getattribute__")) = false := by cases expr <;> rfl
  unfold callGetattribute
  rw [hx0]
  show wpAny _ _ (boundAndCalled _ _ _) _ _ _
  unfold boundAndCalled
  rw [fb]
  refine wpAny_bind (wpAny_pure (wpAny_call (codeAny_call_builtin PySem.F.attr_ValueError.ga.plain F.entry_bexc_ga ?_)))
  have hk : builtinKind "BaseException.__getattribute__" = some .slot := by decide +kernel
  have hsplit : splitId "BaseException.__getattribute__" = some ("BaseException", "__getattribute__") := by decide +kernel
  have ha := F.args_bexc_ga (.ref x) (.str name s.toks)
  simp only [checkBuiltinCall, hk, hsplit]
  refine wpAny_bind (wpAny_bind (L0.at (L3.at ?_)))
  refine wpAny_of_eq (a := ()) ha ?_
  refine exc_value (s := { s with toks := s.toks + 1 }) X I hf ?_
  show wpAny _ _ (handedOut v) _ _ _
  rw [handedOut_of hh]
  exact wpAny_pure q
theorem kitx_excG (g : ExcG K D) : KitX K (.ref x) (.ref D) (fun h => ∃ ox od, InstAt h x ox D od) where
  ty := fun _ _ _ p => p.elim fun _ p => p.elim fun _ I => I.type
  it := fun _ _ X _ => (kit_cls X g.me).2.1
  ne := fun h tp dd its n sl X htp => by
    refine Bool.eq_false_iff.mpr fun q => ?_
    obtain rfl : D = tp := Value.ref.inj (beq_iff_eq.mp q)
    obtain ⟨cd, hc, _⟩ := any_some g.dc
    unfold clsIn at hc
    split at hc
    · rename_i c' d' cd' sl' ho
      cases (X _ _ ho).symm.trans htp
    · cases hc
  ca := fun X p k => p.elim fun _ p => p.elim fun _ I => exc_class g X I k
end
end PySem.W
namespace L2
open PySem PySem.Spec PyProof.Rows
def clV : V → Option Value
  | .ty T => some (.type T)
  | .ref D => some (.ref D)
  | _ => none
def Dx (H : Hp) (di : Option Addr) : Prop := ∀ dx, di = some dx → ∃ fs, H dx = some (.xd fs)
section
variable {X : Cx} {pins : List (Addr × Obj)} {σ : St} {H : Hp} {s : Shared}
theorem exc_at {a C : Addr} {di : Option Addr} (I : Inv X pins σ H s) (hH : H a = some (ExcO di a (.ref C))) (hd : Dx H di) : ∃ o od, PySem.W.InstAt s.heap a o C od ∧ o.dict = di := by
  obtain ⟨⟨o, vs, q1, ⟨q2, q3⟩, q4, _⟩, _, _⟩ := (show ObjOk X.prog X.w H s.heap a (ExcO di a (.ref C)) from I.hok a _ hH)
  have nc : PySem.W.notCls o = true := by unfold PySem.W.notCls; rw [q4]
  cases di with
  | none => exact ⟨o, none, ⟨q1, q2, nc, by rw [q3]; trivial⟩, q3⟩
  | some dx =>
    obtain ⟨fs, hx⟩ := hd dx rfl
    obtain ⟨mA, ⟨od, es, ep, e1, _⟩, _⟩ := (show ObjOk X.prog X.w H s.heap dx (.xd fs) from I.hok dx _ hx)
    exact ⟨o, some od, ⟨q1, q2, nc, by rw [q3]; exact e1⟩, q3⟩
theorem call_isinstE : CallR X (.builtin "isinstance") (fun xs H Q => ∃ a di C c cv b, xs = [.ref a, c] ∧ H a = some (ExcO di a (.ref C)) ∧ Dx H di ∧ PySem.W.ExcG X.K C ∧ clV c = some cv ∧ PySem.W.kitOne X.K (.ref C) cv = some b ∧ Q (.bl b) H) := by
  intro pins s σ H xs us Q I r h
  obtain ⟨a, di, C, c, cv, b, rfl, hH, hd, kx, hc, e, q⟩ := h
  obtain ⟨u, v, rfl, ru, rv⟩ := r.two
  cases ru
  have hv : v = cv := by
    cases c <;> first | (cases hc; cases rv; rfl) | cases hc
  subst hv
  obtain ⟨o, od, J, _⟩ := exc_at I hH hd
  exact PySem.W.kia_one (PySem.W.kitx_excG kx) I.kIn ⟨o, od, J⟩ e (fun z => nomatch z) fun tk => ⟨.bl b, H, I.tok tk, rfl, q⟩
def tFldE (K : PySem.W.Frag) (ta : TE) (f : Str) : TE := fun σ H Q => ta σ H fun x H1 => ∃ a dx C fs v, x = .ref a ∧ H1 a = some (ExcO (some dx) a (.ref C)) ∧ H1 dx = some (.xd fs) ∧ PySem.W.ExcG K C ∧ NoAttr K C f ∧ fs.lookup f = some v ∧ Q v H1
theorem pe_fldE {e : Expr} {f : Str} {pos : Pos} {ta : TE} (he : PE X e ta) (hb : attributeBase e f X.env (eval e X.env) = eval e X.env) : PE X (.Attribute e f pos) (tFldE X.K ta f) := by
  intro pins s σ H Q I h
  refine attr_of hb (thn (he pins s σ H _ I h) fun u s1 ⟨x, H1, I1, rx, a, dx, C, fs, v, ex, ea, ed, g, n, l, q⟩ => ?_)
  subst ex
  obtain rfl : u = Value.ref a := rx
  obtain ⟨⟨o, vs, q1, ⟨q2, q3⟩, q4, _⟩, _, _⟩ := (show ObjOk X.prog X.w H1 s1.heap a (ExcO (some dx) a (.ref C)) from I1.hok a _ ea)
  obtain ⟨mA, ns, rl⟩ := (show ObjOk X.prog X.w H1 s1.heap dx (.xd fs) from I1.hok dx _ ed)
  obtain ⟨w, hw, rw'⟩ := RelO.some_of (v := v) (o := mA f) (by rw [← l]; exact rl f)
  have nc : PySem.W.notCls o = true := by unfold PySem.W.notCls; rw [q4]
  obtain ⟨od, e1, hl⟩ := lookIn_ns ns
  have J : PySem.W.InstAt s1.heap a o C (some od) := ⟨q1, q2, nc, by rw [q3]; exact e1⟩
  exact PySem.W.exc_get g I1.kIn J (PySem.W.findObj_own g.dc n rfl (by rw [hl, hw])) (handed_of rw') ⟨v, H1, I1.tok _, rw', q⟩
end
end L2

namespace PySem
open Sem (wp)

section
variable {prog : Program} {w : World} {A : Around} {E : Value → Shared → Prop} {h : Heap} {g : Array GenState} {d : Drawn} {t : Nat} {os : OsState}
variable {nm q : Str} {C N : Addr} {bs bm bmB : List Value} {hdct : Bool} {sn : List Str} {sub : List Value} {ab : Bool} {col : Option Bool} {dd : Option Addr} {k0 k1 k2 k3 k5 : Option Value} {B newId initId : String}

theorem wpAny_type_call_exc_initT (F : ExcBaseFacts B newId initId bmB) (T : OwnTail h bmB bm) {mN : Str → Option Value} {rest : List Value} {fI : Addr} {oI : Obj} {Q : Fin → Shared → Prop}
    (hC : h.get? C = some (excClassObj nm q C N bs bm hdct sn sub ab col dd k0 k1 k2 k3 k5 newId)) (hn : h.Ns N mN) (hi : mN "__init__" = some (.ref fI))
    (hfI : h.get? fI = some oI) (hfc : oI.cls = .type "function")
    (hq : ∀ h' e, Heap.MadeExcOf h h' e (.ref C) rest →
      wpAny (model prog w) A (call (.ref fI) (.ref e :: rest)) (fun r s' => r = .none ∧ Q (.done (.ret (.ref e))) s') E ⟨h', g, d, t, os⟩) (hrest : rest.length ≤ sizeLine := by size_fits) :
    wpAny (model prog w) A (Builtin.«type.__call__» ⟨.ref C :: rest, []⟩) Q E ⟨h, g, d, t, os⟩ := by
  repeat (first | with_reducible refine wpAny_loadPart_at hC ?_ | with_reducible refine wpAny_madeBy_exc hC ?_ | wp_step)
  refine codeAny_call_builtin_code (Code.quiet_builtin _ F.quiet) (wpAny_check_new_subT F T hC ?_)
  refine codeAny_exc_new_subT F T hC ?_ hrest
  show wpAny _ _ _ _ _ _
  have hC₁ := Heap.get?_push_of_some { cls := .ref C, data := .fields #[.ref h.objs.size, .none, .none, .none, .bool false, .none] }
    (Heap.get?_push_of_some { cls := .type "tuple", data := .seq rest.toArray } hC)
  have hfI₁ := Heap.get?_push_of_some { cls := .ref C, data := .fields #[.ref h.objs.size, .none, .none, .none, .bool false, .none] }
    (Heap.get?_push_of_some { cls := .type "tuple", data := .seq rest.toArray } hfI)
  have hn₁ : ((h.push { cls := .type "tuple", data := .seq rest.toArray }).push { cls := .ref C, data := .fields #[.ref h.objs.size, .none, .none, .none, .bool false, .none] }).Ns N mN :=
    let ⟨o, es, ep, e, r⟩ := hn; ⟨o, es, ep, Heap.get?_push_of_some _ (Heap.get?_push_of_some _ e), r⟩
  have hget : ((h.push { cls := .type "tuple", data := .seq rest.toArray }).push
      { cls := .ref C, data := .fields #[.ref h.objs.size, .none, .none, .none, .bool false, .none] }).get? (h.objs.size + 1) = some
      { cls := .ref C, data := .fields #[.ref h.objs.size, .none, .none, .none, .bool false, .none] } := by heap_get
  have hcC : (Value.ref C :: bm).contains (.ref C) = true := by simp
  have T₁ := T.keeps (h' := (h.push { cls := .type "tuple", data := .seq rest.toArray }).push { cls := .ref C, data := .fields #[.ref h.objs.size, .none, .none, .none, .bool false, .none] })
    fun b o e => Heap.get?_push_of_some _ (Heap.get?_push_of_some _ e)
  unfold isInstance
  repeat (first | with_reducible refine wpAny_loadPart_at hget ?_ | (with_reducible refine wpAny_isSubtype_exc hC₁ ?_; rw [hcC]) | wp_step)
  show wpAny _ _ (typeLookup (.ref C) _) _ _ _
  refine wpAny_typeLookup_tail hC₁ hn₁ T₁ F.mroIs F.init.lookup ?_
  rw [hi]
  refine wpAny_holding (wpAny_bind ?_)
  unfold bindSpecial
  refine wpAny_bind (wpAny_typeOf (T := "function") ⟨_, hfI₁, hfc⟩ ?_)
  rw [if_pos (by decide)]
  refine wpAny_pure (wpAny_bind (wpAny_mono (hq _ (h.objs.size + 1) ⟨fun b o hb => Heap.get?_push_of_some _ (Heap.get?_push_of_some _ hb), Heap.get?_none_of_le (Nat.le_succ _), h.objs.size, hget, Heap.get?_none_of_le (Nat.le_refl _), ?_⟩) (fun r s' hr => ?_) fun _ _ x => x))
  · exact Heap.get?_push_of_some _ (Heap.get?_push_at rfl rfl)
  · obtain ⟨rfl, hQ⟩ := hr
    wp_walk
    exact hQ

theorem wpAny_call_exc_initT (F : ExcBaseFacts B newId initId bmB) (T : OwnTail h bmB bm) {mN : Str → Option Value} {rest : List Value} {fI : Addr} {oI : Obj} {Q : Value → Shared → Prop}
    (hC : h.get? C = some (excClassObj nm q C N bs bm hdct sn sub ab col dd k0 k1 k2 k3 k5 newId)) (hn : h.Ns N mN) (hi : mN "__init__" = some (.ref fI))
    (hfI : h.get? fI = some oI) (hfc : oI.cls = .type "function")
    (hq : ∀ h' e, Heap.MadeExcOf h h' e (.ref C) rest →
      wpAny (model prog w) (A.under (.builtin "type.__call__" ⟨.ref C :: rest, []⟩)) (call (.ref fI) (.ref e :: rest)) (fun r s' => r = .none ∧ Q (.ref e) s') E ⟨h', g, d, t, os⟩) (hrest : rest.length ≤ sizeLine := by size_fits) :
    wpAny (model prog w) A (call (.ref C) rest) Q E ⟨h, g, d, t, os⟩ := by
  have f1 := tc_lookup
  have f2 := tc_bind (.ref C)
  have hT : (⟨h, g, d, t, os⟩ : Shared).TypeIs (.ref C) "type" := ⟨_, hC, rfl⟩
  refine wpAny_call (codeAny_of_tree ?_)
  show wpAny _ _ (callAny (.ref C) _) _ _ _
  repeat (any_goals (first | assumption | with_reducible refine wpAny_loadPart_at hC ?_ | wp_step))
  refine ⟨rfl, ?_⟩
  refine codeAny_call_builtin_at (Code.quiet_builtin _ (by decide +kernel)) entry_typeCall (wpAny_check_type_call_sub hC (wpAny_type_call_exc_initT (hrest := hrest) F T hC hn hi hfI hfc fun h' e hm => ?_))
  exact hq h' e hm
end

end PySem

/-! raise of an exception whose class has an __init__ of its own: what is raised may have a dict -/
namespace PySem
section
variable {M : Model} {A : Around} {E : Value → Shared → Prop} {env : Env}
variable {nm q : Str} {C N : Addr} {bs bm : List Value} {hdct : Bool} {sn : List Str} {sub : List Value} {ab : Bool} {col : Option Bool} {dd : Option Addr} {k0 k1 k2 k3 k5 : Option Value} {newId : String}
theorem raiseStmt_own {s : Shared} {x : Sem Value} {Q : Flow → Shared → Prop} (hbase : bm.contains (.type "BaseException") = true) (hh : A.handled = none)
    (h : wpAny M A x (fun v s₁ => ∃ e o, v = .ref e ∧ s₁.heap.get? C = some (excClassObj nm q C N bs bm hdct sn sub ab col dd k0 k1 k2 k3 k5 newId) ∧
      s₁.heap.get? e = some o ∧ o.cls = .ref C ∧ (∃ vs, o.data = .fields vs ∧ vs[1]? = some .none) ∧ E (.ref e) s₁) E s) :
    wpAny M A (raiseStmt env (some x) none) Q E s := by
  have hcB : (Value.ref C :: bm).contains (.type "BaseException") = true := by rw [List.contains_cons, hbase, Bool.or_true]
  unfold raiseStmt
  refine wpAny_bind (wpAny_mono h (fun v s₁ h₁ => ?_) fun _ _ x => x)
  obtain ⟨e, ⟨cl, di, da, sl⟩, rfl, hC, he, hcl, ⟨vs, hda, hv⟩, hE⟩ := h₁
  cases hcl
  cases hda
  obtain ⟨hp, g, d, tk, os⟩ := s₁
  repeat (first | with_reducible refine wpAny_loadPart_at he ?_ | with_reducible refine wpAny_loadPart_at hC ?_ | (with_reducible refine wpAny_isSubtype_exc hC ?_; rw [hcB]) | wp_step)
  rw [hv]
  refine wpAny_pure ?_
  rw [if_neg (by decide)]
  exact wpAny_pure (wpAny_raiseNew_none hh hE)
end
end PySem

set_option maxHeartbeats 4000000
namespace L2
open PySem PySem.Spec PyProof.Rows Fx
structure InitAt (K : PySem.W.Frag) (C f : Addr) (qual : Str) (st : Stmt) (bm : List Value) : Prop where
  cl : ∃ N nm q bs hdct sn sub ab col dd k0 k1 k2 k3 k5, K.lookup C = some (excClassObj nm q C N bs bm hdct sn sub ab col dd k0 k1 k2 k3 k5 "ValueError.__new__") ∧ PySem.W.nsOkIn K N = true ∧ PySem.W.nsIn K N "__init__" = some (some (.ref f))
  tail : PySem.W.tailIn K bmVE bm = true
  fn : ∃ od kV doc pm an cdv ct osl, K.lookup f = some ⟨.type "function", od, .func (PySem.W.fnOf "__init__" qual (defArgs st) (defBody st) (defScope st) .none kV doc pm an cdv ct), osl⟩ ∧ PySem.W.codeIn K cdv qual = true
  kp : PySem.W.keepIn K (.ref C) = true
  sa : PySem.W.findIn K (.ref C) "__setattr__" = some (some (.builtin "object.__setattr__"))
  po : ((PySem.W.clsIn K C).any fun cd => PySem.W.overVE cd.mro) = true
  g : PySem.W.ExcG K C
theorem initAt {K : PySem.W.Frag} {C f N : Addr} {qual : Str} {st : Stmt} {bm : List Value} {nm q : Str} {bs : List Value} {hdct : Bool} {sn : List Str} {sub : List Value} {ab : Bool} {col : Option Bool} {dd od an : Option Addr} {k0 k1 k2 k3 k5 : Option Value} {kV doc pm cdv ct : Value} {osl : Array (Option Value)}
    (l : K.lookup C = some (excClassObj nm q C N bs bm hdct sn sub ab col dd k0 k1 k2 k3 k5 "ValueError.__new__")) (o : PySem.W.nsOkIn K N = true) (n : PySem.W.nsIn K N "__init__" = some (some (.ref f))) (t : PySem.W.tailIn K bmVE bm = true)
    (lf : K.lookup f = some ⟨.type "function", od, .func (PySem.W.fnOf "__init__" qual (defArgs st) (defBody st) (defScope st) .none kV doc pm an cdv ct), osl⟩) (c : PySem.W.codeIn K cdv qual = true)
    (kp : PySem.W.keepIn K (.ref C) = true) (sa : PySem.W.findIn K (.ref C) "__setattr__" = some (some (.builtin "object.__setattr__"))) (po : ((PySem.W.clsIn K C).any fun cd => PySem.W.overVE cd.mro) = true) (g : PySem.W.ExcG K C) : InitAt K C f qual st bm :=
  ⟨⟨N, nm, q, bs, hdct, sn, sub, ab, col, dd, k0, k1, k2, k3, k5, l, o, n⟩, t, ⟨od, kV, doc, pm, an, cdv, ct, osl, lf, c⟩, kp, sa, po, g⟩
def ExcN (di : Option Addr) (a C : Addr) : HO := .ext fun h => ∃ o vs, h.get? a = some o ∧ (o.cls = .ref C ∧ o.dict = di) ∧ o.data = .fields vs ∧ vs[1]? = some .none ∧ vs[2]? = some .none
def drop (H : Hp) (a : Addr) : Hp := fun b => if b = a then none else H b
theorem drop_ne {H : Hp} {a b : Addr} (h : b ≠ a) : drop H a b = H b := by unfold drop; rw [if_neg h]
theorem drop_same {H : Hp} {a : Addr} : drop H a a = none := by unfold drop; rw [if_pos rfl]
section
variable {X : Cx} {pins : List (Addr × Obj)} {σ : St} {H : Hp} {s : Shared}
theorem excN_ok {P : Program} {w : World} {h : Heap} {di : Option Addr} {a C : Addr} {o : Obj} {vs : Array Value} (e : h.get? a = some o) (c : o.cls = .ref C ∧ o.dict = di) (d : o.data = .fields vs) (v : vs[1]? = some .none ∧ vs[2]? = some .none) : ObjOk P w H h a (ExcN di a C) :=
  ⟨⟨o, vs, e, c, d, v⟩, ⟨o, e⟩, fun h1 h2 ⟨o, vs, q1, q2, q3⟩ k => ⟨o, vs, k o q1, q2, q3⟩⟩
theorem Inv.drop {a : Addr} {φ : Heap → Prop} (I : Inv X pins σ H s) (e : H a = some (.ext φ)) : Inv X pins σ (L2.drop H a) s := by
  have ne : ∀ b u, H b = some u → (∀ φ, u ≠ .ext φ) → b ≠ a := fun b u hb hu z => by subst z; rw [e] at hb; exact hu φ (Option.some.inj hb).symm
  refine I.call' (ch := []) rfl ⟨fun b o hb hn _ _ => hb, fun b o hb hn _ _ => ⟨o.slots, hb⟩, fun b o hb hn _ => ?_, fun b o hb _ => ⟨o, hb⟩, fun b xs hb => ?_, fun b o u hb => ?_, fun b ps hb => ?_⟩ (fun c o hc => ?_) I.bare (fun b hb => by cases hb)
  · by_cases z : b = a
    · subst z; exact drop_same
    · rw [drop_ne z]; exact hn
  · rw [drop_ne (ne b _ hb (by intro φ z; cases z))]; exact hb
  · rw [drop_ne (ne b _ hb (by intro φ z; cases z))]; exact hb
  · exact ⟨#[], by rw [drop_ne (ne b _ hb (by intro φ z; cases z)), hb, Array.append_empty]⟩
  · have z : c ≠ a := fun z => by subst z; rw [drop_same] at hc; cases hc
    rw [drop_ne z] at hc
    exact (I.hok c o hc).stay (fun d v hd q => q) (fun b q => by rw [drop_ne (ne b _ q (by intro φ z; cases z))]; exact q) fun b xs q => by rw [drop_ne (ne b _ q (by intro φ z; cases z))]; exact q
theorem Inv.madeExc {h1 : Heap} {a C : Addr} {args : List Value} (I : Inv X pins σ H s) (m : Heap.MadeExcOf s.heap h1 a (.ref C) args) : Inv X pins σ (upd H a (ExcN none a C)) { s with heap := h1 } := by
  obtain ⟨t, he, _, _⟩ := m.there
  have na := I.newH m.new
  have nea : ∀ b u, H b = some u → b ≠ a := fun b u hb z => by rw [z, na] at hb; cases hb
  refine I.call' (s' := { s with heap := h1 }) (ch := []) rfl ⟨fun b o hb hn _ _ => m.keeps b o hb, fun b o hb hn _ _ => ⟨o.slots, m.keeps b o hb⟩, fun b o hb hn _ => ?_, fun b o hb _ => ⟨o, m.keeps b o hb⟩, fun b xs hb => ?_, fun b o u hb => ?_, fun b ps hb => ?_⟩ (fun c o hc => ?_) I.bare (fun b hb => by cases hb)
  · rw [upd_ne (fun z => by rw [z, m.new] at hb; cases hb)]; exact hn
  · rw [upd_ne (nea b _ hb)]; exact hb
  · rw [upd_ne (nea b _ hb)]; exact hb
  · exact ⟨#[], by rw [upd_ne (nea b _ hb), hb, Array.append_empty]⟩
  · by_cases hca : c = a
    · subst hca
      rw [upd_same] at hc
      cases hc
      exact excN_ok he ⟨rfl, rfl⟩ rfl ⟨rfl, rfl⟩
    · rw [upd_ne hca] at hc
      exact (I.hok c o hc).stay (fun d v _ q => m.keeps d v q) (fun b q => by rw [upd_ne (nea b _ q)]; exact q) fun b xs q => by rw [upd_ne (nea b _ q)]; exact q
end
end L2

set_option maxHeartbeats 4000000
namespace L2
open PySem PySem.Spec PyProof.Rows Fx
theorem ns_at {K : PySem.W.Frag} {h : Heap} {N : Addr} {m : Str → Option Value} {n : Str} {v : Value} (X : K.In h) (G : h.Ns N m) (e : PySem.W.nsIn K N n = some (some v)) : m n = some v := by
  obtain ⟨o, es, ep, ho, hd, _, hf⟩ := G
  unfold PySem.W.nsIn at e
  split at e
  · rename_i c d es' n' sl q
    have := X _ _ q
    rw [ho] at this
    cases this
    cases hd
    split at e
    · rename_i en he
      cases e
      rw [← hf]
      unfold nsFind findBy
      rw [← Array.find?_toList, he]
      rfl
    · split at e <;> cases e
  · cases e
def sFld1 (C : Addr) (ta tv : TE) (f : Str) : TS := fun D σ H => tv σ H fun y H1 => ta σ H1 fun x H2 => ∃ a, x = .ref a ∧ H2 a = some (ExcN none a C) ∧ ∀ dx, H2 dx = none → dx ≠ a → D.nx σ (upd (upd H2 dx (.xd [(f, y)])) a (ExcN (some dx) a C))
section
variable {X : Cx} {pins : List (Addr × Obj)} {σ : St} {H : Hp} {s : Shared}
theorem Inv.firstDict {s' : Shared} {a C dx : Addr} {f : Str} {y : V} {u : Value} {o' : Obj} {vs : Array Value} (I : Inv X pins σ H s) (e : H a = some (ExcN none a C)) (hos : s'.os = s.os) (hb : AllBare s'.gens) (hd : dx = s.heap.objs.size) (ha : s'.heap.get? a = some o') (hc : o'.cls = .ref C ∧ o'.dict = some dx) (hv : o'.data = .fields vs ∧ vs[1]? = some .none ∧ vs[2]? = some .none)
    (hn : s'.heap.Ns1 dx (fun z => if z = f then some u else none)) (ru : RelV y u) (k : ∀ b o, b ≠ a → s.heap.get? b = some o → s'.heap.get? b = some o) :
    Inv X pins σ (upd (upd H dx (.xd [(f, y)])) a (ExcN (some dx) a C)) s' := by
  have nd : H dx = none := by rw [hd]; exact I.hok.fresh (Nat.le_refl _)
  have nea : ∀ b u, H b = some u → (∀ φ, u ≠ .ext φ) → b ≠ a := fun b u hb hu z => by subst z; rw [e] at hb; exact hu _ (Option.some.inj hb).symm
  have ned : ∀ b u, H b = some u → b ≠ dx := fun b u hb z => by rw [z, nd] at hb; cases hb
  have up : ∀ b u, H b = some u → (∀ φ, u ≠ .ext φ) → upd (upd H dx (.xd [(f, y)])) a (ExcN (some dx) a C) b = some u := fun b u hb hu => by rw [upd_ne (nea b u hb hu), upd_ne (ned b u hb)]; exact hb
  have off : ∀ b o, s.heap.get? b = some o → b ≠ dx := fun b o q z => by rw [z, hd] at q; exact Nat.lt_irrefl _ (Heap.lt_size q)
  have nb : ∀ b, H b = none → b ≠ a := fun b hb z => by rw [z, e] at hb; cases hb
  refine I.call' (s' := s') (ch := []) hos ⟨fun b o hb hn _ _ => k b o (nb b hn) hb, fun b o hb hn _ _ => ⟨o.slots, k b o (nb b hn) hb⟩, fun b o hb hn _ => ?_, fun b o hb _ => ?_, fun b xs hb => up b _ hb (by intro φ z; cases z), fun b o u hb => up b _ hb (by intro φ z; cases z), fun b ps hb => ⟨#[], by rw [up b _ hb (by intro φ z; cases z), Array.append_empty]⟩⟩ (fun c o hc' => ?_) hb (fun b hb => by cases hb)
  · rw [upd_ne (nb b hn), upd_ne (off b o hb)]; exact hn
  · by_cases z : b = a
    · subst z; exact ⟨_, ha⟩
    · exact ⟨o, k b o z hb⟩
  · by_cases hca : c = a
    · subst hca
      rw [upd_same] at hc'
      cases hc'
      exact excN_ok ha hc hv.1 hv.2
    · rw [upd_ne hca] at hc'
      by_cases hcd : c = dx
      · subst hcd
        rw [upd_same] at hc'
        cases hc'
        refine ⟨_, hn, fun g => ?_⟩
        by_cases hg : g = f
        · subst hg
          simp only [List.lookup, beq_self_eq_true, if_true]
          exact ru
        · simp only [List.lookup, beq_eq_false_iff_ne.mpr hg, if_neg hg]
          trivial
      · rw [upd_ne hcd] at hc'
        refine (I.hok c o hc').stay (fun d v hd' q => k d v ?_ q) (fun b q => up b _ q (by intro φ z; cases z)) fun b xs q => up b _ q (by intro φ z; cases z)
        rcases hd' with rfl | q'
        · exact hca
        · exact nea d _ q' (by intro φ z; cases z)
theorem ps_fld1 {o value : Expr} {f : Str} {pos pos' : Pos} {ta tv : TE} {C : Addr} (hs' : PySem.W.findIn X.K (.ref C) "__setattr__" = some (some (.builtin "object.__setattr__"))) (hp : ((PySem.W.clsIn X.K C).any fun cd => PySem.W.overVE cd.mro) = true) (hh : PySem.W.hasDictIn X.K C = true) (hn : NoAttr X.K C f)
    (ha : PE X o ta) (hv : PE X value tv) (hs : swapsWith value (some (.Attribute o f pos')) pos.line X.env = pure false) : PS X (.Assign [.Attribute o f pos'] value pos) (sFld1 C ta tv f) := by
  intro pins s σ H D I h
  refine plainObj_wpAny_Assign_Attribute (thn (hv pins s σ H _ I h) fun u s1 ⟨y, H1, I1, ry, q⟩ => thn (ha pins s1 σ H1 _ I1 q) fun ov s2 ⟨x, H2, I2, rx, a, ex, ea, q2⟩ => ?_) hs
  subst ex
  obtain rfl : ov = Value.ref a := rx
  obtain ⟨⟨o, vs, q1, ⟨q2', q3⟩, q4, q5⟩, _, _⟩ := (show ObjOk X.prog X.w H2 s2.heap a (ExcN none a C) from I2.hok a _ ea)
  have nc : PySem.W.notCls o = true := by unfold PySem.W.notCls; rw [q4]
  have J : PySem.W.InstAt s2.heap a o C none := ⟨q1, q2', nc, by rw [q3]; trivial⟩
  refine PySem.W.set_first I2.kIn J q3 (Obj.isFreed_of_fields q4) hs' hp hn hh fun h' e1 e2 e3 => ?_
  refine ⟨σ, _, Inv.firstDict (s' := { s2 with heap := h', toks := s2.toks + 2 }) I2 ea rfl I2.bare rfl e1 ⟨q2', rfl⟩ ⟨q4, q5⟩ e2 ry e3, q2 _ (I2.hok.fresh (Nat.le_refl _)) fun z => ?_⟩
  have := Heap.lt_size q1
  rw [← z] at this
  exact Nat.lt_irrefl _ this
end
def spInit (C : Addr) (f : Str) : Sp := fun vs H Q _ => ∃ a y, vs = [.ref a, y] ∧ H a = some (ExcN none a C) ∧ ∀ dx, H dx = none → dx ≠ a → Q .non (upd (upd H dx (.xd [(f, y)])) a (ExcN (some dx) a C))
structure InitCal (P : Program) (w : World) (K : PySem.W.Frag) (mg : Str → Option Value) (base : Heap) (k : Nat) (C : Addr) (bm : List Value) (f : Str) : Prop where
  ex : ∃ (fi : Addr) (qual : Str) (st : Stmt) (fd : FuncData) (ps : List Str), InitAt K C fi qual st bm ∧ FnOk P w K mg base CX0 k fi fd ps (spInit C f) ∧ Binds K fd ps []
  na : NoAttr K C f
theorem InitAt.cal {P : Program} {w : World} {K : PySem.W.Frag} {mg : Str → Option Value} {base : Heap} {k : Nat} {C fi : Addr} {qual : Str} {st : Stmt} {bm : List Value} {f x0 x1 : Str} {N : List Str} (x : InitAt K C fi qual st bm) (na : NoAttr K C f) (S : FnScope N [x0, x1] (defScope st))
    (bi : ∀ (kV doc pm : Value) (an : Option Addr) (cdv ct : Value) (a0 a1 : Value), bindArgs (PySem.W.fnOf "__init__" qual (defArgs st) (defBody st) (defScope st) .none kV doc pm an cdv ct) ⟨[a0, a1], []⟩ = pure [(x0, a0), (x1, a1)])
    (hbody : ∀ (f' : Addr) (cdv : Value) (A : Around) (outer : List Env) (s : Shared) (H : Hp) (vs : List V) (Q : VK) (E : XK), spInit C f vs H Q E →
      ∃ t, PSs (cxOf CX0 P w K mg base N qual (defScope st) f' cdv A outer s H E).nox (defBody st) t ∧ t { nx := fun _ H' => Q .non H', rt := Q } (start N vs) H) : InitCal P w K mg base (k + 1) C bm f := by
  obtain ⟨od, kV, doc, pm, an, cdv, ct, osl, lk, hcd⟩ := x.fn
  refine ⟨⟨fi, qual, st, _, _, x, fn_of lk hcd S (fun vs H Q E h => ?_) fun A outer s H vs Q E hr hsp => ?_, .all fun us hl => ?_⟩, na⟩
  · obtain ⟨a, y, rfl, _⟩ := h; rfl
  · obtain ⟨t, h, q⟩ := hbody fi cdv A outer s H vs Q E hsp
    exact ⟨t, h.nox, q⟩
  · match us, hl with
    | [a0, a1], _ => exact bi kV doc pm an cdv ct a0 a1
section
variable {X : Cx} {E : XK} {x f : Str} {C : Addr} {e : Expr} {es : List Expr} {t : TA} {np cpos pos : Pos} {bm : List Value} {k : Nat}
def tRaiseI (E : XK) (C : Addr) (f : Str) (t : TA) : TS := fun _ σ H => t σ H fun vs H1 => ∃ y, vs = [y] ∧ ∀ dx, H1 dx = none → E (.ref C) (some dx) (upd H1 dx (.xd [(f, y)]))
theorem ps_raiseI (c : InitCal X.prog X.w X.K X.mg X.base k C bm f) (hr : Room (k + 1) X.A) (F : Flies X E) (hc : X.calm = true) (hg : Gl X x) (hm : X.mg x = some (.ref C)) (ha : PA X (e :: es) t) (hdb : (x == ("__debug__" : Str)) = false := by decide)
    (he : starEach (e :: es) X.env = (false, eval e X.env) :: starEach es X.env := by rfl) (hpl : (backTo cpos (starEach es X.env)).any (·.1) = false := by rfl) :
    PS X (.Raise (some (.Call (.Name x np) (e :: es) [] cpos)) none pos) (tRaiseI E C f t) := by
  intro pins s σ H D I h
  obtain ⟨⟨fi, qual, st, fd, ps, ia, fo, bi⟩, na⟩ := c
  obtain ⟨N, nm, q, bs, hdct, sn, sub, ab, col, dd, k0, k1, k2, k3, k5, lk, ok, ni⟩ := ia.cl
  obtain ⟨od, kV, doc, pm, an, cdv, ct, osl, lf, _⟩ := ia.fn
  have KX := I.ok.mod.kin
  have hC := KX _ _ lk
  have hF := KX _ _ lf
  have hN : X.base.Ns N _ := .of_isNs (PySem.W.isNs_of_in KX ok)
  have hni := ns_at KX hN ni
  have T := PySem.W.tail_of_in KX ia.tail
  have call : wpAny (model X.prog X.w) X.A (eval (.Call (.Name x np) (e :: es) [] cpos) X.env) (fun v s₁ => ∃ e o, v = .ref e ∧ s₁.heap.get? C = some (excClassObj nm q C N bs bm hdct sn sub ab col dd k0 k1 k2 k3 k5 "ValueError.__new__") ∧
      s₁.heap.get? e = some o ∧ o.cls = .ref C ∧ (∃ vs, o.data = .fields vs ∧ vs[1]? = some .none) ∧ X.xe (.ref e) s₁) X.xe s := by
    refine wpAny_Call_Name_kw (ld_glob I hg hm ?_ hdb)
    refine PySem.W.callWith_K (h₀ := X.base) I.ok.mod.kin ia.kp (thn (ha cpos pins s σ H _ I h) fun us s1 ⟨vs, H1, I1, r, y, ey, q1⟩ => ⟨I1.kIn, ?_⟩) he hpl
    subst ey
    obtain ⟨u, rfl, ru⟩ : ∃ u, us = [u] ∧ RelV y u := by
      cases r with
      | cons r0 rn => cases rn with
        | nil => exact ⟨_, rfl, r0⟩
    obtain ⟨hp1, g1, d1, t1, os1⟩ := s1
    refine wpAny_call_exc_initT PySem.F.excBase_ValueError (T.keeps I1.bk) (I1.bk _ _ hC) (hN.keeps I1.bk) hni (I1.bk _ _ hF) rfl (fun h' a m => ?_) (by show 1 ≤ sizeLine; decide)
    have I2 := I1.madeExc m
    have nH : H1 a = none := I1.newH m.new
    have r2 : Vals [V.ref a, y] ([Value.ref a, u] ++ []) := .cons rfl (.cons ru .nil)
    have hsp : spInit C f [.ref a, y] (upd H1 a (ExcN none a C)) (fun v H2 => v = .non ∧ ∃ dx, H1 dx = none ∧ dx ≠ a ∧ H2 = upd (upd (upd H1 a (ExcN none a C)) dx (.xd [(f, y)])) a (ExcN (some dx) a C)) E0 :=
      ⟨a, y, rfl, upd_same, fun dx hd nd => ⟨rfl, dx, by rw [upd_ne nd] at hd; exact hd, nd, rfl⟩⟩
    have hl : ([Value.ref a, u] ++ []).length = ps.length := by rw [← r2.length]; exact fo.len _ _ _ _ hsp
    refine wpAny_call (codeAny_mono (fo.run _ X.stack _ _ ⟨[Value.ref a, u], []⟩ ([Value.ref a, u] ++ []) _ _ E0 (hr.make C [u] []) (I2.env0.make C [u] []) (bi _ [Value.ref a, u] I2.kIn hl) r2 hsp) fun rr s' hq' => ?_)
    cases rr with
    | error e => exact False.elim hq'
    | ok fl =>
      cases fl with
      | next => exact False.elim hq'
      | brk => exact False.elim hq'
      | cont => exact False.elim hq'
      | ret uu =>
        obtain ⟨v, H2, I3, rv, ev, dx, hdx, ndx, eH⟩ := I2.after hq'
        subst ev
        subst eH
        obtain ⟨⟨o, vs', q1', ⟨q2', q3⟩, q4, q5⟩, _, _⟩ := (show ObjOk X.prog X.w _ s'.heap a (ExcN (some dx) a C) from I3.hok a _ upd_same)
        have I4 := I3.drop (a := a) upd_same
        have eD : L2.drop (upd (upd (upd H1 a (ExcN none a C)) dx (.xd [(f, y)])) a (ExcN (some dx) a C)) a = upd H1 dx (.xd [(f, y)]) := by
          funext b
          by_cases z : b = a
          · subst z; rw [drop_same, upd_ne (Ne.symm ndx), nH]
          · rw [drop_ne z, upd_ne z]
            by_cases z2 : b = dx
            · subst z2; rw [upd_same, upd_same]
            · rw [upd_ne z2, upd_ne z2, upd_ne z]
        rw [eD] at I4
        refine ⟨rv, a, o, rfl, I3.bk _ _ hC, q1', q2', ⟨vs', q4, q5.1⟩, ?_⟩
        have ne : X.s₀.heap.get? a = none ∧ (upd H1 dx (.xd [(f, y)])) a = none := ⟨I1.new0 F m.new, by rw [upd_ne (Ne.symm ndx)]; exact nH⟩
        refine F.xe _ _ ?_
        refine leave_first (base := X.base) (outer := X.outer) (s := s') (by rw [I.ok.frames, F.stk.1]) (by rw [← F.stk.1]; exact I4.stack) F.stk.2 q1' q3 q4 q5.1 q5.2 fun h' T' nT tr kp => ?_
        rw [q2'] at tr
        exact Inv.left (s := s') (h1 := s'.heap) (h' := h') I4 F (fun _ _ e => e) (fun b hb => by rw [List.mem_singleton.mp hb]; exact ne) kp ne ⟨I4.new0 F nT, I4.newH nT⟩ tr (q1 dx hdx)
  rw [arm_exec_Raise]
  refine wpAny_bind (wpAny_standAt (raiseStmt_own (C := C) (nm := nm) (q := q) (N := N) (bs := bs) (bm := bm) (hdct := hdct) (sn := sn) (sub := sub) (ab := ab) (col := col) (dd := dd) (k0 := k0) (k1 := k1) (k2 := k2) (k3 := k3) (k5 := k5) (newId := "ValueError.__new__") (T.hasType PySem.F.excBase_ValueError.hasBase) (I.ok.hd hc) (wpAny_bind (wpAny_mono call (fun v s₃ h₃ => wpAny_bind (wpAny_standAt (wpAny_pure h₃))) fun _ _ x => x))))
end
end L2

set_option maxHeartbeats 4000000
namespace L2
open PySem PySem.Spec PyProof.Rows Fx
section
variable {X : Cx}
theorem pe_own {x : Str} {C : Addr} {pos : Pos} (hg : Gl X x) (hm : X.mg x = some (.ref C)) (hd : (x == ("__debug__" : Str)) = false := by decide) : PE X (.Name x pos) (tC (.ref C)) :=
  fun _ _ _ H _ I h => ld_glob I hg hm ⟨.ref C, H, I, rfl, h⟩ hd
end
/-! ### calls of defs that may raise -/
structure CalX (P : Program) (w : World) (K : PySem.W.Frag) (mg : Str → Option Value) (base : Heap) (k : Nat) (x : Str) (ps : List Str) (sp : Sp) : Prop where
  ex : ∃ f fd, FnOk P w K mg base (CX2 P w) k f fd ps sp ∧ Binds K fd ps [] ∧ PySem.W.keepIn K (.ref f) = true ∧ mg x = some (.ref f)
section
variable {X : Cx} {k : Nat} {x : Str} {ps : List Str} {sp : Sp} {p pos : Pos} {e : Expr} {es : List Expr} {t : TA} {E : XK}
theorem pe_calX (c : CalX X.prog X.w X.K X.mg X.base k x ps sp) (hx : Passes (CX2 X.prog X.w) X E) (hr : Room k X.A) (hg : Gl X x) (ha : PA X (e :: es) t) (hdb : (x == ("__debug__" : Str)) = false := by decide)
    (he : starEach (e :: es) X.env = (false, eval e X.env) :: starEach es X.env := by rfl) (hpl : (backTo pos (starEach es X.env)).any (·.1) = false := by rfl) : PE X (.Call (.Name x p) (e :: es) [] pos) (tCall sp [] E t) := by
  obtain ⟨f, fd, F, b, kp, m⟩ := c.ex
  exact pe_call F hr hg m kp b .nil hx ha hdb he hpl
def tCallT (σ0 : St) (sp : Sp) (E : XK) (t : TA) : TE := fun σ H Q => t σ H fun vs H1 => σ = σ0 ∧ sp vs H1 Q E
theorem pe_calT {pins : List (Addr × Obj)} {σ0 : St} (c : CalX X.prog X.w X.K X.mg X.base k x ps sp) (hr : Room k X.A) (hg : Gl X x) (ha : PA (Xt X pins σ0 E) (e :: es) t) (hdb : (x == ("__debug__" : Str)) = false := by decide)
    (he : starEach (e :: es) X.env = (false, eval e X.env) :: starEach es X.env := by rfl) (hpl : (backTo pos (starEach es X.env)).any (·.1) = false := by rfl) : PE (Xt X pins σ0 E) (.Call (.Name x p) (e :: es) [] pos) (tCallT σ0 sp E t) := by
  obtain ⟨f, fd, F, b, kp, m⟩ := c.ex
  intro p2 s σ H Q I h
  refine wpAny_Call_Name_kw (ld_glob I hg m ?_ hdb)
  refine PySem.W.callWith_K (h₀ := X.base) I.ok.mod.kin kp (thn (ha pos p2 s σ H _ I h) fun us s1 ⟨vs, H1, I1, r, e1, q⟩ => ⟨I1.kIn, ?_⟩) he hpl
  subst e1
  have hl : us.length = ps.length := by rw [← r.length]; exact F.len _ _ _ _ q
  have b2 := b s1 us I1.kIn (by rw [List.append_nil]; exact hl)
  rw [List.append_nil] at b2
  refine wpAny_call (codeAny_mono (F.run X.A X.stack s1 H1 ⟨us, []⟩ us vs Q E hr I1.env0 b2 r q) fun r s' hq => ?_)
  cases r with
  | error e => exact ⟨H1, s1, I1.ofXt, hq⟩
  | ok fl =>
    cases fl with
    | ret u => exact I1.after hq
    | next => exact False.elim hq
    | brk => exact False.elim hq
    | cont => exact False.elim hq
end
section
variable {P : Program} {w : World} {K : PySem.W.Frag} {mg : Str → Option Value} {base : Heap}
theorem Cal.x {k : Nat} {x : Str} {ps : List Str} {sp : Sp} (c : Cal P w K mg base k x ps sp) : CalX P w K mg base k x ps sp :=
  let ⟨f, fd, F, b, kp, m⟩ := c.ex
  ⟨f, fd, F.calm, b, kp, m⟩
theorem FunAt.calX {x : Str} {st : Stmt} {dV : Value} {N ps : List Str} {k : Nat} {sp : Sp} (F : FunAt K x st dV) {h : Heap} (X : K.In h) (G : h.Ns mainGlobals mg) (S : FnScope N ps (defScope st)) (bi : BindsAll K x st dV ps) (len : ∀ vs H Q E, sp vs H Q E → vs.length = ps.length)
    (hbody : ∀ (f : Addr) (cdv : Value) (A : Around) (outer : List Env) (s : Shared) (H : Hp) (vs : List V) (Q : VK) (E : XK), Room k (A.deeper (envOfC x (defScope st) s.heap.objs.size f cdv)) → sp vs H Q E →
      ∃ t, PSs (cxOf (CX2 P w) P w K mg base N x (defScope st) f cdv A outer s H E) (defBody st) t ∧ t { nx := fun _ H' => Q .non H', rt := Q } (start N vs) H) : CalX P w K mg base (k + 1) x ps sp := by
  obtain ⟨f, oc, od, kV, doc, pm, an, cdv, ct, osl, lk, hcd, kp, ns⟩ := F.ex
  exact ⟨f, _, fn_of lk hcd S len fun A outer s H vs Q E hr hsp => hbody f cdv A outer s H vs Q E hr hsp, bi kV doc pm an cdv ct, kp, PySem.W.mg_of X G ns⟩
end
end L2

set_option maxHeartbeats 4000000
namespace L2
open PySem PySem.Spec PyProof.Rows Fx
def ClsAt (K : PySem.W.Frag) (C : Addr) (bm : List Value) : Prop := ∃ N nm q bs hdct sn sub ab col dd k0 k1 k2 k3 k5, K.lookup C = some (excClassObj nm q C N bs bm hdct sn sub ab col dd k0 k1 k2 k3 k5 "ValueError.__new__")
theorem ExcAt.cls {K : PySem.W.Frag} {C : Addr} {bm : List Value} (x : ExcAt K C bm) : ClsAt K C bm := by
  obtain ⟨N, nm, q, bs, hdct, sn, sub, ab, col, dd, k0, k1, k2, k3, k5, l, _⟩ := x.ex
  exact ⟨N, nm, q, bs, hdct, sn, sub, ab, col, dd, k0, k1, k2, k3, k5, l⟩
theorem InitCal.cls {P : Program} {w : World} {K : PySem.W.Frag} {mg : Str → Option Value} {base : Heap} {k : Nat} {C : Addr} {bm : List Value} {f : Str} (c : InitCal P w K mg base k C bm f) : ClsAt K C bm := by
  obtain ⟨fi, qual, st, fd, ps, x, _⟩ := c.ex
  obtain ⟨N, nm, q, bs, hdct, sn, sub, ab, col, dd, k0, k1, k2, k3, k5, l, _⟩ := x.cl
  exact ⟨N, nm, q, bs, hdct, sn, sub, ab, col, dd, k0, k1, k2, k3, k5, l⟩
theorem InitCal.g {P : Program} {w : World} {K : PySem.W.Frag} {mg : Str → Option Value} {base : Heap} {k : Nat} {C : Addr} {bm : List Value} {f : Str} (c : InitCal P w K mg base k C bm f) : PySem.W.ExcG K C := by
  obtain ⟨fi, qual, st, fd, ps, x, _⟩ := c.ex
  exact x.g
section
variable {X : Cx} {E : XK} {pins : List (Addr × Obj)} {σ : St} {H : Hp} {s : Shared}
theorem Inv.unset {h' : Heap} {m : Str → Option Value} {v : Option Value} {tk i : Nat} {n : Str} (I : Inv X pins σ H s) (hN : X.N.Nodup) (hi : X.N[i]? = some n) (hm : s.heap.Ns X.env.locals m)
    (hl : ∀ (i : Nat) (x : Str) (v : V), X.N[i]? = some x → σ[i]? = some (some v) → Vis X.env.scope x → ∃ u, RelV v u ∧ Look X.env s.heap m x u)
    (hn : h'.Ns X.env.locals (fun x => if x = n then v else m x)) (hs : Heap.SameBut X.env.locals s.heap h') : Inv X pins (σ.set i none) H { s with heap := h', toks := tk } := by
  have offL : ∀ b o, X.s₀.heap.get? b = some o → b ≠ X.env.locals := fun b o e => Nat.ne_of_lt (Nat.lt_of_lt_of_le (Heap.lt_size e) I.ok.above)
  have cne := I.cne
  refine ⟨I.ok, I.os, I.bare, ⟨fun b o e n hb nx => ?_, fun b o e n hb nx => ?_, I.base.free, fun b o e nx => ?_, I.base.tups, I.base.frzs, I.base.tbls⟩, ⟨_, hn, fun j y v' e1 e2 e3 => ?_⟩, fun x c e => ?_, I.free, I.freeC, fun p hp => ?_, fun b ob e => ?_, by rw [List.length_set]; exact I.len⟩
  · exact (hs.2 b (offL b o e)).trans (I.base.keep b o e n hb nx)
  · obtain ⟨sl, k1⟩ := I.base.slot b o e n hb nx
    exact ⟨sl, (hs.2 b (offL b o e)).trans k1⟩
  · obtain ⟨o', k1⟩ := I.base.there b o e nx
    exact ⟨o', (hs.2 b (offL b o e)).trans k1⟩
  · by_cases hj : j = i
    · subst hj
      by_cases hz : j < σ.length
      · rw [List.getElem?_set_self hz] at e2; cases e2
      · rw [List.getElem?_eq_none (by rw [List.length_set]; omega)] at e2; cases e2
    · rw [List.getElem?_set_ne (Ne.symm hj)] at e2
      obtain ⟨u', r', q⟩ := hl j y v' e1 e2 e3
      refine ⟨u', r', ?_⟩
      rcases q with ⟨k, e⟩ | ⟨k, c, e, z⟩
      · refine .inl ⟨k, ?_⟩
        have : y ≠ n := fun e => hj (nodup_ix hN e1 (e ▸ hi))
        simp [this, e]
      · exact .inr ⟨k, c, e, z.sameBut hs (cne y c e)⟩
  · obtain ⟨v, o, ho, hd⟩ := I.cell x c e
    exact ⟨v, o, (hs.2 c (I.cne x c e)).trans ho, hd⟩
  · obtain ⟨q1, q2, q3, q4, q5⟩ := I.pin p hp
    exact ⟨(hs.2 _ q3).trans q1, q2, q3, q4, q5⟩
  · refine (I.hok b ob e).stay (fun c w' hc q => (hs.2 c ?_).trans q) (fun _ q => q) fun _ _ q => q
    rintro rfl
    rcases hc with rfl | hc
    · rw [I.free] at e; cases e
    · rw [I.free] at hc; cases hc
def tTryN (E : XK) (tb : St → TS) (th : Addr → TS) (i : Nat) : TS := fun D σ H => tb σ D σ H ∧ ∀ a cls di H', E cls di H' → H' a = none → th a { nx := fun σ' H'' => D.nx (σ'.set i none) H'', rt := D.rt } (σ.set i (some (.ref a))) (upd H' a (ExcO di a cls))
end
/-! in a suite behind except -/
theorem call_isinstEH {X : Cx} {e : Addr} : CallR (Xh X e) (.builtin "isinstance") (fun xs H Q => ∃ a di C c cv b, xs = [.ref a, c] ∧ H a = some (ExcO di a (.ref C)) ∧ Dx H di ∧ PySem.W.ExcG X.K C ∧ clV c = some cv ∧ PySem.W.kitOne X.K (.ref C) cv = some b ∧ Q (.bl b) H) := call_isinstE
theorem pe_fldEH {X : Cx} {a : Addr} {e : Expr} {f : Str} {pos : Pos} {ta : TE} (he : PE (Xh X a) e ta) (hb : attributeBase e f X.env (eval e X.env) = eval e X.env) : PE (Xh X a) (.Attribute e f pos) (tFldE X.K ta f) := pe_fldE he hb
end L2

set_option maxHeartbeats 4000000
/-! try, except (A, B) without a name: the suite may go on or return -/
namespace PySem
section
variable {M : Model} {A : Around} {E : Value → Shared → Prop}
theorem excMatches_two {h : Heap} {g : Array GenState} {d : Drawn} {t : Nat} {os : OsState} {e C D D2 tp : Addr} {oe : Obj} {Q : Bool → Shared → Prop} {b1 b2 : Bool}
    {nm q : Str} {N : Addr} {bs bm : List Value} {hdct : Bool} {sn : List Str} {sub : List Value} {ab : Bool} {col : Option Bool} {dd : Option Addr} {k0 k1 k2 k3 k5 : Option Value} {newId : String}
    {nm' q' : Str} {N' : Addr} {bs' bm' : List Value} {hdct' : Bool} {sn' : List Str} {sub' : List Value} {ab' : Bool} {col' : Option Bool} {dd' : Option Addr} {k0' k1' k2' k3' k5' : Option Value} {newId' : String}
    {nm2 q2 : Str} {N2 : Addr} {bs2 bm2 : List Value} {hdct2 : Bool} {sn2 : List Str} {sub2 : List Value} {ab2 : Bool} {col2 : Option Bool} {dd2 : Option Addr} {j0 j1 j2 j3 j5 : Option Value} {newId2 : String}
    (hC : h.get? C = some (excClassObj nm q C N bs bm hdct sn sub ab col dd k0 k1 k2 k3 k5 newId)) (hD : h.get? D = some (excClassObj nm' q' D N' bs' bm' hdct' sn' sub' ab' col' dd' k0' k1' k2' k3' k5' newId'))
    (hD2 : h.get? D2 = some (excClassObj nm2 q2 D2 N2 bs2 bm2 hdct2 sn2 sub2 ab2 col2 dd2 j0 j1 j2 j3 j5 newId2)) (ht : PyProof.Rows.IsTup h tp #[.ref D, .ref D2])
    (he : h.get? e = some oe) (hcls : oe.cls = .ref C) (hbase : bm'.contains (.type "BaseException") = true) (hbase2 : bm2.contains (.type "BaseException") = true) (hsub : (Value.ref C :: bm).contains (.ref D) = b1) (hsub2 : (Value.ref C :: bm).contains (.ref D2) = b2) (one : (b1 || b2) = true)
    (hq : Q true ⟨h, g, d, t, os⟩) : wpAny M A (excMatches (.ref e) (.ref tp)) Q E ⟨h, g, d, t, os⟩ := by
  have hcB : (Value.ref D :: bm').contains (.type "BaseException") = true := by rw [List.contains_cons, hbase, Bool.or_true]
  have hcB2 : (Value.ref D2 :: bm2).contains (.type "BaseException") = true := by rw [List.contains_cons, hbase2, Bool.or_true]
  have f := tc_notTuple
  obtain ⟨o, ho, hc, n, hd⟩ := ht
  unfold excMatches
  refine wpAny_bind (wpAny_isInstance ⟨o, ho, hc⟩ isSubtype_tuple_tuple ?_)
  rw [if_pos rfl]
  refine wpAny_bind (wpAny_seqItems ho hd ?_)
  dsimp only [Option.getD]
  cases b1
  · have e2 : b2 = true := one
    subst e2
    repeat (first | (with_reducible refine wpAny_loadPart_at he ?_; rw [hcls]) | with_reducible refine wpAny_loadPart_at hD ?_ | with_reducible refine wpAny_loadPart_at hD2 ?_ | (with_reducible refine wpAny_isSubtype_exc hD ?_; rw [hcB]) | (with_reducible refine wpAny_isSubtype_exc hD2 ?_; rw [hcB2]) | (with_reducible refine wpAny_isSubtype_exc hC ?_; first | rw [hsub] | rw [hsub2]) | wp_step)
    exact hq
  · repeat (first | (with_reducible refine wpAny_loadPart_at he ?_; rw [hcls]) | with_reducible refine wpAny_loadPart_at hD ?_ | with_reducible refine wpAny_loadPart_at hD2 ?_ | (with_reducible refine wpAny_isSubtype_exc hD ?_; rw [hcB]) | (with_reducible refine wpAny_isSubtype_exc hD2 ?_; rw [hcB2]) | (with_reducible refine wpAny_isSubtype_exc hC ?_; rw [hsub]) | wp_step)
    exact hq
end
end PySem
namespace L2
open PySem PySem.Spec PyProof.Rows Fx
section
variable {X : Cx} {E : XK}
def tTry2 (E : XK) (tb : St → TS) (th : TS) : TS := fun D' σ H => tb σ D' σ H ∧ ∀ a cls di H', E cls di H' → H' a = none → th { nx := D'.nx, rt := D'.rt } σ (upd H' a (ExcO di a cls))
structure Takes (K : PySem.W.Frag) (C D D2 : Addr) : Prop where
  ex : ∃ bm b1 b2, ClsAt K C bm ∧ (Value.ref C :: bm).contains (.ref D) = b1 ∧ (Value.ref C :: bm).contains (.ref D2) = b2 ∧ (b1 || b2) = true
theorem ps_try2 {st b₀ : Stmt} {suite : List Stmt} {cx cx2 : Str} {D D2 : Addr} {x1 : Nat} {np np2 tpos hpos pos : Pos} {tb : St → TS} {th : TS} {bm' bm2 : List Value} (hst : X.stack = X.env :: X.outer ∧ X.env.frame = some X.env.locals)
    (hg : Gl X cx) (hm : X.mg cx = some (.ref D)) (hg2 : Gl X cx2) (hm2 : X.mg cx2 = some (.ref D2)) (hD : ExcAt X.K D bm') (hD2 : ExcAt X.K D2 bm2) (hE : ∀ cls di H', E cls di H' → ∃ C, cls = .ref C ∧ Takes X.K C D D2)
    (hb : ∀ pins σ, PSs (Xt X pins σ E) [st] (tb σ)) (hh : ∀ a, PSs (Xh X a) (b₀ :: suite) th) (hdb : (cx == ("__debug__" : Str)) = false := by decide) (hdb2 : (cx2 == ("__debug__" : Str)) = false := by decide) :
    PS X (.Try [st] [.ExceptHandler (some (.Tuple [.Name cx np, .Name cx2 np2] x1 tpos)) none (b₀ :: suite) hpos] [] [] pos) (tTry2 E tb th) := by
  intro pins s σ H D' I h
  obtain ⟨h1, h2⟩ := h
  refine wpAny_Try_except (wpAny_mono (hb pins σ [] s σ H D' I.toXt h1) (fun f s1 q => ?_) (fun e s1 q => ?_))
  · cases f with
    | next => obtain ⟨σ', H', I', q⟩ := q; exact wpAny_execs_nil ⟨σ', H', I'.ofXt, q⟩
    | brk => obtain ⟨σ', H', I', q⟩ := q; exact ⟨σ', H', I'.ofXt, q⟩
    | cont => obtain ⟨σ', H', I', q⟩ := q; exact ⟨σ', H', I'.ofXt, q⟩
    | ret u => obtain ⟨v, σ', H', I', r, q⟩ := q; exact ⟨v, σ', H', I'.ofXt, r, q⟩
  obtain ⟨H1, s0, I0, a, T, cls, di, H', rfl, os, bare, un, nsOk, tr, na, nT, ha, hT, q⟩ := q
  obtain ⟨C, rfl, ⟨bm, b1, b2, hC, hs1, hs2, one⟩⟩ := hE cls di H' q
  have I1 : Inv X pins σ H' s1 := I0.call' (ch := []) os un nsOk bare (fun b hb => by cases hb)
  refine note_next (base := X.base) (outer := X.outer) (by rw [I.ok.frames, hst.1]) (by rw [← hst.1]; exact I1.stack) hst.2 tr fun h' T' nT' tr' kp => ?_
  have kp' : Kp (frs X.stack) [a, T] s1.heap h' := by rw [hst.1]; exact kp
  have I2 : Inv X pins σ (upd H' a (ExcO di a (.ref C))) { s1 with heap := h' } := I0.landed os bare un nsOk kp' na nT ha hT tr'
  obtain ⟨_, _, _, _, _, _, _, _, _, _, _, _, _, _, _, lC⟩ := hC
  obtain ⟨_, _, _, _, _, _, _, _, _, _, _, _, _, _, _, lD, _, _⟩ := hD.ex
  obtain ⟨_, _, _, _, _, _, _, _, _, _, _, _, _, _, _, lD2, _, _⟩ := hD2.ex
  have hz : (2 : Nat) ≤ sizeLine := by decide
  refine wpAny_handleBy_cons (codeAny_handlers_test ?_) (by intro q; cases q)
  refine wpAny_Tuple_spliced (Calls.spliced_cons (ld_glob (X := Xh X a) (I2.toXh (a := a)) hg hm (Calls.spliced_cons (ld_glob (X := Xh X a) (I2.toXh (a := a)) hg2 hm2 (Calls.spliced_nil ⟨hz, ?_⟩) hdb2)) hdb))
  have kpush : ∀ b o, h'.get? b = some o → (h'.push { cls := .type "tuple", data := .seq #[.ref D, .ref D2] }).get? b = some o := fun b o e => Heap.get?_push_of_some _ e
  have hf2 : upd H' a (ExcO di a (.ref C)) h'.objs.size = none := I2.hok.fresh (Nat.le_refl _)
  have I3 : Inv X pins σ (upd (upd H' a (ExcO di a (.ref C))) h'.objs.size (.tup [.ref D, .ref D2])) { s1 with heap := h'.push { cls := .type "tuple", data := .seq #[.ref D, .ref D2] } } :=
    I2.laid (t' := s1.toks) (fun b u e => Heap.get?_push_of_some _ e) (Nat.le_refl _) ⟨hz, [.ref D, .ref D2], .cons rfl (.cons rfl .nil), ⟨_, Heap.get?_push_size _ rfl, rfl, _, rfl⟩⟩
  have TD := PySem.W.tail_of_in I3.kIn hD.tail
  have TD2 := PySem.W.tail_of_in I3.kIn hD2.tail
  obtain ⟨oe, vs, oT, ts, he, ⟨hc, _⟩, hrest⟩ := id tr'
  refine excMatches_two (I3.kIn _ _ lC) (I3.kIn _ _ lD) (I3.kIn _ _ lD2) (tp := h'.objs.size) ⟨_, Heap.get?_push_size _ rfl, rfl, _, rfl⟩ (kpush _ _ he) hc (TD.hasType PySem.F.excBase_ValueError.hasBase) (TD2.hasType PySem.F.excBase_ValueError.hasBase) hs1 hs2 one ?_
  have tr2 : Tr di a T' (.ref C) .none (h'.push { cls := .type "tuple", data := .seq #[.ref D, .ref D2] }) ∨ ∃ fl, Tr di a T' (.ref C) fl (h'.push { cls := .type "tuple", data := .seq #[.ref D, .ref D2] }) := by
    obtain ⟨oe, vs, oT, ts, he, hc, hd, h1, hTe, hT', r⟩ := id tr'
    exact .inr ⟨_, oe, vs, oT, ts, kpush _ _ he, hc, hd, h1, hTe, kpush _ _ hT', r⟩
  obtain ⟨fl, tr2⟩ : ∃ fl, Tr di a T' (.ref C) fl (h'.push { cls := .type "tuple", data := .seq #[.ref D, .ref D2] }) := tr2.elim (fun z => ⟨_, z⟩) id
  refine codeAny_handlers_suite ?_
  refine flight (s := { s1 with heap := h'.push { cls := .type "tuple", data := .seq #[.ref D, .ref D2] } }) tr2 fun h3 tr3 same => ?_
  have ne : ∀ b o, s1.heap.get? b = some o → b ≠ T' := fun b o hb z => by rw [z, nT'] at hb; cases hb
  have kp3 : Kp (frs X.stack) [a, T] s1.heap h3 :=
    ⟨fun b o hb hf hx => (same b (ne b o hb)).trans (kpush _ _ (kp'.keep b o hb hf hx)), fun b o hb hx => let ⟨slo, e⟩ := kp'.slot b o hb hx; ⟨slo, (same b (ne b o hb)).trans (kpush _ _ e)⟩, fun b o hb => let ⟨o', e⟩ := kp'.there b o hb; ⟨o', (same b (ne b o hb)).trans (kpush _ _ e)⟩⟩
  have I4 : Inv X pins σ (upd H' a (ExcO di a (.ref C))) { s1 with heap := h3 } := I0.landed os bare un nsOk kp3 na nT ha hT tr3
  refine wpAny_mono (hh a pins _ σ _ _ (I4.toXh (a := a)) (h2 a _ di H' q ha)) (fun f s5 q5 => ?_) (fun x s5 z => z.elim)
  cases f with
  | next => obtain ⟨σ', H5, I5, q6⟩ := q5; exact ⟨σ', H5, I5.ofXh I.ok, q6⟩
  | brk => obtain ⟨σ', H5, I5, z⟩ := q5; exact z.elim
  | cont => obtain ⟨σ', H5, I5, z⟩ := q5; exact z.elim
  | ret u =>
    obtain ⟨v, σ', H5, I5, r, q6⟩ := q5
    exact ⟨v, σ', H5, I5.ofXh I.ok, r, q6⟩
end
end L2

set_option maxHeartbeats 4000000
namespace L2
theorem pe_alt {X : Cx} {e : PySem.Expr} {t u : TE} (h1 : PE X e t) (h2 : PE X e u) : PE X e (fun σ H Q => t σ H Q ∨ u σ H Q) := fun pins s σ H Q I h => h.elim (h1 pins s σ H Q I) (h2 pins s σ H Q I)
end L2
namespace K95
open PySem PySem.Spec PyProof.Rows L2 Am Pc Ba
open Pt hiding kit_tt
theorem s1l : (1 : Nat) ≤ sizeLine := by decide
structure BadCell (nm : Str) (ns : List Int) (c : Nat) : Prop where
  form : Form nm ns
  bad : (∃ a ∈ named nm ns, a < 0 ∨ (c : Int) ≤ a) ∨ ¬ (named nm ns).Nodup
def BadAt (H : Hp) (c : Nat) (v : V) : Prop := ∃ (p : Addr) (nm : Str) (ns : List Int), v = .ref p ∧ H p = some (MvT nm ns) ∧ BadCell nm ns c
abbrev BadP := Hp → Nat → V → Prop
def spChkX (Bd : BadP) (C : Addr) : Sp := fun vs H _ E => ∃ (v : V) (c : Nat), vs = [v, .int c] ∧ Bd H c v ∧ ∀ H', Same H H' → E (.ref C) none H'
theorem unlike_le {ns : List Int} : unlike ns ≤ ns.length := by
  have key : ∀ i, i ≤ ns.length → (firstMet (fun i => ns.getD i 0) i).length ≤ i := by
    intro i
    induction i with
    | zero => intro _; exact Nat.le_refl _
    | succ i ih =>
      intro hi
      rw [firstMet_succ, step_length]
      have := ih (by omega)
      split <;> omega
  exact key _ (Nat.le_refl _)
theorem unlike_lt {ns : List Int} (h : ¬ ns.Nodup) (l : ns.length ≤ 3) : unlike ns ≠ ns.length := by
  intro e
  apply h
  match ns, l, e with
  | [], _, _ => simp
  | [a], _, _ => simp
  | [a, b], _, e =>
    have e : (firstMet (fun i => [a, b].getD i 0) 2).length = 2 := e
    rw [firstMet_succ, step_length, firstMet_any, firstMet_succ, step_length, firstMet_any] at e
    by_cases c : a = b
    · subst c; simp [firstMet] at e
    · simp [c]
  | [a, b, d], _, e =>
    have e : (firstMet (fun i => [a, b, d].getD i 0) 3).length = 3 := e
    rw [firstMet_succ, step_length, firstMet_any, firstMet_succ, step_length, firstMet_any, firstMet_succ, step_length, firstMet_any] at e
    by_cases c1 : a = b
    · subst c1; simp [firstMet, List.range_succ] at e; split at e <;> omega
    · by_cases c2 : a = d
      · subst c2; simp [firstMet, List.range_succ] at e; split at e <;> omega
      · by_cases c3 : b = d
        · subst c3; simp [firstMet, List.range_succ] at e; split at e <;> omega
        · simp [c1, c2, c3]
section
variable {P : Program} {w : World} {K : PySem.W.Frag} {mg : Str → Option Value} {base : Heap} {k : Nat} {h : Heap} {C : Addr} {bm : List Value}
theorem okx_checkM (F : FunAt K "check_move" (top 18) .none) (X : K.In h) (G : h.Ns mainGlobals mg) (mC : mg "NoMove" = some (.ref C)) (xC : ExcAt K C bm) (c_has_move_form : Cal P w K mg base k "has_move_form" ["thing"] (spNoForm K)) : CalX P w K mg base (k + 1) "check_move" ["move", "cells"] (spChkX (fun H _ v => NoForm K H v) C) := by
  have nd := sc_check.nd
  refine F.calX X G sc_check (bnd2 fun _ _ _ _ _ _ _ _ => rfl) (fun vs H Q E' h => ?_) (fun f cdv A outer s H vs Q E' hr h => ?_)
  · obtain ⟨v, c, rfl, _⟩ := h; rfl
  obtain ⟨v, c, rfl, NF, kx⟩ := h
  refine ⟨_, (@pss_cons _ _ _ _ _ (ps_if (pt_not (pt_val (pe_cal c_has_move_form hr rfl (pa_cons (pv 0) pa_nil)))) (@pss_one _ _ _ (ps_raise flies_of rfl rfl mC xC (pa_cons pe_str pa_nil))) pss_nil) pss_never), ?_⟩
  try dsimp only [cxK]
  exact ⟨_, rfl, v, rfl, NF, fun H1 S1 => ⟨_, rfl, iteT ⟨s1l, kx H1 S1⟩⟩⟩
def outB (c : Nat) (a : Int) : Bool := decide (a < 0) || decide ((c : Int) ≤ a)
theorem okx_checkC (F : FunAt K "check_move" (top 18) .none) (X : K.In h) (G : h.Ns mainGlobals mg) (B : Bs mg) (mC : mg "NoCell" = some (.ref C)) (xC : ExcAt K C bm) (c_has_move_form : Cal P w K mg base k "has_move_form" ["thing"] spHasForm) (c_named_cells : Cal P w K mg base k "named_cells" ["move"] spNamed) : CalX P w K mg base (k + 1) "check_move" ["move", "cells"] (spChkX BadAt C) := by
  have nd := sc_check.nd
  refine F.calX X G sc_check (bnd2 fun _ _ _ _ _ _ _ _ => rfl) (fun vs H Q E' h => ?_) (fun f cdv A outer s H vs Q E' hr h => ?_)
  · obtain ⟨v, c, rfl, _⟩ := h; rfl
  obtain ⟨v, c, rfl, ⟨p, nm, ns, rfl, hp, BC⟩, kx⟩ := h
  have l3 : (named nm ns).length ≤ 3 := by
    have := BC.form.len
    unfold named
    split
    · rw [List.length_take]; omega
    · exact this
  refine ⟨_, (@pss_cons _ _ _ _ _ (ps_if (pt_not (pt_val (pe_cal c_has_move_form hr rfl (pa_cons (pv 0) pa_nil))))
      (@pss_one _ _ _ ps_never)
      pss_nil)
    (@pss_cons _ _ _ _ _ (@ps_set _ _ 2 _ _ _ _ nd rfl (Or.inl rfl) (pe_cal c_named_cells hr rfl (pa_cons (pv 0) pa_nil)) rfl (.inl rfl))
    (@pss_cons _ _ _ _ _ (ps_if (pt_val (pe_callB (call_anyL rfl) rfl B.any boot_any (pa_cons (pe_lc rfl (LcOk.of (Nc := ["cell", "cells"]) (mp := [none, some 1]) (by kernel_rfl)) (pi_tup (pv 2)) (fun _ _ _ _ => (pg_name (i := 0) (show (["cell", "cells"] : List Str).Nodup by decide +kernel) rfl (Or.inl rfl))) (fun _ _ _ _ => (pe_or (pe_cmpR op_lt (pv 0) pe_int (nomark _)) (pe_one (pe_cmpR op_ge (pv 0) (pv 1) (nomark _)))))) pa_nil)))
      (@pss_one _ _ _ (ps_raise flies_of rfl rfl mC xC (pa_cons pe_str pa_nil)))
      pss_nil)
    (@pss_cons _ _ _ _ _ (ps_if (pt_cmpR op_ne (pe_callB call_lenS rfl B.len PySem.boot_len (pa_cons (pe_callTy (call_setT rfl) rfl B.set boot_set (pa_cons (pv 2) pa_nil)) pa_nil)) (pe_callB call_len_seq rfl B.len PySem.boot_len (pa_cons (pv 2) pa_nil)) (nomark _))
      (@pss_one _ _ _ (ps_raise flies_of rfl rfl mC xC (pa_cons pe_str pa_nil)))
      pss_nil)
    (@pss_one _ _ _ (ps_ret (pv 0))))))), ?_⟩
  try dsimp only [cxK]
  refine ⟨_, rfl, p, nm, ns, rfl, hp, BC.form, fun H1 S1 => ⟨_, rfl, iteF ?_⟩⟩
  refine ⟨_, rfl, p, nm, ns, rfl, S1 _ _ hp, BC.form, fun r H2 S2 hr => ?_⟩
  have SR : SqT K H2 r ((named nm ns).map V.int) := SqT.of hr
  refine ⟨_, rfl, r, rfl, ⟨_, SR⟩, fun acc hacc => ?_⟩
  refine lc_tupM (K := K) (fun a => .bl (outB c a)) SR (t64 (by omega)) hacc (fun n H2 N hn S2 kN => ?_) (fun H3 S3 a3 => ?_)
  · refine ⟨_, rfl, _, _, rfl, rfl, _, rfl, decI (fun z => ?_) (fun z => ?_)⟩
    · have e : outB c n = true := by unfold outB; rw [decide_eq_true z]; rfl
      rw [e] at kN
      exact kN
    · refine ⟨_, rfl, _, rfl, _, _, rfl, rfl, ?_⟩
      show N (.bl (decide ((c : Int) ≤ n))) _
      have e : outB c n = decide ((c : Int) ≤ n) := by unfold outB; rw [decide_eq_false z]; rfl
      rw [e] at kN
      exact kN
  have e : (named nm ns).map (fun a => V.bl (outB c a)) = ((named nm ns).map (outB c)).map V.bl := by rw [List.map_map]; rfl
  rw [e] at a3
  have S13 := S1.trans (S2.trans S3)
  refine ⟨acc, _, rfl, SqL.of a3, _, rfl, ?_⟩
  cases hb : ((named nm ns).map (outB c)).any id with
  | true => exact iteT ⟨s1l, kx _ S13⟩
  | false =>
    refine iteF ?_
    refine ⟨_, rfl, r, _, rfl, S3.tup SR, by omega, fun l S hl => ?_⟩
    have s4 := same_new hl (.set S (unlike (named nm ns)))
    have nn : ¬ (named nm ns).Nodup := by
      rcases BC.bad with ⟨a, ha, b⟩ | b
      · exfalso
        have : ((named nm ns).map (outB c)).any id = true := by
          rw [List.any_eq_true]
          refine ⟨true, List.mem_map.mpr ⟨a, ha, ?_⟩, rfl⟩
          unfold outB
          rcases b with b | b
          · rw [decide_eq_true b]; rfl
          · rw [decide_eq_true b]; simp
        rw [hb] at this
        cases this
      · exact b
    have un := unlike_lt nn l3
    have ul := unlike_le (ns := named nm ns)
    exact ⟨l, S, _, rfl, upd_same, by omega, _, rfl, r, _, rfl, .inr (s4.tup (S3.tup SR)), rfl, _, rfl, neI (fun _ => ⟨s1l, kx _ (S13.trans s4)⟩) (fun z => absurd (by rw [List.length_map] at z; omega) un)⟩
end
end K95

namespace Dc
open PySem PySem.Builtin.Str
/-! an int as it is written, and in pieces -/
end Dc
namespace L2
open PySem PySem.Spec PyProof.Rows
section
variable {X : Cx}
theorem strs_of : ∀ {texts : List Str} {its : List Value}, Vals (texts.map V.str) its → ∃ l : List (Str × Tok), its = strValues l ∧ l.map (·.1) = texts
  | [], _, .nil => ⟨[], rfl, rfl⟩
  | x :: r, _, .cons h hs => by
    obtain ⟨t, rfl⟩ := h
    obtain ⟨l, rfl, e⟩ := strs_of hs
    exact ⟨(x, t) :: l, rfl, by rw [List.map_cons, e]⟩
theorem mt_join : MtR X "str.join" (fun x xs H Q => ∃ z p texts, x = .str z ∧ xs = [.ref p] ∧ SqL X.K H p (texts.map V.str) ∧ JoinOk z texts = true ∧ Q (.str (Txt.join z texts)) H) := by
  intro pins s σ H x xs v us Q I rx rs h
  obtain ⟨z, p, texts, rfl, rfl, hl, hj, q⟩ := h
  obtain ⟨t, rfl⟩ := rx
  obtain ⟨u, rfl, ru⟩ := vals1 rs
  cases ru
  obtain ⟨its, rv, pl, _⟩ := I.list hl
  obtain ⟨l, rfl, e⟩ := strs_of rv
  exact SC.join pl.isList e hj fun t' k => ⟨.str (Txt.join z texts), H, I.tok _, ⟨_, rfl⟩, q⟩
end
end L2

/-! texts: slices, find -/
namespace L2
open PySem PySem.Spec PyProof.Rows
section
variable {X : Cx}
def rSlS : V → Option Int → Option Int → Hp → VK → Prop := fun x lo hi H Q => ∃ z, x = .str z ∧ z.length ≤ sizeLine ∧ Q (.str (Txt.slice z lo hi)) H
theorem sl_str : SlR X rSlS := by
  intro pins s σ H x v vl vu lo hi sl Q I rx hs pl pu h
  obtain ⟨z, rfl, hz, q⟩ := h
  obtain ⟨t, rfl⟩ := rx
  obtain ⟨o, e, hc, hd⟩ := hs
  refine ⟨"str", _, F.slot_str_getitem.lookup, typeIs_str _ _ _, ?_⟩
  obtain ⟨l, rfl, rfl⟩ : ∃ l : Option (Int × Tok), vl = partValue l ∧ lo = l.map (·.1) := by
    cases pl with
    | none => exact ⟨none, rfl, rfl⟩
    | int i t => exact ⟨some (i, t), rfl, rfl⟩
  obtain ⟨u, rfl, rfl⟩ : ∃ u : Option (Int × Tok), vu = partValue u ∧ hi = u.map (·.1) := by
    cases pu with
    | none => exact ⟨none, rfl, rfl⟩
    | int i t => exact ⟨some (i, t), rfl, rfl⟩
  exact wpAny_getItem_str_slice (l := l) (u := u) (st := none) ⟨o, e, hc, hd⟩ rfl
    (post_val_or_str ⟨Nat.le_trans (Txt.slice_le z _ _) hz, fun t' k => ⟨.str (Txt.slice z (l.map (·.1)) (u.map (·.1))), H, I.tok _, ⟨_, rfl⟩, q⟩⟩)
theorem mt_find : MtR X "str.find" (fun x xs H Q => ∃ z y, x = .str z ∧ xs = [.str y] ∧ Q (.int (Txt.find z y)) H) := by
  intro pins s σ H x xs v us Q I rx rs h
  obtain ⟨z, y, rfl, rfl, q⟩ := h
  obtain ⟨t, rfl⟩ := rx
  obtain ⟨u, rfl, t', rfl⟩ := vals1 rs
  exact SC.find ⟨.int (Txt.find z y), H, I.tok _, ⟨_, rfl⟩, q⟩
end
end L2

set_option maxHeartbeats 4000000
/-! sorted(d) of a dict whose keys are ints -/
namespace L2
open PySem PySem.Spec PyProof.Rows
end L2

set_option maxHeartbeats 4000000
/-! the keys of a dict, whatever they are: walked, and listed -/
namespace Dk
open PySem PySem.Spec PyProof.Rows
open Sem (wp)
section
variable {prog : Program} {w : World} {A : Around} {E : Value → Shared → Prop} {s : Shared} {d it : Addr} {es : Array DictEntry} {i ep : Nat}
end
end Dk
namespace L2
open PySem PySem.Spec PyProof.Rows
end L2

set_option maxHeartbeats 4000000
/-! {k: v}, k a tuple -/
namespace L2
open PySem PySem.Spec PyProof.Rows
end L2

set_option maxHeartbeats 4000000
/-! enumerate of a list -/
namespace L2
open PySem PySem.Spec PyProof.Rows
section
variable {X : Cx} {es : List Expr} {kk : Nat} {tp : Pos}
end
end L2

set_option maxHeartbeats 4000000
/-! sums, blocks over enumerate, blocks with a test over a list -/
namespace L2
open PySem PySem.Spec PyProof.Rows
end L2

/-! texts: split, strip, times, str and int of a text, a block with a test over texts -/
namespace L2
open PySem PySem.Spec PyProof.Rows PySem.Builtin.Str
section
variable {X : Cx}
theorem vals_of : ∀ l : List (Str × Tok), Vals ((l.map (·.1)).map V.str) (strValues l)
  | [] => .nil
  | p :: r => .cons ⟨p.2, rfl⟩ (vals_of r)
theorem mt_split : MtR X "str.split" (fun x xs H Q => ∃ z y, x = .str z ∧ xs = [.str y] ∧ (y.length == 0) = false ∧ z.length + 2 ≤ sizeLine ∧ ∀ l, H l = none → Q (.ref l) (upd H l (.lst ((Txt.split z y).map V.str)))) := by
  intro pins s σ H x xs v us Q I rx rs h
  obtain ⟨z, y, rfl, rfl, hy, hz, q⟩ := h
  obtain ⟨t, rfl⟩ := rx
  obtain ⟨u, rfl, t', rfl⟩ := vals1 rs
  have hn : (partsBetween z (occurrences z y 0 z.length (z.length + 1)) y.length).length ≤ sizeLine := by
    have := StrLaws.occ_length_le z y 0 z.length (z.length + 1)
    rw [length_partsBetween]
    omega
  have ls : (Txt.split z y).length ≤ sizeLine := by
    unfold Txt.split
    split
    · exact Nat.le_trans (show 1 ≤ 2 by decide) (by omega)
    · split
      · exact Nat.le_trans (show 1 ≤ 2 by decide) (by omega)
      · exact hn
  have fin : ∀ (l : List (Str × Tok)) (k : Nat), l.map (·.1) = Txt.split z y → EP X pins σ Q (.ref s.heap.objs.size) { s with heap := s.heap.push { cls := .type "list", data := .seq (strValues l).toArray }, toks := k } := fun l k e => by
    have V' := vals_of l
    rw [e] at V'
    exact ⟨.ref s.heap.objs.size, _, I.lnew (t' := k) V' (by rw [List.length_map]; exact ls), rfl, q _ I.fresh⟩
  cases c1 : (decide (z.length < y.length) || decide (strKind z < strKind y)) with
  | true => exact call_meets F.slot_str_split (typeIs_str _ _ _) F.entry_str_split (F.args_str_split_2 _ _) (meets_str_split_cannot_occur z y t t' c1) (fin [(z, t)] s.toks (if_pos c1).symm)
  | false =>
    cases c2 : (occurrences z y 0 z.length (z.length + 1)).isEmpty with
    | true => exact call_meets F.slot_str_split (typeIs_str _ _ _) F.entry_str_split (F.args_str_split_2 _ _) (meets_str_split_not_found z y t t' c1 hy c2) (fin [(z, t)] s.toks ((if_neg (ne_true_of_eq_false c1)).trans (if_pos c2)).symm)
    | false =>
      refine call_meets F.slot_str_split (typeIs_str _ _ _) F.entry_str_split (F.args_str_split_2 _ _) (meets_str_split_sep z y t t' c1 hy c2 (by omega) hn) ?_
      show EP X pins σ Q (.ref s.heap.objs.size) { s with toks := _, heap := s.heap.push { cls := .type "list", data := .seq (strsFrom s.toks (partsBetween z (occurrences z y 0 z.length (z.length + 1)) y.length)).toArray } }
      rw [strsFrom_eq]
      exact fin (numbered s.toks _) _ ((numbered_texts _ _).trans ((if_neg (ne_true_of_eq_false c1)).trans (if_neg (ne_true_of_eq_false c2))).symm)
theorem mt_strip : MtR X "str.strip" (fun x xs H Q => ∃ z y, x = .str z ∧ xs = [.str y] ∧ z.length ≤ sizeLine ∧ Q (.str (Txt.stripChars z y)) H) := by
  intro pins s σ H x xs v us Q I rx rs h
  obtain ⟨z, y, rfl, rfl, hz, q⟩ := h
  obtain ⟨t, rfl⟩ := rx
  obtain ⟨u, rfl, t', rfl⟩ := vals1 rs
  exact SC.stripChars (fun t' k => ⟨.str (Txt.stripChars z y), H, I.tok _, ⟨_, rfl⟩, q⟩) hz
theorem call_str_txt : CallR X (.type "str") (fun xs H Q => (∃ z, xs = [.str z] ∧ Q (.str z) H) ∨ ∃ i, xs = [.int i] ∧ i.natAbs.log2 < 1920 ∧ Q (.str (toString i)) H) := by
  intro pins s σ H xs us Q I r h
  rcases h with ⟨z, rfl, q⟩ | h
  · obtain ⟨u, rfl, t, rfl⟩ := vals1 r
    exact PySem.P.str_of_str ⟨.str z, H, I, ⟨_, rfl⟩, q⟩
  · exact call_str_int pins s σ H xs us Q I r h
theorem call_int_txt : CallR X (.type "int") (fun xs H Q => ∃ z n, xs = [.str z] ∧ PySem.intText? z = some n ∧ z.length ≤ 640 ∧ Q (.int n) H) := by
  intro pins s σ H xs us Q I r h
  obtain ⟨z, n, rfl, hn, hl, q⟩ := h
  obtain ⟨u, rfl, t, rfl⟩ := vals1 r
  exact PySem.W.KIN.call_text hn hl ⟨.int n, H, I.tok _, ⟨_, rfl⟩, q⟩
theorem rep_size (z : Array Nat) : ∀ (k : Nat) (a : Array Nat), ((List.replicate k z).foldl (· ++ ·) a).size = a.size + k * z.size
  | 0, a => by simp
  | k + 1, a => by
    rw [List.replicate_succ, List.foldl_cons, rep_size z k, Array.size_append, Nat.succ_mul]
    omega
theorem op_repS : OpR X (binaryOp .Mult) (fun x y H Q => ∃ z k, x = .str z ∧ y = .int k ∧ 0 ≤ k ∧ k < 100 ∧ z.length ≤ 100 ∧ ∀ z', z'.length ≤ z.length * k.toNat → Q (.str z') H) := by
  intro pins s σ H x y v u Q I rx ry h
  obtain ⟨z, k, rfl, rfl, k0, k1, hz, q⟩ := h
  obtain ⟨t, rfl⟩ := rx
  obtain ⟨t', rfl⟩ := ry
  have hk : (decide (k < -(2 ^ 63 : Int)) || decide (k ≥ 2 ^ 63)) = false := by
    rw [decide_eq_false (by omega), decide_eq_false (by omega)]
    rfl
  have hm : z.length * k.toNat ≤ 10000 := Nat.le_trans (Nat.mul_le_mul hz (show k.toNat ≤ 100 by omega)) (by decide)
  have big : (10000 : Nat) ≤ sizeLine := by decide
  refine PySem.P.mul_str hk (fun h1 _ => ?_) (fun _ _ => ?_) ?_
  · have : (100 : Int) ≤ (2 ^ 63 - 1) / k := by
      rw [Int.le_ediv_iff_mul_le (by omega)]
      omega
    omega
  · unfold tooLong
    exact decide_eq_false (by omega)
  · have fin : ∀ z' : Str, z'.length ≤ z.length * k.toNat → (Made.str z').post (EP X pins σ Q) s := fun z' hz' => ⟨Nat.le_trans hz' (Nat.le_trans hm big), .str z', H, I.tok _, ⟨_, rfl⟩, q z' hz'⟩
    split
    · exact fin _ (Nat.zero_le _)
    · split
      · exact ⟨.str z, H, I, ⟨_, rfl⟩, q z (Nat.le_mul_of_pos_right _ (by omega))⟩
      · refine fin _ ?_
        show ((List.replicate k.toNat z.cps).foldl (· ++ ·) #[]).size ≤ z.cps.size * k.toNat
        rw [rep_size, Nat.mul_comm]
        simp
end
theorem lcF_strs {K : PySem.W.Frag} {l : Addr} {zs : List Str} {tc : TT} {te : TE} {fr : St} {H1 : Hp} {acc : Addr} {Q : VK} (p : Str → Bool) (hacc : H1 acc = none) (hl : SqL K H1 l (zs.map V.str)) (hn : zs.length ≤ sizeLine)
    (hs : ∀ z H (N : Bool → Hp → Prop), z ∈ zs → Same H1 H → N (p z) H → tc (some (.str z) :: fr) H N)
    (ht : ∀ z H (N : V → Hp → Prop), z ∈ zs → p z = true → Same H1 H → N (.str z) H → te (some (.str z) :: fr) H N)
    (hd : ∀ H2, Same H1 H2 → H2 acc = some (.lst ((zs.filter p).map V.str)) → Q (.ref acc) H2) : LcWF (Itl K l) (gName 0) tc te (none :: fr) H1 acc Q := by
  refine ⟨fun i m ys σ2 H2 => m = zs.length - i ∧ i ≤ zs.length ∧ (∃ v, σ2 = v :: fr) ∧ Same H1 H2 ∧ H2 acc = some (.lst ys) ∧ ys = ((zs.take i).filter p).map V.str, ⟨zs.length, by simp, Nat.zero_le _, ⟨_, rfl⟩, same_new hacc _, upd_same, by simp⟩, ?_⟩
  rintro i m ys σ2 H2 ⟨rfl, hi, ⟨v, rfl⟩, s2, a2, e2⟩
  by_cases hlt : i < zs.length
  · have e1 : zs[i]? = some zs[i] := by simp [hlt]
    have e3 : (zs.map V.str)[i]? = some (.str zs[i]) := by rw [List.getElem?_map, e1]; rfl
    have yl : ys.length ≤ i := by
      rw [e2, List.length_map]
      exact Nat.le_trans (List.length_filter_le _ _) (by rw [List.length_take]; omega)
    have mem : zs[i] ∈ zs := List.getElem_mem hlt
    refine .inr ⟨⟨_, _, s2.seq hl, e3⟩, fun u H3 y3 => ?_⟩
    obtain ⟨rfl, y4⟩ := y3
    have := y4 _ (s2.seq hl)
    rw [e3] at this
    cases this
    refine hs zs[i] _ _ mem s2 ⟨fun hp => ht zs[i] _ _ mem hp s2 ⟨a2, by omega, zs.length - (i + 1), by omega, rfl, hlt, ⟨_, rfl⟩, same_upd s2 hacc, upd_same, ?_⟩, fun hp => ⟨zs.length - (i + 1), by omega, rfl, hlt, ⟨_, rfl⟩, s2, a2, ?_⟩⟩
    · rw [List.take_add_one, e1, Option.toList_some, List.filter_append, List.map_append, e2]
      simp [hp]
    · rw [List.take_add_one, e1, Option.toList_some, List.filter_append, List.map_append, e2]
      simp [hp]
  · have e : i = zs.length := by omega
    subst e
    exact .inl ⟨⟨_, s2.seq hl, by rw [List.length_map]; exact Nat.le_refl _⟩, hd H2 s2 (by rw [a2, e2, List.take_length])⟩
end L2

/-! texts cut into words -/
namespace M35
open PySem PySem.Builtin.Str L2
def ne0 (w : Str) : Bool := !decide (V.str w = V.str "")
def wds (z : Str) : List Str := (Txt.split z " ").filter ne0
def blank (z : Str) : Prop := ∀ c ∈ z.cps.toList, c = 32
theorem sp_eq : (Str.ofString " ") = ⟨#[32]⟩ := by decide
theorem ne0_nil {w : Str} (h : ne0 w = false) : w.cps.toList = [] := by
  unfold ne0 at h
  have : V.str w = V.str "" := by simpa using h
  injection this with e
  rw [e]
  decide
theorem ne0_of {w : Str} (h : w.cps.toList = []) : ne0 w = false := by
  have e : w = "" := Str.ext' (Array.toList_inj.mp (by rw [h]; decide))
  subst e
  decide
theorem join_mem (y : Str) : ∀ {ps : List Str} {p : Str}, p ∈ ps → ∀ c ∈ p.cps.toList, c ∈ (Str.join y ps).cps.toList
  | [q], p, h, c, hc => by
    rw [List.mem_singleton.mp h] at hc
    exact hc
  | q :: q' :: r, p, h, c, hc => by
    show c ∈ (q ++ y ++ Str.join y (q' :: r)).cps.toList
    rw [Str.cps_append, Array.toList_append, Str.cps_append, Array.toList_append]
    rcases List.mem_cons.mp h with rfl | h
    · simp [hc]
    · exact List.mem_append_right _ (join_mem y h c hc)
theorem join_blank : ∀ {ps : List Str}, (∀ p ∈ ps, p.cps.toList = []) → blank (Str.join ⟨#[32]⟩ ps)
  | [], _ => fun c hc => by cases hc
  | [q], h => fun c hc => by
    have := h q (by simp)
    have hc : c ∈ q.cps.toList := hc
    rw [this] at hc
    cases hc
  | q :: q' :: r, h => fun c hc => by
    have hc : c ∈ (q ++ ⟨#[32]⟩ ++ Str.join ⟨#[32]⟩ (q' :: r)).cps.toList := hc
    rw [Str.cps_append, Array.toList_append, Str.cps_append, Array.toList_append] at hc
    rcases List.mem_append.mp hc with hc | hc
    · rcases List.mem_append.mp hc with hc | hc
      · rw [h q (by simp)] at hc; cases hc
      · simpa using hc
    · exact join_blank (fun p hp => h p (List.mem_cons_of_mem _ hp)) c hc
theorem words_nil (z : Str) : wds z = [] ↔ blank z := by
  unfold wds
  rw [sp_eq]
  constructor
  · intro h
    have e := StrLaws.join_split z ⟨#[32]⟩
    rw [← e]
    refine join_blank fun p hp => ne0_nil ?_
    cases hn : ne0 p with
    | false => rfl
    | true =>
      have : p ∈ (Txt.split z ⟨#[32]⟩).filter ne0 := List.mem_filter.mpr ⟨hp, hn⟩
      rw [h] at this
      cases this
  · intro h
    rw [List.filter_eq_nil_iff]
    intro p hp
    have e := StrLaws.join_split z ⟨#[32]⟩
    have f := StrLaws.split_free z 32 p hp
    have : p.cps.toList = [] := by
      cases hl : p.cps.toList with
      | nil => rfl
      | cons c r =>
        exfalso
        have m : c ∈ p.cps.toList := by rw [hl]; simp
        have m2 := join_mem ⟨#[32]⟩ hp c m
        rw [e] at m2
        rw [h c m2] at m
        exact f m
    rw [ne0_of this]
    simp
theorem tw_all {p : Nat → Bool} : ∀ {l : List Nat}, (l.takeWhile p).length = l.length → ∀ x ∈ l, p x = true
  | [], _, x, hx => by cases hx
  | a :: l, h, x, hx => by
    cases ha : p a with
    | false => rw [List.takeWhile_cons_of_neg (by simp [ha])] at h; simp at h
    | true =>
      rw [List.takeWhile_cons_of_pos ha, List.length_cons, List.length_cons] at h
      rcases List.mem_cons.mp hx with rfl | hx
      · exact ha
      · exact tw_all (l := l) (by omega) x hx
theorem tw_of {p : Nat → Bool} : ∀ {l : List Nat}, (∀ x ∈ l, p x = true) → l.takeWhile p = l
  | [], _ => rfl
  | a :: l, h => by rw [List.takeWhile_cons_of_pos (h a (by simp)), tw_of (l := l) fun x hx => h x (List.mem_cons_of_mem _ hx)]
theorem tw_le {p : Nat → Bool} : ∀ l : List Nat, (l.takeWhile p).length ≤ l.length
  | [] => Nat.le_refl _
  | a :: l => by
    by_cases ha : p a = true
    · rw [List.takeWhile_cons_of_pos ha, List.length_cons, List.length_cons]; have := tw_le (p := p) l; omega
    · rw [List.takeWhile_cons_of_neg ha]; simp
theorem tw_drop {p : Nat → Bool} : ∀ {l : List Nat}, (∀ x ∈ l.drop (l.takeWhile p).length, p x = true) → ∀ x ∈ l, p x = true
  | [], _, x, hx => by cases hx
  | a :: l, h, x, hx => by
    by_cases ha : p a = true
    · rw [List.takeWhile_cons_of_pos ha, List.length_cons, List.drop_succ_cons] at h
      rcases List.mem_cons.mp hx with rfl | hx
      · exact ha
      · exact tw_drop (l := l) h x hx
    · rw [List.takeWhile_cons_of_neg ha] at h
      exact h x (by simpa using hx)
theorem strip_nil (z : Str) : V.str (Txt.stripChars z " ") = V.str "" ↔ blank z := by
  have g : ∀ c, (Str.ofString " ").cps.contains c = true ↔ c = 32 := fun c => by rw [sp_eq]; simp
  have ln : z.cps.toList.length = z.length := by simp [Str.length]
  constructor
  · intro h
    injection h with e
    unfold Txt.stripChars Txt.stripBy at e
    have key : ∀ c ∈ z.cps.toList, (Str.ofString " ").cps.contains c = true := by
      split at e
      · rw [e]
        intro c hc
        have e0 : (Str.ofString "").cps.toList = [] := by decide
        rw [e0] at hc; cases hc
      · have el := congrArg (fun s : Str => s.cps.toList.length) e
        unfold stripped at el
        simp only [StrLaws.strSub_toList] at el
        rw [List.length_take, List.length_drop] at el
        have e0 : (Str.ofString "").cps.toList.length = 0 := by decide
        rw [e0, ln] at el
        have lo := tw_le (p := (Str.ofString " ").cps.contains) z.cps.toList
        rw [ln] at lo
        simp only [stripLo, stripHi, if_true] at el
        refine tw_drop (p := (Str.ofString " ").cps.contains) fun x hx => ?_
        have l2 := tw_le (p := (Str.ofString " ").cps.contains) (z.cps.toList.drop (z.cps.toList.takeWhile (Str.ofString " ").cps.contains).length).reverse
        have l3 : (z.cps.toList.drop (z.cps.toList.takeWhile (Str.ofString " ").cps.contains).length).reverse.length = z.length - (z.cps.toList.takeWhile (Str.ofString " ").cps.contains).length := by rw [List.length_reverse, List.length_drop, ln]
        exact tw_all (l := (z.cps.toList.drop (z.cps.toList.takeWhile (Str.ofString " ").cps.contains).length).reverse) (by omega) x (by rw [List.mem_reverse]; exact hx)
    exact fun c hc => (g c).mp (key c hc)
  · intro h
    have tw : z.cps.toList.takeWhile (Str.ofString " ").cps.contains = z.cps.toList := tw_of fun c hc => (g c).mpr (h c hc)
    have e : Txt.stripChars z " " = "" := by
      unfold Txt.stripChars Txt.stripBy
      split
      · rename_i hs
        unfold stripSame at hs
        simp only [stripLo, if_true, Bool.and_eq_true, beq_iff_eq] at hs
        rw [tw, ln] at hs
        refine Str.ext' (Array.toList_inj.mp ?_)
        have : z.cps.toList = [] := List.eq_nil_of_length_eq_zero (by rw [ln]; exact hs.1)
        rw [this]
        decide
      · refine Str.ext' (Array.toList_inj.mp ?_)
        unfold stripped
        rw [StrLaws.strSub_toList]
        simp only [stripLo, if_true]
        rw [tw, List.drop_length, List.take_nil]
        decide
    rw [e]
/-! figures -/
def fig (w : Str) : Option Nat := match w.cps.toList with
  | [c] => if 48 ≤ c ∧ c ≤ 57 then some (c - 48) else none
  | _ => none
def inS (x w : Str) : Bool := !(occurrences x w 0 x.length 1).isEmpty
theorem one_of {w : Str} (h : w.length = 1) : ∃ c, w = ⟨#[c]⟩ := by
  have l : w.cps.toList.length = 1 := by simpa [Str.length] using h
  match e : w.cps.toList, l with
  | [c], _ => exact ⟨c, Str.ext' (Array.toList_inj.mp (by rw [e]))⟩
theorem fig_none {w : Str} (h : w.length ≠ 1) : fig w = none := by
  unfold fig
  split
  · rename_i c e
    exact absurd (by have := congrArg List.length e; simpa [Str.length] using this) h
  · rfl
theorem in_fig {w : Str} (h : w.length = 1) : inS "0123456789" w = (fig w).isSome := by
  obtain ⟨c, rfl⟩ := one_of h
  unfold inS
  rw [StrLaws.found_one]
  have e : (Str.ofString "0123456789").cps.toList = [48, 49, 50, 51, 52, 53, 54, 55, 56, 57] := by decide
  rw [e]
  show _ = (if 48 ≤ c ∧ c ≤ 57 then some (c - 48) else none).isSome
  by_cases q : 48 ≤ c ∧ c ≤ 57
  · rw [if_pos q]
    simp
    omega
  · rw [if_neg q]
    simp
    omega
theorem fig_int {w : Str} {n : Nat} (h : fig w = some n) : n ≤ 9 ∧ w.length = 1 ∧ PySem.intText? w = some (n : Int) := by
  by_cases l : w.length = 1
  · obtain ⟨c, rfl⟩ := one_of l
    have h : (if 48 ≤ c ∧ c ≤ 57 then some (c - 48) else none) = some n := h
    split at h
    · rename_i q
      injection h with h
      have : c = 48 ∨ c = 49 ∨ c = 50 ∨ c = 51 ∨ c = 52 ∨ c = 53 ∨ c = 54 ∨ c = 55 ∨ c = 56 ∨ c = 57 := by omega
      rcases this with rfl | rfl | rfl | rfl | rfl | rfl | rfl | rfl | rfl | rfl <;> (subst h; exact ⟨by decide, rfl, by decide +kernel⟩)
    · cases h
  · rw [fig_none l] at h; cases h
end M35

set_option maxHeartbeats 4000000
/-! == and != of tuples of a text and ints, and of lists of such tuples -/
namespace L2
open PySem PySem.Spec PyProof.Rows
abbrev Mm := Str × List Int
abbrev mT (m : Mm) : HO := .tup (.str m.1 :: m.2.map V.int)
section
variable {P : Program} {w : World} {H : Hp} {h : Heap}
end
section
variable {X : Cx}
end
end L2

set_option maxHeartbeats 4000000
/-! != of boards whose amounts may be kept; of pairs of a row and an empty list -/
namespace L2
open PySem PySem.Spec PyProof.Rows
section
variable {X : Cx}
end
end L2

set_option maxHeartbeats 4000000
/-! == of two lists of the same things -/
namespace L2
open PySem PySem.Spec PyProof.Rows
inductive FlV : V → PyData → Prop where
  | non : FlV .non .none
  | bl (b : Bool) : FlV (.bl b) (.bool b)
  | int (i : Int) : FlV (.int i) (.int i)
  | str (x : Str) (ok : PyData.canLay0 (.str x) = true) : FlV (.str x) (.str x)
inductive RdV (H : Hp) : V → PyData → Prop where
  | flat {v : V} {d : PyData} (f : FlV v d) : RdV H v d
  | tup {p : Addr} {xs : List V} {ds : List PyData} (e : H p = some (.tup xs)) (all : Paired FlV xs ds) : RdV H (.ref p) (.tuple ds)
  | lst {p : Addr} {xs : List V} {ds : List PyData} (e : H p = some (.lst xs)) (all : Paired FlV xs ds) : RdV H (.ref p) (.list ds)
theorem reads_fl {h : Heap} {v : V} {d : PyData} {u : Value} (f : FlV v d) (r : RelV v u) : Reads h u d [] := by
  cases f with
  | non => cases r; exact .none
  | bl b => cases r; exact .bool b
  | int i => obtain ⟨t, rfl⟩ := r; exact .int i t
  | str x => obtain ⟨t, rfl⟩ := r; exact .str x t
theorem reads_fls {h : Heap} : ∀ {xs : List V} {ds : List PyData} {us : List Value}, Paired FlV xs ds → Vals xs us → ReadsAll h us ds []
  | [], [], us, .nil, r => by cases r; exact .nil
  | _ :: _, _ :: _, us, .cons f t, r => by
    cases r with
    | cons ru rr => exact .cons (as := []) (bs := []) (reads_fl f ru) (reads_fls t rr)
section
variable {X : Cx} {pins : List (Addr × Obj)} {σ : St} {H : Hp} {s : Shared}
theorem reads_rd (I : Inv X pins σ H s) {v : V} {d : PyData} {u : Value} (f : RdV H v d) (r : RelV v u) : ∃ as, Reads s.heap u d as := by
  cases f with
  | flat f => exact ⟨_, reads_fl f r⟩
  | @tup p xs ds e all =>
    cases r
    obtain ⟨its, rv, ht, _⟩ := I.tuple (SqT.of e)
    obtain ⟨o, ho, hc, n, hd⟩ := ht
    exact ⟨_, Reads.tuple ho hc hd (by simpa using reads_fls all rv)⟩
  | @lst p xs ds e all =>
    cases r
    obtain ⟨its, rv, pl, _⟩ := I.list (SqL.of e)
    obtain ⟨o, ho, hc, n, hd⟩ := pl.isList
    exact ⟨_, Reads.list ho hc hd (by simpa using reads_fls all rv)⟩
end
end L2

set_option maxHeartbeats 4000000
/-! == and != of the same things, five names at once in a block -/
namespace L2
open PySem PySem.Spec PyProof.Rows
section
variable {X : Cx} {scope : Scope} {Nc : List Str} {ex : List Addr} {pins : List (Addr × Obj)} {s : Shared} {H : Hp}
end
end L2

set_option maxHeartbeats 4000000
namespace K95
open PySem PySem.Spec PyProof.Rows L2 Am Pc Ba
open Pt hiding kit_tt
inductive Verd (K : PySem.W.Frag) (H : Hp) (c : Nat) : V → Nat → Prop where
  | no {v : V} (n : NoForm K H v) : Verd K H c v 1
  | bad {v : V} (b : BadAt H c v) : Verd K H c v 2
  | fit {p : Addr} {nm : Str} {ns : List Int} (e : H p = some (MvT nm ns)) (f : Fits nm ns c) : Verd K H c (.ref p) 0
theorem num_cases (nm : Str) : L2.numAt NB nm = none ∨ (nm = "flip" ∧ L2.numAt NB nm = some (.int 1)) ∨ (nm = "mix" ∧ L2.numAt NB nm = some (.int 1)) ∨ (nm = "turn" ∧ L2.numAt NB nm = some (.int 2)) ∨ (nm = "if" ∧ L2.numAt NB nm = some (.int 2)) ∨ (nm = "pair" ∧ L2.numAt NB nm = some (.int 2)) ∨ (nm = "swap" ∧ L2.numAt NB nm = some (.int 2)) ∨ (nm = "cross" ∧ L2.numAt NB nm = some (.int 3)) := by
  by_cases h1 : nm = "flip"
  · subst h1; exact .inr (.inl ⟨rfl, by decide⟩)
  by_cases h2 : nm = "mix"
  · subst h2; exact .inr (.inr (.inl ⟨rfl, by decide⟩))
  by_cases h3 : nm = "turn"
  · subst h3; exact .inr (.inr (.inr (.inl ⟨rfl, by decide⟩)))
  by_cases h4 : nm = "if"
  · subst h4; exact .inr (.inr (.inr (.inr (.inl ⟨rfl, by decide⟩))))
  by_cases h5 : nm = "pair"
  · subst h5; exact .inr (.inr (.inr (.inr (.inr (.inl ⟨rfl, by decide⟩)))))
  by_cases h6 : nm = "swap"
  · subst h6; exact .inr (.inr (.inr (.inr (.inr (.inr (.inl ⟨rfl, by decide⟩))))))
  by_cases h7 : nm = "cross"
  · subst h7; exact .inr (.inr (.inr (.inr (.inr (.inr (.inr ⟨rfl, by decide⟩))))))
  · exact .inl (by simp [L2.numAt, txt, valV, Ne.symm h1, Ne.symm h2, Ne.symm h3, Ne.symm h4, Ne.symm h5, Ne.symm h6, Ne.symm h7])
theorem ints_of : ∀ {xs : List V}, (∀ x ∈ xs, isI x = true) → ∃ ns : List Int, xs = ns.map V.int
  | [], _ => ⟨[], rfl⟩
  | x :: xs, h => by
    obtain ⟨ns, e⟩ := ints_of (xs := xs) fun y hy => h y (List.mem_cons_of_mem _ hy)
    have hx := h x List.mem_cons_self
    cases x with
    | int i => exact ⟨i :: ns, by rw [e]; rfl⟩
    | _ => cases hx
theorem classify {K : PySem.W.Frag} {H : Hp} {c : Nat} {p : Addr} {nm : Str} {xs : List V} (e : H p = some (.tup (.str nm :: xs))) (th : ∀ x ∈ xs, Thg H x) : ∃ d, Verd K H c (.ref p) d := by
  have key : L2.numAt NB nm = none ∨ ∃ n : Nat, L2.numAt NB nm = some (.int n) ∧ n ≤ 3 ∧ (nm = "turn" → n = 2) := by
    rcases num_cases nm with h | ⟨_, h⟩ | ⟨_, h⟩ | ⟨_, h⟩ | ⟨_, h⟩ | ⟨_, h⟩ | ⟨_, h⟩ | ⟨e7, h⟩
    · exact .inl h
    · exact .inr ⟨1, h, by decide, fun z => by subst z; rw [show L2.numAt NB "turn" = some (.int 2) by decide] at h; cases h⟩
    · exact .inr ⟨1, h, by decide, fun z => by subst z; rw [show L2.numAt NB "turn" = some (.int 2) by decide] at h; cases h⟩
    · exact .inr ⟨2, h, by decide, fun _ => rfl⟩
    · exact .inr ⟨2, h, by decide, fun _ => rfl⟩
    · exact .inr ⟨2, h, by decide, fun _ => rfl⟩
    · exact .inr ⟨2, h, by decide, fun _ => rfl⟩
    · exact .inr ⟨3, h, by decide, fun z => by subst z; rw [show L2.numAt NB "turn" = some (.int 2) by decide] at h; cases h⟩
  rcases key with z | ⟨n, z, n3, nt⟩
  · exact ⟨1, .no (.name e z)⟩
  by_cases l : xs.length = n
  · subst l
    by_cases no : ∃ x ∈ xs, isI x = false
    · exact ⟨1, .no (.part e z n3 th no)⟩
    · obtain ⟨ns, rfl⟩ := ints_of (xs := xs) fun x hx => by
        cases hi : isI x with
        | true => rfl
        | false => exact absurd ⟨x, hx, hi⟩ no
      rw [List.length_map] at z n3 nt
      by_cases ht : nm = "turn" ∧ ¬ ∃ a k, ns = [a, k] ∧ 1 ≤ k ∧ k ≤ 7
      · obtain ⟨rfl, nk⟩ := ht
        have l2 := nt rfl
        match ns, l2, e, nk with
        | [a, k], _, e, nk => exact ⟨1, .no (.turn e (by
            apply Classical.byContradiction
            intro q
            exact nk ⟨a, k, rfl, by omega, by omega⟩))⟩
      · have FO : Form nm ns := ⟨z, n3, fun t => Classical.byContradiction fun q => ht ⟨t, q⟩⟩
        by_cases bad : (∃ a ∈ named nm ns, a < 0 ∨ (c : Int) ≤ a) ∨ ¬ (named nm ns).Nodup
        · exact ⟨2, .bad ⟨p, nm, ns, rfl, e, FO, bad⟩⟩
        · refine ⟨0, .fit e ⟨FO, fun a ha => ?_, Classical.byContradiction fun q => bad (.inr q)⟩⟩
          apply Classical.byContradiction
          intro q
          exact bad (.inl ⟨a, ha, by omega⟩)
  · exact ⟨1, .no (.size e z (fun q => l (by omega)))⟩
end K95

set_option maxHeartbeats 4000000
namespace L2
open PySem PySem.Spec PyProof.Rows
theorem lc_strs {K : PySem.W.Frag} {a : Addr} {zs : List Str} {te : TE} {fr : St} {H1 : Hp} {acc : Addr} {Q : VK} (f : Str → V) (hl : SqL K H1 a (zs.map V.str)) (hn : zs.length ≤ sizeLine) (hacc : H1 acc = none) (hs : ∀ z H (N : V → Hp → Prop), z ∈ zs → Same H1 H → N (f z) H → te (some (.str z) :: fr) H N)
    (hd : ∀ H2, Same H1 H2 → H2 acc = some (.lst (zs.map f)) → Q (.ref acc) H2) : LcW (Itl K a) (gName 0) te (none :: fr) H1 acc Q := by
  refine lc_list (K := K) (a := a) (xs := zs.map V.str) (fun i ys H' => Same H1 H' ∧ H' acc = some (.lst ys) ∧ ys = (zs.take i).map f) (by rw [List.length_map]; exact hn) ⟨same_new hacc _, upd_same, rfl⟩ (fun i ys H e => e.1.seq hl) ?_ ?_
  · rintro i x ys H N hx hy ⟨S, a2, rfl⟩ kN
    rw [List.getElem?_map] at hx
    obtain ⟨z, hz, rfl⟩ := Option.map_eq_some_iff.mp hx
    refine hs z H N (List.mem_of_getElem? hz) S (kN _ _ a2 ⟨same_upd S hacc, upd_same, ?_⟩)
    rw [List.take_add_one, hz, List.map_append]
    rfl
  · rintro ys H hy ⟨S, a2, rfl⟩
    rw [List.length_map, List.take_length] at a2
    exact hd H S a2
end L2
namespace K95
open PySem PySem.Spec PyProof.Rows L2 Am Pc Ba M35
open Pt hiding kit_tt
theorem cut_from {xs : List V} {p : Nat} {i : Int} (hi : i = p) : cutV xs (some i) none = xs.drop p := by
  subst hi
  unfold cutV
  rw [HT.sIx_nat]
  have e2 : HT.sIx xs.length xs.length none = xs.length := rfl
  rw [e2]
  by_cases h : p ≤ xs.length
  · rw [Nat.min_eq_left h, List.take_of_length_le (by rw [List.length_drop]; exact Nat.le_refl _)]
  · rw [Nat.min_eq_right (by omega), Nat.sub_self, List.take_zero, List.drop_eq_nil_of_le (by omega)]
theorem cut_to {xs : List V} {p : Nat} {e : Int} (he : e = p) : cutV xs none (some e) = xs.take p := by
  subst he
  unfold cutV
  rw [HT.sIx_nat]
  have e2 : HT.sIx xs.length 0 none = 0 := rfl
  rw [e2, List.drop_zero, Nat.sub_zero]
  by_cases h : p ≤ xs.length
  · rw [Nat.min_eq_left h]
  · rw [Nat.min_eq_right (by omega), List.take_of_length_le (Nat.le_refl _), List.take_of_length_le (by omega)]
abbrev Fine (z : Str) : Prop := z.length ≤ 30000
theorem fine_sz {z : Str} (h : Fine z) : z.length ≤ sizeLine := Nat.le_trans h (by decide)
theorem fine_sz2 {z : Str} (h : Fine z) : z.length + 2 ≤ sizeLine := Nat.le_trans (Nat.add_le_add_right h 2) (by decide)
theorem split_len {z y : Str} : (Txt.split z y).length ≤ z.length + 2 := by
  unfold Txt.split
  split
  · simp
  · split
    · simp
    · rw [length_partsBetween]
      have := StrLaws.occ_length_le z y 0 z.length (z.length + 1)
      omega
theorem split_fine {z y w : Str} (h : Fine z) (m : w ∈ Txt.split z y) : Fine w := Nat.le_trans (part_short m) h
theorem words_len {z : Str} : (wds z).length ≤ z.length + 2 := Nat.le_trans (List.length_filter_le _ _) split_len
theorem words_fine {z w : Str} (h : Fine z) (m : w ∈ wds z) : Fine w := split_fine h (List.mem_filter.mp m).1
def partsOf (z : Str) : List Str := if wds z = [] then [] else Txt.split z ";"
def val (w : Str) : Int := ((fig w).getD 0 : Nat)
open Classical in
noncomputable def mvOf (c : Nat) : List Str → Option (Str × List Int)
  | [] => none
  | nm :: r => if (∀ w ∈ r, (fig w).isSome = true) ∧ Fits nm (r.map val) c then some (nm, r.map val) else none
theorem mv_some {c : Nat} {nm : Str} {r : List Str} (hf : ∀ w ∈ r, (fig w).isSome = true) (f : Fits nm (r.map val) c) : mvOf c (nm :: r) = some (nm, r.map val) := if_pos ⟨hf, f⟩
theorem mv_none {c : Nat} {nm : Str} {r : List Str} (h : ¬ ((∀ w ∈ r, (fig w).isSome = true) ∧ Fits nm (r.map val) c)) : mvOf c (nm :: r) = none := if_neg h
def MvV (H : Hp) (v : V) : Option (Str × List Int) → Prop
  | none => v = .non
  | some (nm, ns) => ∃ p, v = .ref p ∧ H p = some (MvT nm ns)
def spWords : Sp := fun vs H Q _ => ∃ z, vs = [.str z] ∧ Fine z ∧ ∀ (l : Addr) (H' : Hp), H l = none → Same H H' → H' l = some (.lst ((wds z).map V.str)) → Q (.ref l) H'
def spParts : Sp := fun vs H Q _ => ∃ z, vs = [.str z] ∧ Fine z ∧ ∀ (l : Addr) (H' : Hp), H l = none → Same H H' → H' l = some (.lst ((partsOf z).map V.str)) → Q (.ref l) H'
def spFig : Sp := fun vs H Q _ => ∃ w, vs = [.str w] ∧ Fine w ∧ Q (.bl (fig w).isSome) H
def spReadMv : Sp := fun vs H Q _ => ∃ z c, vs = [.str z, .int ((c : Nat) : Int)] ∧ Fine z ∧ ∀ (v : V) (H' : Hp), Same H H' → MvV H' v (mvOf c (wds z)) → Q v H'
section
variable {P : Program} {w : World} {K : PySem.W.Frag} {mg : Str → Option Value} {base : Heap} {k : Nat} {h : Heap} {C D : Addr} {bm bm' : List Value}
theorem sc_words : FnScope ["part"] ["part"] (defScope (top 25)) := ⟨rfl, rfl, rfl, by decide +kernel, rfl, by decide +kernel, by decide +kernel⟩
theorem ok_words (F : FunAt K "words_of" (top 25) .none) (X : K.In h) (G : h.Ns mainGlobals mg) : Cal P w K mg base (k + 1) "words_of" ["part"] spWords := by
  have nd := sc_words.nd
  refine F.cal X G sc_words (bnd1 fun _ _ _ _ _ _ _ => rfl) (fun vs H Q E h => ?_) (fun f cdv A outer s H vs Q E hr h => ?_)
  · obtain ⟨z, rfl, _⟩ := h; rfl
  obtain ⟨z, rfl, fz, kq⟩ := h
  refine ⟨_, (@pss_one _ _ _ (ps_ret (pe_lcF rfl (LcOk.of (Nc := ["word"]) (mp := [none]) (by kernel_rfl)) (pi_list (pe_bm PySem.F.plainAttrs_str PySem.F.slot_str_split PySem.F.type_str_split mt_split (pv 0) (pa_cons pe_str pa_nil))) (fun _ _ _ _ => (pg_name (i := 0) (show (["word"] : List Str).Nodup by decide +kernel) rfl (Or.inl rfl))) (fun _ _ _ _ => (pt_cmpR op_ne (pv 0) pe_str (nomark _))) (fun _ _ _ _ => (pv 0))))), ?_⟩
  try dsimp only [cxK]
  refine ⟨_, rfl, rfl, z, _, rfl, rfl, by decide, fine_sz2 fz, fun l hl => ?_⟩
  have s1 := same_new hl (.lst ((Txt.split z " ").map V.str))
  refine ⟨l, rfl, ⟨_, SqL.of upd_same⟩, fun acc hacc => ?_⟩
  refine lcF_strs (K := K) ne0 hacc (SqL.of upd_same) (Nat.le_trans split_len (fine_sz2 fz)) (fun y H2 N hy S2 kN => ⟨_, rfl, rfl, _, rfl, kN⟩) (fun y H2 N hy py S2 kN => ⟨_, rfl, kN⟩) (fun H2 S2 a2 => kq acc H2 (s1.free hacc) (s1.trans S2) a2)
theorem sc_parts : FnScope ["text"] ["text"] (defScope (top 24)) := ⟨rfl, rfl, rfl, by decide +kernel, rfl, by decide +kernel, by decide +kernel⟩
theorem ok_parts (F : FunAt K "parts_of" (top 24) .none) (X : K.In h) (G : h.Ns mainGlobals mg) (B : Bs mg) (c_words_of : Cal P w K mg base k "words_of" ["part"] spWords) : Cal P w K mg base (k + 1) "parts_of" ["text"] spParts := by
  have nd := sc_parts.nd
  refine F.cal X G sc_parts (bnd1 fun _ _ _ _ _ _ _ => rfl) (fun vs H Q E h => ?_) (fun f cdv A outer s H vs Q E hr h => ?_)
  · obtain ⟨z, rfl, _⟩ := h; rfl
  obtain ⟨z, rfl, fz, kq⟩ := h
  refine ⟨_, (@pss_one _ _ _ (ps_ret (pe_ifExp (pt_cmpR op_eq (pe_callB call_len_seq rfl B.len PySem.boot_len (pa_cons (pe_cal c_words_of hr rfl (pa_cons (pv 0) pa_nil)) pa_nil)) pe_int (nomark _)) (@pe_lst _ _ _ _ pa_nil) (pe_bm PySem.F.plainAttrs_str PySem.F.slot_str_split PySem.F.type_str_split mt_split (pv 0) (pa_cons pe_str pa_nil))))), ?_⟩
  try dsimp only [cxK]
  refine ⟨_, rfl, z, rfl, fz, fun l H1 _ S1 hl => ⟨l, _, rfl, .inl (SqL.of hl), rfl, _, rfl, eqI (fun e => ?_) (fun e => ?_)⟩⟩
  · have en : wds z = [] := List.eq_nil_of_length_eq_zero (by rw [List.length_map] at e; omega)
    refine ⟨Nat.zero_le _, fun r hr => kq r _ (S1.free hr) (S1.trans (same_new hr _)) ?_⟩
    rw [upd_same]
    unfold partsOf
    rw [if_pos en]
    rfl
  · have en : wds z ≠ [] := fun en => e (by rw [en]; rfl)
    refine ⟨_, rfl, rfl, z, _, rfl, rfl, by decide, fine_sz2 fz, fun r hr => kq r _ (S1.free hr) (S1.trans (same_new hr _)) ?_⟩
    rw [upd_same]
    unfold partsOf
    rw [if_neg en]
theorem sc_fig : FnScope ["word"] ["word"] (defScope (top 27)) := ⟨rfl, rfl, rfl, by decide +kernel, rfl, by decide +kernel, by decide +kernel⟩
theorem ok_fig {tF : Tok} (gF : mg "FIGURES" = some (.str "0123456789" tF)) (F : FunAt K "is_figure" (top 27) .none) (X : K.In h) (G : h.Ns mainGlobals mg) (B : Bs mg) : Cal P w K mg base (k + 1) "is_figure" ["word"] spFig := by
  have nd := sc_fig.nd
  refine F.cal X G sc_fig (bnd1 fun _ _ _ _ _ _ _ => rfl) (fun vs H Q E h => ?_) (fun f cdv A outer s H vs Q E hr h => ?_)
  · obtain ⟨z, rfl, _⟩ := h; rfl
  obtain ⟨z, rfl, fz, q⟩ := h
  refine ⟨_, (@pss_one _ _ _ (ps_ret (pe_and (pe_cmpR op_eq (pe_callB call_len_str rfl B.len PySem.boot_len (pa_cons (pv 0) pa_nil)) pe_int (nomark _)) (pe_one (pe_cmpR op_in_str (pv 0) (pe_glob (v := .str (Str.ofString "0123456789")) rfl gF ⟨_, rfl⟩) rfl))))), ?_⟩
  try dsimp only [cxK]
  refine ⟨_, rfl, z, rfl, fine_sz fz, rfl, _, rfl, eqI (fun e => ?_) (fun e => ?_)⟩
  · have l : z.length = 1 := by omega
    refine ⟨_, rfl, _, _, rfl, rfl, ?_⟩
    have := in_fig l
    unfold inS at this
    rw [this]
    exact q
  · have l : z.length ≠ 1 := fun l => e (by rw [l]; rfl)
    rw [fig_none l] at q
    exact q
theorem NoForm.no_fit {H : Hp} {p : Addr} {nm : Str} {ns : List Int} {c : Nat} (e : H p = some (MvT nm ns)) (f : Fits nm ns c) : ¬ NoForm K H (.ref p) := by
  have inj : ∀ {nm' : Str} {xs : List V}, H p = some (.tup (.str nm' :: xs)) → nm' = nm ∧ xs = ns.map V.int := fun {nm' xs} h => by
    rw [e] at h
    injection h with h
    injection h with h
    injection h with h1 h2
    injection h1 with h1
    exact ⟨h1.symm, h2.symm⟩
  intro n
  cases n with
  | odd ty k =>
    cases ty with
    | tup _ => rw [kit_tt K] at k; cases k
    | lst h => rw [e] at h; cases h
    | frz h => rw [e] at h; cases h
    | dK h => rw [e] at h; cases h
    | dT h => rw [e] at h; cases h
    | ins h => rw [e] at h; cases h
  | nil h => rw [e] at h; cases h
  | head h ty k =>
    rw [e] at h
    injection h with h
    injection h with h
    injection h with h1 h2
    subst h1
    cases ty
    rw [kit_ss K] at k
    cases k
  | name h z =>
    obtain ⟨rfl, rfl⟩ := inj h
    rw [f.form.num] at z
    cases z
  | size h z l =>
    obtain ⟨rfl, rfl⟩ := inj h
    rw [f.form.num] at z
    rw [List.length_map] at l
    injection z with z
    injection z with z
    exact l z
  | part h z l al no =>
    obtain ⟨rfl, rfl⟩ := inj h
    obtain ⟨x, hx, ex⟩ := no
    obtain ⟨i, _, rfl⟩ := List.mem_map.mp hx
    cases ex
  | @turn _ a k h z =>
    obtain ⟨rfl, e2⟩ := inj h
    have : [a, k] = ns := (List.map_inj_right (fun a b h => V.int.inj h)).mp e2
    subst this
    obtain ⟨a', k', e3, k1, k7⟩ := f.form.turn rfl
    simp at e3
    omega
theorem sc_readmv : FnScope ["part", "cells", "words", "move"] ["part", "cells"] (defScope (top 26)) := ⟨rfl, rfl, rfl, by decide +kernel, rfl, by decide +kernel, by decide +kernel⟩
theorem ok_readmv {CM CC : Addr} {bM bC : List Value} (mM : mg "NoMove" = some (.ref CM)) (mC : mg "NoCell" = some (.ref CC)) (xM : ExcAt K CM bM) (xC : ExcAt K CC bC) (F : FunAt K "read_move" (top 26) .none) (X : K.In h) (G : h.Ns mainGlobals mg) (B : Bs mg) (c_words_of : Cal P w K mg base k "words_of" ["part"] spWords) (c_is_figure : Cal P w K mg base k "is_figure" ["word"] spFig)
    (x_M : CalX P w K mg base k "check_move" ["move", "cells"] (spChkX (fun H _ v => NoForm K H v) CM)) (x_C : CalX P w K mg base k "check_move" ["move", "cells"] (spChkX BadAt CC)) (c_check : Cal P w K mg base k "check_move" ["move", "cells"] spCheck) : Cal P w K mg base (k + 1) "read_move" ["part", "cells"] spReadMv := by
  have nd := sc_readmv.nd
  refine F.cal X G sc_readmv (bnd2 fun _ _ _ _ _ _ _ _ => rfl) (fun vs H Q E h => ?_) (fun f cdv A outer s H vs Q E hr h => ?_)
  · obtain ⟨z, c, rfl, _⟩ := h; rfl
  obtain ⟨z, c, rfl, fz, kq⟩ := h
  have tk1 : Takes K CM CM CC := ⟨bM, _, _, xM.cls, rfl, rfl, by simp⟩
  have tk2 : Takes K CC CM CC := ⟨bC, _, _, xC.cls, rfl, rfl, by simp⟩
  refine ⟨_, (@pss_cons _ _ _ _ _ (@ps_set _ _ 2 _ _ _ _ nd rfl (Or.inl rfl) (pe_cal c_words_of hr rfl (pa_cons (pv 0) pa_nil)) rfl (.inl rfl))
    (@pss_cons _ _ _ _ _ (ps_if (pt_not (pt_val (pe_callB (call_allL rfl) rfl B.all boot_all (pa_cons (pe_lc rfl (LcOk.of (Nc := ["word"]) (mp := [none]) (by kernel_rfl)) (pi_list (pe_slice sl_list (pv 2) (po_some pe_int) po_none)) (fun _ _ _ _ => (pg_name (i := 0) (show (["word"] : List Str).Nodup by decide +kernel) rfl (Or.inl rfl))) (fun _ _ _ _ => (pe_cal c_is_figure hr rfl (pa_cons (pv 0) pa_nil)))) pa_nil))))
      (@pss_one _ _ _ (ps_ret pe_non))
      pss_nil)
    (@pss_cons _ _ _ _ _ (@ps_set _ _ 3 _ _ _ _ nd rfl (Or.inl rfl) (pe_callTy call_tuple_of rfl B.tuple boot_tuple (pa_cons (pe_op op_cat (pe_slice sl_list (pv 2) po_none (po_some pe_int)) (pe_lc rfl (LcOk.of (Nc := ["word"]) (mp := [none]) (by kernel_rfl)) (pi_list (pe_slice sl_list (pv 2) (po_some pe_int) po_none)) (fun _ _ _ _ => (pg_name (i := 0) (show (["word"] : List Str).Nodup by decide +kernel) rfl (Or.inl rfl))) (fun _ _ _ _ => (pe_callTy call_int_txt rfl B.int boot_int (pa_cons (pv 0) pa_nil))))) pa_nil)) rfl (.inl rfl))
    (@pss_one _ _ _ (ps_try2 (E := fun cls _ H1 => ((cls = .ref CM ∨ cls = .ref CC) ∧ mvOf c (wds z) = none) ∧ Same H H1) ⟨rfl, rfl⟩ rfl mM rfl mC xM xC (fun cls di H1 e => e.1.1.elim (fun z => ⟨CM, z, tk1⟩) (fun z => ⟨CC, z, tk2⟩)) (fun pins σ => @pss_one _ _ _ (ps_ret (pe_alt (pe_calT (σ0 := σ) x_M hr rfl (pa_cons (pv 3) (pa_cons (pv 1) pa_nil))) (pe_alt (pe_calT (σ0 := σ) x_C hr rfl (pa_cons (pv 3) (pa_cons (pv 1) pa_nil))) (pe_calT (σ0 := σ) c_check.x hr rfl (pa_cons (pv 3) (pa_cons (pv 1) pa_nil))))))) (fun a => @pss_one _ _ _ (ps_ret pe_non))))))), ?_⟩
  try dsimp only [cxK]
  refine ⟨_, rfl, z, rfl, fz, fun l H1 _ S1 hl => ?_⟩
  have wl : (wds z).length ≤ 30002 := Nat.le_trans words_len (Nat.add_le_add_right fz 2)
  have big : ∀ n : Nat, n ≤ 40000 → n ≤ sizeLine := fun n h => Nat.le_trans h (by decide)
  have wf : ∀ y ∈ wds z, Fine y := fun y hy => words_fine fz hy
  generalize wds z = ws at *
  refine ⟨_, rfl, _, rfl, l, _, rfl, SqL.of hl, fun cp hcp => ?_⟩
  rw [cut_from (i := 1) (p := 1) rfl, ← List.map_drop]
  have s2 := same_new hcp (.lst ((ws.drop 1).map V.str))
  have e2 : upd H1 cp (.lst ((ws.drop 1).map V.str)) cp = some (.lst ((ws.drop 1).map V.str)) := upd_same
  generalize upd H1 cp (.lst ((ws.drop 1).map V.str)) = H2 at s2 e2 ⊢
  have ld : (ws.drop 1).length ≤ 30002 := by rw [List.length_drop]; omega
  refine ⟨cp, rfl, ⟨_, SqL.of e2⟩, fun acc hacc => ?_⟩
  refine lc_strs (K := K) (fun w => .bl (fig w).isSome) (SqL.of e2) (big _ (by omega)) hacc (fun y H3 N hy S3 kN => ⟨_, rfl, y, rfl, wf y (List.mem_of_mem_drop hy), kN⟩) (fun H3 S3 a3 => ?_)
  have e3 : (ws.drop 1).map (fun w => V.bl (fig w).isSome) = ((ws.drop 1).map fun w => (fig w).isSome).map V.bl := by rw [List.map_map]; rfl
  rw [e3] at a3
  have S13 := s2.trans S3
  have hl3 := S13 _ _ hl
  have S03 := S1.trans S13
  refine ⟨acc, _, rfl, SqL.of a3, _, rfl, ?_⟩
  cases hb : ((ws.drop 1).map fun w => (fig w).isSome).all id with
  | false =>
    refine iteT (kq _ _ S03 ?_)
    have no : mvOf c ws = none := by
      cases ws with
      | nil => rfl
      | cons nm r =>
        refine mv_none ?_
        rintro ⟨hf, _⟩
        have : ((r.map fun w => (fig w).isSome).all id) = true := by
          rw [List.all_map, List.all_eq_true]
          exact fun y hy => hf y hy
        rw [show (List.drop 1 (nm :: r)) = r from rfl, this] at hb
        cases hb
    rw [no]
    rfl
  | true =>
    have hf : ∀ y ∈ ws.drop 1, (fig y).isSome = true := fun y hy => by
      rw [List.all_map, List.all_eq_true] at hb
      exact hb y hy
    refine iteF ?_
    refine ⟨_, rfl, _, rfl, l, _, rfl, SqL.of hl3, fun c2 hc2 => ?_⟩
    rw [cut_to (e := 1) (p := 1) rfl, ← List.map_take]
    have s4 := same_new hc2 (.lst ((ws.take 1).map V.str))
    have e4 : upd H3 c2 (.lst ((ws.take 1).map V.str)) c2 = some (.lst ((ws.take 1).map V.str)) := upd_same
    generalize upd H3 c2 (.lst ((ws.take 1).map V.str)) = H4 at s4 e4 ⊢
    refine ⟨_, rfl, _, rfl, l, _, rfl, SqL.of (s4 _ _ hl3), fun c3 hc3 => ?_⟩
    rw [cut_from (i := 1) (p := 1) rfl, ← List.map_drop]
    have s5 := same_new hc3 (.lst ((ws.drop 1).map V.str))
    have e5 : upd H4 c3 (.lst ((ws.drop 1).map V.str)) c3 = some (.lst ((ws.drop 1).map V.str)) := upd_same
    generalize upd H4 c3 (.lst ((ws.drop 1).map V.str)) = H5 at s5 e5 ⊢
    refine ⟨c3, rfl, ⟨_, SqL.of e5⟩, fun ac2 hac2 => ?_⟩
    refine lc_strs (K := K) (fun w => .int (val w)) (SqL.of e5) (big _ (by omega)) hac2 (fun y H6 N hy S6 kN => ?_) (fun H6 S6 a6 => ?_)
    · obtain ⟨n, en⟩ := Option.isSome_iff_exists.mp (hf y hy)
      obtain ⟨n9, l1, it⟩ := fig_int en
      refine ⟨_, rfl, y, _, rfl, it, by omega, ?_⟩
      have ev : val y = (n : Int) := by unfold val; rw [en]; rfl
      rw [← ev]
      exact kN
    have ea : (ws.drop 1).map (fun w => V.int (val w)) = ((ws.drop 1).map val).map V.int := by rw [List.map_map]; rfl
    rw [ea] at a6
    have lt1 : (ws.take 1).length ≤ 1 := by rw [List.length_take]; omega
    refine ⟨c2, ac2, _, _, rfl, rfl, (s5.trans S6) _ _ e4, a6, big _ (by simp only [List.length_map, List.length_drop, List.length_take]; omega), fun lc hlc => ?_⟩
    have s7 := same_new hlc (.lst ((ws.take 1).map V.str ++ ((ws.drop 1).map val).map V.int))
    have e7 : upd H6 lc (.lst ((ws.take 1).map V.str ++ ((ws.drop 1).map val).map V.int)) lc = some (.lst ((ws.take 1).map V.str ++ ((ws.drop 1).map val).map V.int)) := upd_same
    generalize upd H6 lc (.lst ((ws.take 1).map V.str ++ ((ws.drop 1).map val).map V.int)) = H7 at s7 e7 ⊢
    refine ⟨lc, _, rfl, .inl ⟨SqL.of e7, fun tp htp => ?_⟩⟩
    have s8 := same_new htp (.tup ((ws.take 1).map V.str ++ ((ws.drop 1).map val).map V.int))
    have e8 : upd H7 tp (.tup ((ws.take 1).map V.str ++ ((ws.drop 1).map val).map V.int)) tp = some (.tup ((ws.take 1).map V.str ++ ((ws.drop 1).map val).map V.int)) := upd_same
    generalize upd H7 tp (.tup ((ws.take 1).map V.str ++ ((ws.drop 1).map val).map V.int)) = H8 at s8 e8 ⊢
    have S08 := S03.trans (s4.trans (s5.trans (S6.trans (s7.trans s8))))
    obtain ⟨d, vd, hd⟩ : ∃ d, Verd K H8 c (.ref tp) d ∧ ((d = 0 → ∃ nm ns, mvOf c ws = some (nm, ns) ∧ H8 tp = some (MvT nm ns) ∧ Fits nm ns c) ∧ (d ≠ 0 → mvOf c ws = none)) := by
      cases ws with
      | nil => exact ⟨1, .no (.nil e8), (fun z => by cases z), fun _ => rfl⟩
      | cons nm r =>
        have e8 : H8 tp = some (MvT nm (r.map val)) := e8
        obtain ⟨d, vd⟩ := classify (K := K) (c := c) e8 (fun x hx => by obtain ⟨n, _, rfl⟩ := List.mem_map.mp hx; exact .inl rfl)
        refine ⟨d, vd, fun z => ?_, fun z => ?_⟩
        · subst z
          cases vd with
          | @fit p nm' ns' e f =>
            rw [e8] at e
            have ei : nm = nm' ∧ r.map val = ns' := by
              injection e with e
              injection e with e
              injection e with h1 h2
              injection h1 with h1
              exact ⟨h1, (List.map_inj_right (fun a b h => V.int.inj h)).mp h2⟩
            obtain ⟨rfl, rfl⟩ := ei
            exact ⟨nm, _, mv_some hf f, e8, f⟩
        · refine mv_none ?_
          rintro ⟨_, f⟩
          cases vd with
          | no n => exact absurd n (NoForm.no_fit e8 f)
          | bad b =>
            obtain ⟨p, nm', ns', hp, e, bc⟩ := b
            cases hp
            rw [e8] at e
            have ei : nm = nm' ∧ r.map val = ns' := by
              injection e with e
              injection e with e
              injection e with h1 h2
              injection h1 with h1
              exact ⟨h1, (List.map_inj_right (fun a b h => V.int.inj h)).mp h2⟩
            obtain ⟨rfl, rfl⟩ := ei
            rcases bc.bad with ⟨a, ha, hb⟩ | hb
            · have := f.low a ha; omega
            · exact hb f.nd
          | fit => exact z rfl
    refine ⟨?_, fun a cls di H' hE ha => kq _ _ (hE.2.trans (same_new ha _)) ?_⟩
    · cases vd with
      | no n => exact .inl ⟨_, rfl, _, rfl, rfl, _, c, rfl, n, fun H' S => ⟨⟨.inl rfl, hd.2 (by decide)⟩, S08.trans S⟩⟩
      | bad b => exact .inr (.inl ⟨_, rfl, _, rfl, rfl, _, c, rfl, b, fun H' S => ⟨⟨.inr rfl, hd.2 (by decide)⟩, S08.trans S⟩⟩)
      | @fit p nm ns e f =>
        obtain ⟨nm', ns', em, e', _⟩ := hd.1 rfl
        refine .inr (.inr ⟨_, rfl, _, rfl, rfl, tp, nm, ns, c, rfl, e, f, fun H' S => kq _ _ (S08.trans S) ?_⟩)
        rw [em]
        exact ⟨tp, rfl, S _ _ e'⟩
    · rw [hE.1.2]
      rfl
end
end K95

/-! marks as they are written: signs of cells, and what is read of them -/
namespace M24
open PySem PySem.Builtin.Str PySem.StrLaws
def sgn (c : Nat) : Option Nat := if c = 46 then some 0 else if c = 102 then some 1 else if c = 115 then some 2 else if c = 98 then some 3 else none
def one (c : Nat) : Str := ⟨#[c]⟩
theorem sgn_lt {c d : Nat} (h : sgn c = some d) : d < 4 := by
  unfold sgn at h
  split at h
  · cases h; decide
  split at h
  · cases h; decide
  split at h
  · cases h; decide
  split at h
  · cases h; decide
  cases h
theorem cps4 : (Str.ofString ".fsb").cps.toList = [46, 102, 115, 98] := by decide +kernel
theorem cpspm : (Str.ofString "+-").cps.toList = [43, 45] := by decide +kernel
theorem find_sgn (c : Nat) : Txt.find (Str.ofString ".fsb") (one c) = match sgn c with | some d => (d : Int) | none => -1 := by
  by_cases h1 : c = 46
  · subst h1; decide +kernel
  by_cases h2 : c = 102
  · subst h2; decide +kernel
  by_cases h3 : c = 115
  · subst h3; decide +kernel
  by_cases h4 : c = 98
  · subst h4; decide +kernel
  have e : sgn c = none := by unfold sgn; rw [if_neg h1, if_neg h2, if_neg h3, if_neg h4]
  have f := found_one (Str.ofString ".fsb") c
  rw [cps4, decide_eq_false (by simp [h1, h2, h3, h4])] at f
  rw [e]
  unfold Txt.find
  have g : (occurrences (Str.ofString ".fsb") (one c) 0 (Str.ofString ".fsb").length 1).isEmpty = true := by
    have : (!(occurrences (Str.ofString ".fsb") (one c) 0 (Str.ofString ".fsb").length 1).isEmpty) = false := f
    simpa using this
  rw [List.isEmpty_iff.mp g]
theorem in_four (c : Nat) : (!(occurrences (Str.ofString ".fsb") (one c) 0 (Str.ofString ".fsb").length 1).isEmpty) = (sgn c).isSome := by
  have f := found_one (Str.ofString ".fsb") c
  rw [cps4] at f
  refine f.trans ?_
  unfold sgn
  by_cases h1 : c = 46
  · subst h1; rfl
  by_cases h2 : c = 102
  · subst h2; rfl
  by_cases h3 : c = 115
  · subst h3; rfl
  by_cases h4 : c = 98
  · subst h4; rfl
  rw [if_neg h1, if_neg h2, if_neg h3, if_neg h4]
  simp [h1, h2, h3, h4]
theorem in_pm (c : Nat) : (!(occurrences (Str.ofString "+-") (one c) 0 (Str.ofString "+-").length 1).isEmpty) = decide (c = 43 ∨ c = 45) := by
  have f := found_one (Str.ofString "+-") c
  rw [cpspm] at f
  refine f.trans ?_
  simp
def rd : List Nat → Option (Nat × Nat)
  | [] => some (0, 0)
  | c :: r => match sgn c, rd r with
    | some d, some (f, s) => some (d % 2 + 2 * f, d / 2 + 2 * s)
    | _, _ => none
theorem rd_snoc : ∀ (r : List Nat) (c : Nat), rd (r ++ [c]) = match rd r, sgn c with | some (f, s), some d => some (f + (d % 2) * 2 ^ r.length, s + (d / 2) * 2 ^ r.length) | _, _ => none
  | [], c => by
    show rd [c] = _
    unfold rd
    cases sgn c with
    | none => rfl
    | some d => simp [rd]
  | a :: r, c => by
    show rd (a :: (r ++ [c])) = _
    unfold rd
    rw [rd_snoc r c]
    cases sgn a with
    | none => rfl
    | some d =>
      cases rd r with
      | none => rfl
      | some p =>
        obtain ⟨f, s⟩ := p
        cases sgn c with
        | none => rfl
        | some e =>
          simp only [List.length_cons, Nat.pow_succ]
          congr 2
          · grind
          · grind
theorem rd_lt : ∀ {r : List Nat} {f s : Nat}, rd r = some (f, s) → f < 2 ^ r.length ∧ s < 2 ^ r.length
  | [], f, s, h => by cases h; decide
  | a :: r, f, s, h => by
    unfold rd at h
    cases ha : sgn a with
    | none => rw [ha] at h; cases h
    | some d =>
      cases hr : rd r with
      | none => rw [ha, hr] at h; cases h
      | some p =>
        obtain ⟨f', s'⟩ := p
        rw [ha, hr] at h
        cases h
        have := rd_lt hr
        have := sgn_lt ha
        simp only [List.length_cons, Nat.pow_succ]
        omega
theorem rd_none {r t : List Nat} {c : Nat} (h : sgn c = none) : rd (r ++ c :: t) = none := by
  induction r with
  | nil => show rd (c :: t) = none; unfold rd; rw [h]
  | cons a r ih =>
    show rd (a :: (r ++ c :: t)) = none
    unfold rd
    rw [ih]
    cases sgn a <;> rfl
theorem or_add {x b k : Nat} (h : x < 2 ^ k) : x ||| (b <<< k) = x + b * 2 ^ k := by
  rw [Nat.or_comm, ← Nat.shiftLeft_add_eq_or_of_lt h, Nat.shiftLeft_eq, Nat.add_comm]
end M24

set_option maxHeartbeats 4000000
/-! enumerate of a text -/
namespace L2
open PySem PySem.Spec PyProof.Rows
theorem drawsS {prog : Program} {w : World} {A : Around} (hh : A.handled = none) (it : Addr) (z : Str) (t : Tok) :
    Draws prog w A it [it] z.cps.size (fun i v => ∃ c u, z.cps[i]? = some c ∧ v = .str ⟨#[c]⟩ u) (fun i h => h.IsStrIter it (strIterType z) z t i) := by
  unfold strIterType
  split
  · exact Draws.strAscii hh it z t
  · exact Draws.strWide hh it z t
def ItS (z : Str) : It :=
  ⟨fun i _ => i < z.cps.size,
   fun i H v H' => ∃ T c, v = .ref T ∧ H T = none ∧ H' = upd H T (.tup [.int i, .str ⟨#[c]⟩]) ∧ z.cps[i]? = some c,
   fun i _ => i = z.cps.size⟩
theorem turn_enumS {P : Program} {w : World} {K : PySem.W.Frag} {es : List Expr} {kk : Nat} {tp : Pos} {e it : Addr} {z : Str} {t : Tok} (ne : e ≠ it) :
    Turn P w K (.Tuple es kk tp) (ItS z) [e, it] e (fun i h => (∃ old, IsEnum h e it i old) ∧ h.IsStrIter it (strIterType z) z t i) where
  mem := by simp
  obj := fun i h st b hb => by
    obtain ⟨⟨old, a1⟩, o, a2, _, a3⟩ := st
    simp only [List.mem_cons, List.not_mem_nil, or_false] at hb
    rcases hb with rfl | rfl
    · exact ⟨_, a1, fun v q => by have q' : Data.fields _ = Data.cell v := q; cases q'⟩
    · exact ⟨o, a2, fun v z => by rw [a3] at z; cases z⟩
  keep := fun i h h' st k => by
    obtain ⟨⟨old, a1⟩, o, ho, r⟩ := st
    exact ⟨⟨old, k e (by simp) _ a1⟩, o, k it (by simp) o ho, r⟩
  item := by
    intro X hP hw hK hc i pins s σ H E I hf st hg
    subst hP hw hK
    obtain ⟨⟨old, a1⟩, a2⟩ := st
    have hh : X.A.in1.handled = none := I.ok.hd hc
    refine wpAny_pyNext_enum_itemD (drawsS hh it z t) a1 a2 hg ne (by simpa using ne) fun x h' tk px b1 b2 b3 b4 b5 => ?_
    obtain ⟨c, u, hx, rfl⟩ := px
    refine ⟨_, rfl, wpAny_letOwnedTupleGo_enum b1 fun h2 c1 sb => ?_⟩
    have zT : s.heap.objs.size ≠ e := Nat.ne_of_gt (Heap.lt_size a1)
    have k2 : ∀ b o, b ∉ [e, it] → s.heap.get? b = some o → h2.get? b = some o := fun b o hb q => by
      simp only [List.mem_cons, List.not_mem_nil, or_false, not_or] at hb
      exact sb.extBut b o hb.1 (b5 b o hb.1 hb.2 q)
    have hT : IsTup h2 s.heap.objs.size ([.int i tk, .str ⟨#[c]⟩ u] : List Value).toArray := ⟨_, sb.extBut _ _ zT b3, rfl, _, rfl⟩
    refine ⟨.ref s.heap.objs.size, upd H s.heap.objs.size (.tup [.int i, .str ⟨#[c]⟩]), I.turnedT (t' := tk + 1) k2 hf (Nat.le_refl _) (.cons ⟨_, rfl⟩ (.cons ⟨_, rfl⟩ .nil)) (by show 2 ≤ sizeLine; decide) hT, rfl, ⟨_, c, rfl, I.hok.fresh (Nat.le_refl _), rfl, hx⟩, ⟨⟨.str ⟨#[c]⟩ u, ?_⟩, ?_⟩, fun b hb => ?_⟩
    · exact_mod_cast c1
    · obtain ⟨o, ho, r⟩ := b2
      exact ⟨o, sb.extBut _ _ ne.symm ho, r⟩
    · have hlt : b < s.heap.objs.size := by
        simp only [List.mem_cons, List.not_mem_nil, or_false] at hb
        rcases hb with rfl | rfl
        · exact Heap.lt_size a1
        · obtain ⟨o, q, _⟩ := a2; exact Heap.lt_size q
      rw [upd_ne (Nat.ne_of_lt hlt)]
      exact (hf b hb).1
  done := by
    intro X hP hw hK hc i pins s σ H E I hf st hg
    subst hP hw hK
    obtain ⟨⟨old, a1⟩, a2⟩ := st
    have hh : X.A.in1.handled = none := I.ok.hd hc
    have hg : i = z.cps.size := hg
    subst hg
    refine wpAny_pyNext_enum_endD (drawsS hh it z t) a1 a2 fun h' eb => ⟨rfl, I.turnedL (t' := s.toks) (ch := [e, it]) (fun b o hb q => ?_) hf⟩
    simp only [List.mem_cons, List.not_mem_nil, or_false, not_or] at hb
    exact eb b o hb.2 q
  self := fun _ _ _ _ _ st h => by
    obtain ⟨⟨old, a1⟩, _⟩ := st
    exact wpAny_pyIter_enum a1 h
section
variable {X : Cx} {es : List Expr} {kk : Nat} {tp : Pos}
def iEnumS (ta : TA) : TI := fun σ H R => ta σ H fun vs H1 => ∃ z, vs = [.str z] ∧ R (ItS z) H1
theorem pi_enumS {a : Expr} {ta : TA} {p pos : Pos} (hg : Gl X "enumerate") (hm : X.mg "enumerate" = none) (ha : PA X [a] ta) (hs : starEach [a] X.env = [(false, eval a X.env)] := by rfl) :
    PI X (.Tuple es kk tp) (.Call (.Name "enumerate" p) [a] [] pos) (iEnumS ta) := by
  intro pins s σ H R I h
  refine Call_ (ld_blt I hg hm boot_enumerate (PyProof.Rows.callWith_type1 (thn (ha pos pins s σ H _ I h) fun us s1 ⟨vs, H1, I1, r1, q1⟩ => ?_) (by rw [hs]; rfl) (by rfl)))
  obtain ⟨z, e, q⟩ := q1
  subst e
  obtain ⟨u, rfl, t, rfl⟩ := vals1 r1
  refine call_enumerate_str fun h' z1 z2 z3 zk => ?_
  have I2 : Inv X pins σ H1 { s1 with heap := h' } := I1.kept (t' := s1.toks) zk
  refine wpAny_pyIter_enum z1 ⟨_, [s1.heap.objs.size + 1, s1.heap.objs.size], _, _, H1, rfl, I2, turn_enumS (Nat.succ_ne_self _), ⟨⟨_, z1⟩, z2⟩, fun b hb => ?_, q⟩
  have hge : s1.heap.objs.size ≤ b := by
    simp only [List.mem_cons, List.not_mem_nil, or_false] at hb
    rcases hb with rfl | rfl
    · exact Nat.le_succ _
    · exact Nat.le_refl _
  exact I1.fpOk hge (I1.hok.fresh hge)
end
theorem for_enumS {z : Str} {g : TG} {tb : TS} {D : Ends} {σ : St} {H : Hp} (Pv : Nat → St → Hp → Prop) (h0 : Pv 0 σ H)
    (hs : ∀ i c σ H T, z.cps[i]? = some c → Pv i σ H → H T = none → g (.ref T) σ (upd H T (.tup [.int i, .str ⟨#[c]⟩])) fun σ2 H2 => tb { D with nx := Pv (i + 1), ct := Pv (i + 1), bk := D.nx } σ2 H2) (hd : ∀ σ H, Pv z.cps.size σ H → D.nx σ H) :
    ∃ W : Nat → Nat → St → Hp → Prop, (∃ m, W 0 m σ H) ∧ ∀ i m σ H, W i m σ H →
      ((ItS z).stop i H ∧ D.nx σ H) ∨ ((ItS z).go i H ∧ ∃ N : St → Hp → Prop, (∀ σ' H', N σ' H' → ∃ m', m' < m ∧ W (i + 1) m' σ' H') ∧ ∀ x H', (ItS z).yld i H x H' → g x σ H' fun σ2 H2 => tb { D with nx := N, ct := N, bk := D.nx } σ2 H2) := by
  refine ⟨fun i m σ H => m = z.cps.size - i ∧ i ≤ z.cps.size ∧ Pv i σ H, ⟨z.cps.size, by simp, Nat.zero_le _, h0⟩, ?_⟩
  rintro i m σ H ⟨rfl, hi, p⟩
  by_cases hlt : i < z.cps.size
  · refine .inr ⟨hlt, Pv (i + 1), fun σ' H' p' => ⟨z.cps.size - (i + 1), by omega, rfl, hlt, p'⟩, fun v H' y => ?_⟩
    obtain ⟨T, c, rfl, hT, rfl, y⟩ := y
    exact hs i c σ H T y p hT
  · have e : i = z.cps.size := by omega
    subst e
    exact .inl ⟨rfl, hd σ H p⟩
end L2

set_option maxHeartbeats 1200000
namespace K95
open PySem PySem.Spec PyProof.Rows L2 Am Pc Ba M35
open Pt hiding kit_tt
open M24
theorem four_pos : (0 : Int) < 4 := by decide
theorem small {n : Nat} (h : n ≤ 40000) : n ≤ sizeLine := Nat.le_trans h (by decide)
def due (z : Str) : Option (Nat × Nat × Nat × Nat) := match z.cps.toList with
  | [] => none
  | c0 :: cs => if (1 ≤ cs.length ∧ cs.length ≤ 6) ∧ (c0 = 43 ∨ c0 = 45) then
      match rd cs with
      | some (f, s) => some ((pc (f &&& s) + (if c0 = 45 then 2 else 0)) % 4, f, s, cs.length)
      | none => none
    else none
theorem due_of {z : Str} {c0 : Nat} {cs : List Nat} (e : z.cps.toList = c0 :: cs) : due z = if (1 ≤ cs.length ∧ cs.length ≤ 6) ∧ (c0 = 43 ∨ c0 = 45) then
      match rd cs with
      | some (f, s) => some ((pc (f &&& s) + (if c0 = 45 then 2 else 0)) % 4, f, s, cs.length)
      | none => none
    else none := by unfold due; rw [e]
theorem due_short {z : Str} (h : z.length < 2 ∨ 7 < z.length) : due z = none := by
  have ln : z.cps.toList.length = z.length := by simp [Str.length]
  cases e : z.cps.toList with
  | nil => unfold due; rw [e]
  | cons c0 cs =>
    rw [e] at ln
    simp only [List.length_cons] at ln
    rw [due_of e, if_neg]
    omega
theorem at_nat {l : List Nat} {i c : Nat} (h : l[i]? = some c) : atI l (i : Int) = some c := by
  obtain ⟨hi, rfl⟩ := List.getElem?_eq_some_iff.mp h
  unfold atI ixN
  rw [if_pos (by omega), if_pos (by omega)]
  simp [hi]
theorem parts {z : Str} (h : 2 ≤ z.length) : ∃ c0 cs, z.cps.toList = c0 :: cs ∧ z.length = cs.length + 1 := by
  have ln : z.cps.toList.length = z.length := by simp [Str.length]
  cases e : z.cps.toList with
  | nil => rw [e] at ln; simp at ln; omega
  | cons c0 cs => rw [e] at ln; exact ⟨c0, cs, rfl, by simpa using ln.symm⟩
theorem dash (c : Nat) : decide (V.str (one c) = V.str (Str.ofString "-")) = decide (c = 45) := by
  have e : Str.ofString "-" = one 45 := by decide +kernel
  rw [e, Bool.eq_iff_iff, decide_eq_true_iff, decide_eq_true_iff]
  constructor
  · intro h
    have h := congrArg (fun v => match v with | V.str x => x.cps.toList | _ => []) h
    have h : [c] = [45] := h
    exact List.head_eq_of_cons_eq h
  · rintro rfl; rfl
structure StrQ (K : PySem.W.Frag) (H : Hp) (v : V) (b : Bool) : Prop where
  ex : ∃ t, TyOf K H v t ∧ PySem.W.kitOne K t (.type "str") = some b
theorem rd_cut {cs : List Nat} {i c : Nat} (h : cs[i]? = some c) (hc : sgn c = none) : rd cs = none := by
  have e : cs = cs.take i ++ c :: cs.drop (i + 1) := by
    obtain ⟨hi, rfl⟩ := List.getElem?_eq_some_iff.mp h
    rw [← List.drop_eq_getElem_cons hi, List.take_append_drop]
  rw [e]
  exact rd_none hc
theorem rd_next {cs : List Nat} {i c d f s : Nat} (h : cs[i]? = some c) (hc : sgn c = some d) (e : rd (cs.take i) = some (f, s)) : rd (cs.take (i + 1)) = some (f + (d % 2) * 2 ^ i, s + (d / 2) * 2 ^ i) := by
  obtain ⟨hi, rfl⟩ := List.getElem?_eq_some_iff.mp h
  rw [List.take_succ_eq_append_getElem hi, rd_snoc, e, hc, List.length_take, Nat.min_eq_left (by omega)]
def ReadQ (C : Addr) (H : Hp) (Q : VK) (E : XK) (z : Str) : Prop := match due z with
  | none => ∀ H', Same H H' → E (.ref C) none H'
  | some (q, f, s, n) => ∀ (p r : Addr) (H' : Hp), Same H H' → H' p = some (.tup [.ref r, .int n]) → H' r = some (M3 q f s) → Q (.ref p) H'
def spRMark (K : PySem.W.Frag) (C : Addr) : Sp := fun vs H Q E => ∃ v, vs = [v] ∧ ((StrQ K H v false ∧ ∀ H', Same H H' → E (.ref C) none H') ∨ ∃ z, v = .str z ∧ Fine z ∧ ReadQ C H Q E z)
theorem or_i (x y : Nat) : Builtin.bitOr (x : Int) (y : Int) = ((x ||| y : Nat) : Int) := by
  have h : Builtin.bitXor (x : Int) (y : Int) = Builtin.bitOr x y - Builtin.bitAnd x y := rfl
  rw [xor_i, and_i] at h
  have e := or_eq (x + y + 1) x y (by omega) (by omega)
  omega
theorem bit_f {f d i : Nat} (h : f < 2 ^ i) : Builtin.bitOr (f : Int) (Builtin.bitAnd (d : Int) 1 * 2 ^ (i : Int).toNat) = ((f + (d % 2) * 2 ^ i : Nat) : Int) := by
  have e1 : Builtin.bitAnd (d : Int) 1 = ((d % 2 : Nat) : Int) := by
    have := and_i d 1
    rw [Nat.and_one_is_mod] at this
    exact this
  have e2 : ((d % 2 : Nat) : Int) * 2 ^ (i : Int).toNat = (((d % 2) <<< i : Nat) : Int) := by
    rw [Nat.shiftLeft_eq, Int.toNat_natCast]
    simp
  rw [e1, e2, or_i, or_add h]
theorem bit_s {s d i : Nat} (h : s < 2 ^ i) : Builtin.bitOr (s : Int) ((d : Int) / 2 ^ (1 : Int).toNat * 2 ^ (i : Int).toNat) = ((s + (d / 2) * 2 ^ i : Nat) : Int) := by
  have e1 : (d : Int) / 2 ^ (1 : Int).toNat = ((d / 2 : Nat) : Int) := by
    show (d : Int) / 2 ^ 1 = _
    rw [Int.natCast_ediv]
    rfl
  have e2 : ((d / 2 : Nat) : Int) * 2 ^ (i : Int).toNat = (((d / 2) <<< i : Nat) : Int) := by
    rw [Nat.shiftLeft_eq, Int.toNat_natCast]
    simp
  rw [e1, e2, or_i, or_add h]
theorem slice1 {z : Str} {c0 : Nat} {cs : List Nat} (e : z.cps.toList = c0 :: cs) : Txt.slice z (some 1) none = ⟨cs.toArray⟩ := by
  have h := StrLaws.sliceText_from (x := z) (i := 1) ⟨by decide, by rw [e]; simp only [List.length_cons]; omega⟩
  refine (show Txt.slice z (some 1) none = StrLaws.sliceText z (some 1) none from rfl).trans (h.trans ?_)
  rw [e]
  congr 2
  show List.take (((cs.length + 1 : Nat) : Int) - 1).toNat cs = cs
  have : (((cs.length + 1 : Nat) : Int) - 1).toNat = cs.length := by omega
  rw [this, List.take_length]
def sg (d : Nat) : Nat := if d = 0 then 46 else if d = 1 then 102 else if d = 2 then 115 else 98
def dg (f s i : Nat) : Nat := f / 2 ^ i % 2 + 2 * (s / 2 ^ i % 2)
def body (f s : Nat) : Nat → List Nat
  | 0 => []
  | n + 1 => body f s n ++ [sg (dg f s n)]
def tx (ab f s n : Nat) : Str := ⟨((if ab = 0 then 43 else 45) :: body f s n).toArray⟩
theorem body_len (f s : Nat) : ∀ n, (body f s n).length = n
  | 0 => rfl
  | n + 1 => by show (body f s n ++ [_]).length = _; rw [List.length_append, body_len f s n]; rfl
theorem tx_len (ab f s n : Nat) : (tx ab f s n).length = n + 1 := by
  show ((if ab = 0 then 43 else 45) :: body f s n).toArray.size = _
  simp [body_len]
theorem dg_lt (f s i : Nat) : dg f s i < 4 := by unfold dg; omega
theorem at_sg {d : Nat} (h : d < 4) : atI (Str.ofString ".fsb").cps.toList (d : Int) = some (sg d) := by
  rw [cps4]
  have : d = 0 ∨ d = 1 ∨ d = 2 ∨ d = 3 := by omega
  rcases this with rfl | rfl | rfl | rfl <;> rfl
theorem len4 : (Str.ofString ".fsb").length = 4 := by decide +kernel
def spSignC : Sp := fun vs H Q _ => ∃ (p : Addr) (q f s i : Nat), vs = [.ref p, .int i] ∧ H p = some (M3 q f s) ∧ Q (.str (one (sg (dg f s i)))) H
def spShowM : Sp := fun vs H Q _ => ∃ (p : Addr) (q f s n ab : Nat), vs = [.ref p, .int n] ∧ H p = some (M3 q f s) ∧ q = (pc (f &&& s) + 2 * ab) % 4 ∧ ab < 2 ∧ n ≤ 6 ∧ ∀ H', Same H H' → Q (.str (tx ab f s n)) H'
theorem dgI (f s i : Nat) : ((f / 2 ^ i % 2 : Nat) : Int) + 2 * ((s / 2 ^ i % 2 : Nat) : Int) = (dg f s i : Nat) := by unfold dg; omega
theorem fold_cps : ∀ (r : List Str) (acc : Array Nat), (r.foldl (fun acc p => acc ++ (Str.ofString "").cps ++ p.cps) acc).toList = acc.toList ++ r.flatMap (fun p => p.cps.toList)
  | [], acc => by simp
  | a :: r, acc => by
    have e : (Str.ofString "").cps = #[] := by decide +kernel
    rw [List.foldl_cons, fold_cps r, e]
    simp
theorem join_nil (g : Nat → Nat) (n : Nat) : Txt.join (Str.ofString "") ((List.range n).map fun i => one (g i)) = ⟨((List.range n).map g).toArray⟩ := by
  show Builtin.Str.glued _ _ = _
  unfold Builtin.Str.glued
  congr 1
  apply Array.toList_inj.mp
  rw [fold_cps]
  cases n with
  | zero => rfl
  | succ n =>
    rw [List.range_succ_eq_map]
    simp [List.flatMap_map, one, Function.comp_def]
    show List.flatMap (fun i => [g (i + 1)]) (List.range n) = _
    induction List.range n with
    | nil => rfl
    | cons a r ih => rw [List.flatMap_cons, List.map_cons, ih]; rfl
theorem body_eq (f s : Nat) : ∀ n, body f s n = (List.range n).map fun i => sg (dg f s i)
  | 0 => rfl
  | n + 1 => by
    rw [List.range_succ, List.map_append, ← body_eq f s n]
    rfl
theorem tx_join (ab f s n : Nat) : one (if ab = 0 then 43 else 45) ++ Txt.join (Str.ofString "") ((List.range n).map fun i => one (sg (dg f s i))) = tx ab f s n := by
  rw [join_nil, ← body_eq]
  show (⟨#[_] ++ (body f s n).toArray⟩ : Str) = ⟨(_ :: body f s n).toArray⟩
  simp
theorem join_ok (g : Nat → Nat) {n : Nat} (h : n ≤ 6) : JoinOk (Str.ofString "") ((List.range n).map fun i => one (g i)) = true := by
  have e : (Str.ofString "").length = 0 := by decide +kernel
  have : n = 0 ∨ n = 1 ∨ n = 2 ∨ n = 3 ∨ n = 4 ∨ n = 5 ∨ n = 6 := by omega
  unfold JoinOk
  rw [e, Bool.not_eq_true']
  rcases this with rfl | rfl | rfl | rfl | rfl | rfl | rfl
  · exact (by decide : Builtin.Str.tooLong 0 = false)
  · exact (by decide : Builtin.Str.tooLong 1 = false)
  · exact (by decide : Builtin.Str.tooLong 2 = false)
  · exact (by decide : Builtin.Str.tooLong 3 = false)
  · exact (by decide : Builtin.Str.tooLong 4 = false)
  · exact (by decide : Builtin.Str.tooLong 5 = false)
  · exact (by decide : Builtin.Str.tooLong 6 = false)
section
variable {P : Program} {w : World} {K : PySem.W.Frag} {mg : Str → Option Value} {base : Heap} {k : Nat} {h : Heap} {C D : Addr} {bm bm' : List Value}
theorem sc_ones : FnScope ["number", "many", "rest"] ["number"] (defScope (top 12)) := ⟨rfl, rfl, rfl, by decide +kernel, rfl, by decide +kernel, by decide +kernel⟩
theorem ok_ones (F : FunAt K "ones" (top 12) .none) (X : K.In h) (G : h.Ns mainGlobals mg) (B : Bs mg) : Cal P w K mg base (k + 1) "ones" ["number"] spOnes := by
  have nd := sc_ones.nd
  refine F.cal X G sc_ones (bnd1 fun _ _ _ _ _ _ _ => rfl) (fun vs H Q E h => ?_) (fun f cdv A outer s H vs Q E hr h => ?_)
  · obtain ⟨n, rfl, _⟩ := h; rfl
  obtain ⟨n, rfl, q⟩ := h
  refine ⟨_, (@pss_cons _ _ _ _ _ (@ps_set _ _ 1 _ _ _ _ nd rfl (Or.inl rfl) pe_int rfl (.inl rfl))
    (@pss_cons _ _ _ _ _ (@ps_set _ _ 2 _ _ _ _ nd rfl (Or.inl rfl) (pv 0) rfl (.inl rfl))
    (@pss_cons _ _ _ _ _ (ps_while PassesOwn.never (pt_cmpR op_ne (pv 2) pe_int (nomark _))
      (@pss_cons _ _ _ _ _ (@ps_set _ _ 2 _ _ _ _ nd rfl (Or.inl rfl) (pe_op op_and (pv 2) (pe_op op_sub (pv 2) pe_int)) rfl (.inl rfl))
      (@pss_one _ _ _ (@ps_set _ _ 1 _ _ _ _ nd rfl (Or.inl rfl) (pe_op op_add (pv 1) pe_int) rfl (.inl rfl)))))
    (@pss_one _ _ _ (ps_ret (pv 1)))))), ?_⟩
  try dsimp only [cxK]
  refine ⟨_, rfl, fun m σ H' => H' = H ∧ ∃ j r : Nat, m = pc r ∧ j + pc r = pc n ∧ σ = [some (.int n), some (.int j), some (.int r)], ⟨_, rfl, 0, n, rfl, Nat.zero_add _, rfl⟩, ?_⟩
  rintro m σ H' ⟨rfl, j, r, rfl, hj, rfl⟩
  refine ⟨_, rfl, rfl, _, rfl, neI (fun hr0 => ?_) (fun hr0 => ?_)⟩
  · have r0 : r ≠ 0 := by omega
    have e := pc_drop (r + 1) r (by omega) r0
    refine ⟨_, fun σ' H' x => x, ?_⟩
    refine ⟨_, rfl, _, rfl, _, _, rfl, rfl, _, _, rfl, rfl, ?_⟩
    refine ⟨_, rfl, _, _, rfl, rfl, ⟨pc (r &&& (r - 1)), by omega, rfl, j + 1, r &&& (r - 1), rfl, by omega, ?_⟩⟩
    have e2 : Builtin.bitAnd (r : Int) ((r : Int) - 1) = ((r &&& (r - 1) : Nat) : Int) := by rw [show (r : Int) - 1 = ((r - 1 : Nat) : Int) by omega, and_i]
    show [some (V.int n), some (V.int ((j : Int) + 1)), some (V.int (Builtin.bitAnd (r : Int) ((r : Int) - 1)))] = _
    rw [e2]
    rfl
  · have r0 : r = 0 := by omega
    subst r0
    rw [pc_zero, Nat.add_zero] at hj
    subst hj
    exact ⟨_, rfl, q⟩
theorem sc_rmark : FnScope ["text", "flips", "signs", "cell", "sign", "found", "about"] ["text"] (defScope (top 15)) := ⟨rfl, rfl, rfl, by decide +kernel, rfl, by decide +kernel, by decide +kernel⟩
theorem okx_rmark {tC : Tok} (gC : mg "CELL_SIGNS" = some (.str (Str.ofString ".fsb") tC)) (F : FunAt K "read_mark" (top 15) .none) (X : K.In h) (G : h.Ns mainGlobals mg) (B : Bs mg) (mK : mg "NoMark" = some (.ref C)) (xK : ExcAt K C bm) (c_ones : Cal P w K mg base k "ones" ["number"] spOnes) : CalX P w K mg base (k + 1) "read_mark" ["text"] (spRMark K C) := by
  have nd := sc_rmark.nd
  refine F.calX X G sc_rmark (bnd1 fun _ _ _ _ _ _ _ => rfl) (fun vs H Q E h => ?_) (fun f cdv A outer s H vs Q E hr h => ?_)
  · obtain ⟨v, rfl, _⟩ := h; rfl
  obtain ⟨v, rfl, hv⟩ := h
  refine ⟨_, (@pss_cons _ _ _ _ _ (ps_if (PW.pt (pw_or (pt_not (pt_val (pe_callB call_isinst rfl B.isinstance boot_isinstance (pa_cons (pv 0) (pa_cons (pe_bltn (v := .ty "str") rfl B.str boot_str rfl) pa_nil))))) (pw_or (pt_cmpR op_lt (pe_callB call_len_str rfl B.len PySem.boot_len (pa_cons (pv 0) pa_nil)) pe_int (nomark _)) (pw_or1 (pt_cmpR op_gt (pe_callB call_len_str rfl B.len PySem.boot_len (pa_cons (pv 0) pa_nil)) pe_int (nomark _))))))
      (@pss_one _ _ _ (ps_raise flies_of rfl rfl mK xK (pa_cons pe_str pa_nil)))
      pss_nil)
    (@pss_cons _ _ _ _ _ (ps_if (pt_cmpR op_notIn_seq (pe_ix ix_str (pv 0) pe_int (fun _ _ => rfl)) (@pe_tup _ _ _ _ _ (pa_cons pe_str (pa_cons pe_str pa_nil))) rfl)
      (@pss_one _ _ _ (ps_raise flies_of rfl rfl mK xK (pa_cons pe_str pa_nil)))
      pss_nil)
    (@pss_cons _ _ _ _ _ (@ps_set _ _ 1 _ _ _ _ nd rfl (Or.inl rfl) pe_int rfl (.inl rfl))
    (@pss_cons _ _ _ _ _ (@ps_set _ _ 2 _ _ _ _ nd rfl (Or.inl rfl) pe_int rfl (.inl rfl))
    (@pss_cons _ _ _ _ _ (ps_for PassesOwn.leaving rfl (pi_enumS rfl B.enumerate (pa_cons (pe_slice sl_str (pv 0) (po_some pe_int) po_none) pa_nil)) (@pg_tup _ _ _ _ _ _ rfl (@pgs_cons _ _ _ _ _ (@pg_name _ _ 3 _ nd rfl (Or.inl rfl) (by first | exact .inl rfl | exact .inr rfl)) (@pgs_cons _ _ _ _ _ (@pg_name _ _ 4 _ nd rfl (Or.inl rfl) (by first | exact .inl rfl | exact .inr rfl)) pgs_nil rfl) rfl) rfl rfl)
      (@pss_cons _ _ _ _ _ (@ps_set _ _ 5 _ _ _ _ nd rfl (Or.inl rfl) (pe_bm PySem.F.plainAttrs_str PySem.F.slot_str_find PySem.F.type_str_find mt_find (pe_glob (v := .str (Str.ofString ".fsb")) rfl gC ⟨_, rfl⟩) (pa_cons (pv 4) pa_nil)) rfl (.inl rfl))
      (@pss_cons _ _ _ _ _ (ps_if (pt_cmpR op_lt (pv 5) pe_int (nomark _))
        (@pss_one _ _ _ (ps_raise flies_of rfl rfl mK xK (pa_cons pe_str pa_nil)))
        pss_nil)
      (@pss_cons _ _ _ _ _ (@ps_set _ _ 1 _ _ _ _ nd rfl (Or.inl rfl) (pe_op op_or (pv 1) (pe_op op_shlS (pe_op op_and (pv 5) pe_int) (pv 3))) rfl (.inl rfl))
      (@pss_one _ _ _ (@ps_set _ _ 2 _ _ _ _ nd rfl (Or.inl rfl) (pe_op op_or (pv 2) (pe_op op_shlS (pe_op op_shr (pv 5) pe_int) (pv 3))) rfl (.inl rfl)))))))
    (@pss_cut _ _ _ _ _ (@ps_set _ _ 6 _ _ _ _ nd rfl (Or.inl rfl) (pe_ifExp (pt_cmpR op_eq (pe_ix ix_str (pv 0) pe_int (fun _ _ => rfl)) pe_str (nomark _)) pe_int pe_int) rfl (.inl rfl))
    (@pss_one _ _ _ (ps_ret (@pe_tup _ _ _ _ _ (pa_cons (@pe_tup _ _ _ _ _ (pa_cons (pe_op op_mod (pe_op op_add (pe_cal c_ones hr rfl (pa_cons (pe_op op_and (pv 1) (pv 2)) pa_nil)) (pv 6)) pe_int) (pa_cons (pv 1) (pa_cons (pv 2) pa_nil)))) (pa_cons (pe_op op_sub (pe_callB call_len_str rfl B.len PySem.boot_len (pa_cons (pv 0) pa_nil)) pe_int) pa_nil))))))))))), ?_⟩
  try dsimp only [cxK]
  rcases hv with ⟨⟨t, ty, kt⟩, q⟩ | ⟨z, rfl, hz, dq⟩
  · exact ⟨_, rfl, _, _, _, false, rfl, ty, kt, _, rfl, iteT ⟨s1l, q H (Same.refl _)⟩⟩
  have hz' : z.length ≤ sizeLine := fine_sz hz
  refine ⟨_, rfl, _, _, _, true, rfl, TyOf.str z, kit_ss K, _, rfl, iteF ?_⟩
  have qn : due z = none → ∀ H', Same H H' → E (.ref C) none H' := fun e => by unfold ReadQ at dq; rw [e] at dq; exact dq
  refine ⟨_, rfl, z, rfl, hz', _, _, rfl, rfl, _, rfl, decI (fun c => ⟨s1l, qn (due_short (.inl (by omega))) H (Same.refl _)⟩) (fun c2 => ?_)⟩
  refine ⟨_, rfl, z, rfl, hz', _, _, rfl, rfl, _, rfl, decI (fun c => ⟨s1l, qn (due_short (.inr (by omega))) H (Same.refl _)⟩) (fun c7 => ?_)⟩
  obtain ⟨c0, cs, ez, ln⟩ := parts (z := z) (by omega)
  have at0 : atI z.cps.toList 0 = some c0 := at_nat (i := 0) (by rw [ez]; rfl)
  have inp : inV (.str (one c0)) [V.str (Str.ofString "+"), V.str (Str.ofString "-")] = decide (c0 = 43 ∨ c0 = 45) := by
    have e1 : Str.ofString "+" = one 43 := by decide +kernel
    have e2 : Str.ofString "-" = one 45 := by decide +kernel
    rw [e1, e2]
    have eq1 : ∀ a b : Nat, (one a == one b) = decide (b = a) := fun a b => by
      rw [Bool.eq_iff_iff, beq_iff_eq, decide_eq_true_iff]
      constructor
      · intro h
        have h : [a] = [b] := congrArg (fun x : Str => x.cps.toList) h
        exact (List.head_eq_of_cons_eq h).symm
      · rintro rfl; rfl
    show ((one 43 == one c0) || ((one 45 == one c0) || false)) = _
    rw [eq1, eq1, Bool.or_false, Bool.decide_or]
  refine ⟨_, rfl, z, 0, c0, rfl, rfl, hz', at0, (show 2 ≤ sizeLine by decide), fun t ft => ⟨t, [V.str (Str.ofString "+"), V.str (Str.ofString "-")], rfl, .inr (SqT.of upd_same), rfl, rfl, _, rfl, ?_⟩⟩
  have S1 := same_new ft (.tup [V.str (Str.ofString "+"), V.str (Str.ofString "-")])
  generalize upd H t (.tup [V.str (Str.ofString "+"), V.str (Str.ofString "-")]) = H1 at S1 ⊢
  refine nblI (fun e => ⟨s1l, qn ?_ H1 S1⟩) (fun e => ?_)
  · have e' := inp.symm.trans e
    rw [due_of ez, if_neg]
    intro hh
    exact absurd (decide_eq_true hh.2) (by rw [e']; decide)
  have pm : c0 = 43 ∨ c0 = 45 := of_decide_eq_true (inp.symm.trans e)
  have rn : rd cs = none → ∀ H', Same H H' → E (.ref C) none H' := fun er => qn (by rw [due_of ez, er]; split <;> rfl)
  refine ⟨_, rfl, 1, rfl, z, rfl, hz', _, rfl, ?_⟩
  rw [slice1 ez]
  have cs6 : cs.length ≤ 6 := by omega
  refine for_enumS (z := ⟨cs.toArray⟩) (fun i σ H' => Same H H' ∧ ∃ (f s : Nat) (v3 v4 v5 : Option V), rd (cs.take i) = some (f, s) ∧ σ = [some (.str z), some (.int f), some (.int s), v3, v4, v5, none]) ⟨S1, 0, 0, _, _, _, rfl, rfl⟩ ?_ ?_
  · rintro i c σ H2 T hc ⟨S2, f, s', v3, v4, v5, e1, rfl⟩ hT
    have hc : cs[i]? = some c := by simpa using hc
    have hi : i < cs.length := (List.getElem?_eq_some_iff.mp hc).1
    have S3 := S2.trans (same_new hT (.tup [V.int i, V.str ⟨#[c]⟩]))
    refine ⟨T, _, rfl, SqT.of upd_same, rfl, _, _, rfl, _, _, rfl, rfl, ?_⟩
    refine ⟨rfl, _, rfl, _, _, rfl, rfl, ?_⟩
    have fs := find_sgn c
    cases hs : sgn c with
    | none =>
      rw [hs] at fs
      have fs' : Txt.find (Str.ofString ".fsb") ⟨#[c]⟩ = -1 := fs
      rw [fs']
      exact ⟨_, rfl, _, _, rfl, rfl, _, rfl, decI (fun _ => ⟨s1l, rn (rd_cut hc hs) _ S3⟩) (fun z => absurd (show (-1 : Int) < 0 by decide) z)⟩
    | some d =>
      rw [hs] at fs
      have fs' : Txt.find (Str.ofString ".fsb") ⟨#[c]⟩ = (d : Int) := fs
      rw [fs']
      have d4 := sgn_lt hs
      have e2 := rd_next hc hs e1
      obtain ⟨bf, bs⟩ := rd_lt e1
      rw [List.length_take, Nat.min_eq_left (by omega)] at bf bs
      have hf := bit_f (d := d) bf
      have hs' := bit_s (d := d) bs
      refine ⟨_, rfl, _, _, rfl, rfl, _, rfl, decI (fun z => absurd z (by show ¬ (d : Int) < 0; omega)) (fun _ => ?_)⟩
      have w1 : Sz 3 (Builtin.bitAnd (d : Int) 1) := by
        have e1 : Builtin.bitAnd (d : Int) 1 = ((d % 2 : Nat) : Int) := by
          have := and_i d 1
          rw [Nat.and_one_is_mod] at this
          exact this
        rw [e1]
        exact Sz.of_bound (b := 4) (by omega) (by omega) (by decide)
      have w2 : Sz 3 ((d : Int) / 2 ^ (1 : Int).toNat) := by
        have e1 : (d : Int) / 2 ^ (1 : Int).toNat = ((d / 2 : Nat) : Int) := by
          show (d : Int) / 2 ^ 1 = _
          rw [Int.natCast_ediv]
          rfl
        rw [e1]
        exact Sz.of_bound (b := 4) (by omega) (by omega) (by decide)
      refine ⟨_, rfl, _, rfl, _, _, rfl, rfl, _, rfl, _, _, rfl, rfl, ⟨3, w1, by show (0 : Int) ≤ (i : Int); omega, by show ((3 : Nat) : Int) + (i : Int) ≤ 1048576; omega⟩, _, _, rfl, rfl, ?_⟩
      refine ⟨_, rfl, _, rfl, _, _, rfl, rfl, (by show (0 : Int) ≤ 1; decide), _, rfl, _, _, rfl, rfl, ⟨3, w2, by show (0 : Int) ≤ (i : Int); omega, by show ((3 : Nat) : Int) + (i : Int) ≤ 1048576; omega⟩, _, _, rfl, rfl, S3, _, _, some (.int i), some (.str ⟨#[c]⟩), some (.int d), e2, ?_⟩
      show [some (V.str z), some (V.int (Builtin.bitOr (f : Int) (Builtin.bitAnd (d : Int) 1 * 2 ^ (i : Int).toNat))), some (V.int (Builtin.bitOr (s' : Int) ((d : Int) / 2 ^ (1 : Int).toNat * 2 ^ (i : Int).toNat))), some (V.int i), some (V.str ⟨#[c]⟩), some (V.int d), none] = _
      rw [hf, hs']
  rintro σ H2 ⟨S2, f, s', v3, v4, v5, e1, rfl⟩
  have e1 : rd (cs.take cs.length) = some (f, s') := by simpa using e1
  rw [List.take_length] at e1
  have ed : due z = some ((pc (f &&& s') + (if c0 = 45 then 2 else 0)) % 4, f, s', cs.length) := by
    rw [due_of ez, if_pos ⟨by omega, pm⟩, e1]
  unfold ReadQ at dq
  rw [ed] at dq
  refine ⟨fun σ' H' => H' = H2 ∧ σ' = [some (.str z), some (.int f), some (.int s'), v3, v4, v5, some (.int ((if c0 = 45 then 2 else 0 : Nat) : Int))], ?_, ?_⟩
  · refine ⟨_, rfl, z, 0, c0, rfl, rfl, hz', at0, rfl, _, rfl, ?_⟩
    have dd : decide (V.str ⟨#[c0]⟩ = V.str (Str.ofString "-")) = decide (c0 = 45) := dash c0
    rw [dd]
    exact decI (fun c => ⟨rfl, by rw [if_pos c]; rfl⟩) (fun c => ⟨rfl, by rw [if_neg c]; rfl⟩)
  rintro σ' H3 ⟨rfl, rfl⟩
  have el : ((z.length : Nat) : Int) - 1 = (cs.length : Nat) := by omega
  refine ⟨_, rfl, _, rfl, _, _, rfl, rfl, f &&& s', (by show [V.int (Builtin.bitAnd (f : Int) (s' : Int))] = _; rw [and_i]), _, rfl, _, _, rfl, rfl, _, _, rfl, rfl, four_pos, _, rfl, _, rfl, (show 3 ≤ sizeLine by decide), fun r hr => ⟨_, rfl, z, rfl, hz', _, _, rfl, rfl, (show 2 ≤ sizeLine by decide), fun p hp => ?_⟩⟩
  refine dq p r _ ((S2.trans (same_new hr _)).trans (same_new hp _)) ?_ ?_
  · rw [upd_same]
    show some (HO.tup [V.ref r, V.int (((z.length : Nat) : Int) - 1)]) = _
    rw [el]
  · refine same_new hp _ _ _ ?_
    rw [upd_same]
    rfl
theorem sc_cs : FnScope ["mark", "cell", "flip", "sign"] ["mark", "cell"] (defScope (top 14)) := ⟨rfl, rfl, rfl, by decide +kernel, rfl, by decide +kernel, by decide +kernel⟩
theorem ok_cs {tC : Tok} (gC : mg "CELL_SIGNS" = some (.str (Str.ofString ".fsb") tC)) (F : FunAt K "cell_sign" (top 14) .none) (X : K.In h) (G : h.Ns mainGlobals mg) : Cal P w K mg base (k + 1) "cell_sign" ["mark", "cell"] spSignC := by
  have nd := sc_cs.nd
  refine F.cal X G sc_cs (bnd2 fun _ _ _ _ _ _ _ _ => rfl) (fun vs H Q E h => ?_) (fun fa cdv A outer s H vs Q E hr h => ?_)
  · obtain ⟨p, q, f, s, i, rfl, _⟩ := h; rfl
  obtain ⟨p, q0, f, s', i, rfl, hp, q⟩ := h
  have M : SqT K H p [.int q0, .int f, .int s'] := SqT.of hp
  refine ⟨_, (@pss_cons _ _ _ _ _ (@ps_set _ _ 2 _ _ _ _ nd rfl (Or.inl rfl) (pe_op op_and (pe_op op_shr (pe_ix ix_tup (pv 0) pe_int (fun _ _ => rfl)) (pv 1)) pe_int) rfl (.inl rfl))
    (@pss_cons _ _ _ _ _ (@ps_set _ _ 3 _ _ _ _ nd rfl (Or.inl rfl) (pe_op op_and (pe_op op_shr (pe_ix ix_tup (pv 0) pe_int (fun _ _ => rfl)) (pv 1)) pe_int) rfl (.inl rfl))
    (@pss_one _ _ _ (ps_ret (pe_ix ix_str (pe_glob (v := .str (Str.ofString ".fsb")) rfl gC ⟨_, rfl⟩) (pe_op op_add (pv 2) (pe_op op_mul pe_int (pv 3))) (fun _ _ => rfl)))))), ?_⟩
  try dsimp only [cxK]
  have bt : ∀ x : Nat, Builtin.bitAnd ((x : Int) / 2 ^ (i : Int).toNat) 1 = ((x / 2 ^ i % 2 : Nat) : Int) := fun x => by
    have e : (x : Int) / 2 ^ (i : Int).toNat = ((x / 2 ^ i : Nat) : Int) := by rw [Int.toNat_natCast]; simp
    rw [e]
    have := and_i (x / 2 ^ i) 1
    rw [Nat.and_one_is_mod] at this
    exact this
  have ix : atI (Str.ofString ".fsb").cps.toList (Builtin.bitAnd ((f : Int) / 2 ^ (i : Int).toNat) 1 + 2 * Builtin.bitAnd ((s' : Int) / 2 ^ (i : Int).toNat) 1) = some (sg (dg f s' i)) := by
    rw [bt, bt, dgI]
    exact at_sg (dg_lt f s' i)
  refine ⟨_, rfl, p, _, _, _, rfl, rfl, M, rfl, _, rfl, _, _, rfl, rfl, (by show (0 : Int) ≤ (i : Int); omega), _, _, rfl, rfl, ?_⟩
  refine ⟨_, rfl, p, _, _, _, rfl, rfl, M, rfl, _, rfl, _, _, rfl, rfl, (by show (0 : Int) ≤ (i : Int); omega), _, _, rfl, rfl, ?_⟩
  exact ⟨_, rfl, _, rfl, _, _, rfl, rfl, .inl ⟨by decide, by decide⟩, _, _, rfl, rfl, _, _, _, rfl, rfl, small (by rw [len4]; decide), ix, q⟩
theorem sc_showm : FnScope ["mark", "cells", "first"] ["mark", "cells"] (defScope (top 13)) := ⟨rfl, rfl, rfl, by decide +kernel, rfl, by decide +kernel, by decide +kernel⟩
theorem ok_showm (F : FunAt K "show_mark" (top 13) .none) (X : K.In h) (G : h.Ns mainGlobals mg) (B : Bs mg) (c_ones : Cal P w K mg base k "ones" ["number"] spOnes) (c_cell_sign : Cal P w K mg base k "cell_sign" ["mark", "cell"] spSignC) : Cal P w K mg base (k + 1) "show_mark" ["mark", "cells"] spShowM := by
  have nd := sc_showm.nd
  refine F.cal X G sc_showm (bnd2 fun _ _ _ _ _ _ _ _ => rfl) (fun vs H Q E h => ?_) (fun fa cdv A outer s H vs Q E hr h => ?_)
  · obtain ⟨p, q, f, s, n, ab, rfl, _⟩ := h; rfl
  obtain ⟨p, q0, f, s', n, ab, rfl, hp, hq, hab, hn, q⟩ := h
  have M : SqT K H p [.int q0, .int f, .int s'] := SqT.of hp
  refine ⟨_, (@pss_cons _ _ _ _ _ (@ps_set _ _ 2 _ _ _ _ nd rfl (Or.inl rfl) (pe_ifExp (pt_cmpR op_eq (pe_ix ix_tup (pv 0) pe_int (fun _ _ => rfl)) (pe_op op_mod (pe_cal c_ones hr rfl (pa_cons (pe_op op_and (pe_ix ix_tup (pv 0) pe_int (fun _ _ => rfl)) (pe_ix ix_tup (pv 0) pe_int (fun _ _ => rfl))) pa_nil)) pe_int) (nomark _)) pe_str pe_str) rfl (.inl rfl))
    (@pss_one _ _ _ (ps_ret (pe_op op_add_str (pv 2) (pe_bm PySem.F.plainAttrs_str PySem.F.slot_str_join PySem.F.type_str_join mt_join pe_str (pa_cons (pe_lc rfl (LcOk.of (Nc := ["cell", "mark"]) (mp := [none, some 0]) (by kernel_rfl)) (pi_range1 rfl B.range (pa_cons (pv 1) pa_nil)) (fun _ _ _ _ => (pg_name (i := 0) (show (["cell", "mark"] : List Str).Nodup by decide +kernel) rfl (Or.inl rfl))) (fun _ _ _ _ => (pe_cal c_cell_sign hr rfl (pa_cons (pv 1) (pa_cons (pv 0) pa_nil))))) pa_nil)))))), ?_⟩
  try dsimp only [cxK]
  refine ⟨_, rfl, p, _, _, _, rfl, rfl, M, rfl, _, rfl, p, _, _, _, rfl, rfl, M, rfl, _, rfl, p, _, _, _, rfl, rfl, M, rfl, _, _, rfl, rfl, f &&& s', (by show [V.int (Builtin.bitAnd (f : Int) (s' : Int))] = _; rw [and_i]), _, _, rfl, rfl, four_pos, rfl, _, rfl, ?_⟩
  have pl : Str.ofString "+" = one 43 := by decide +kernel
  have mi : Str.ofString "-" = one 45 := by decide +kernel
  have rest : ∀ (z : Str), z = one (if ab = 0 then 43 else 45) → ∀ acc, H acc = none → LcW (Itr 0 ((n : Nat) : Int).toNat) (gName 0) (tCall spSignC [] E0 (tCons (tVar 1) (tCons (tVar 0) tNil))) (none :: [some (.ref p)]) H acc (fun x H1 => ∃ (z' : Str) (p' : Addr) (texts : List Str), V.str (Str.ofString "") = .str z' ∧ [x] = [.ref p'] ∧ SqL K H1 p' (texts.map V.str) ∧ JoinOk z' texts = true ∧ ∃ i j, V.str z = .str i ∧ V.str (Txt.join z' texts) = .str j ∧ i.length + j.length ≤ sizeLine ∧ Q (.str (i ++ j)) H1) := by
    rintro z rfl acc hacc
    refine lc_rangeP (n := n) (fr := [some (.ref p)]) (fun i => .str (one (sg (dg f s' i)))) (small (by omega)) hacc (fun i H2 N hi s2 kN => ?_) (fun H2 s2 a2 => ?_)
    · exact ⟨_, rfl, _, rfl, p, q0, f, s', i, (by show [V.ref p, V.int ((0 : Int) + (i : Int))] = _; rw [Int.zero_add]), s2 _ _ hp, kN⟩
    have tj := tx_join ab f s' n
    refine ⟨_, acc, (List.range n).map (fun i => one (sg (dg f s' i))), rfl, rfl, SqL.of (by rw [a2, List.map_map]; rfl), join_ok _ hn, _, _, rfl, rfl, ?_, ?_⟩
    · have := congrArg Str.length tj
      rw [Str.length_append, tx_len] at this
      exact small (by omega)
    · rw [tj]; exact q H2 s2
  refine eqI (fun e => ?_) (fun e => ?_)
  · have h0 : ab = 0 := by omega
    exact ⟨_, rfl, rfl, _, rfl, _, rfl, by omega, by omega, rest _ (by rw [h0]; exact pl)⟩
  · have h0 : ¬ ab = 0 := by
      intro z
      subst z
      exact e (by rw [hq]; omega)
    exact ⟨_, rfl, rfl, _, rfl, _, rfl, by omega, by omega, rest _ (by rw [if_neg h0]; exact mi)⟩
end
end K95

set_option maxHeartbeats 1000000
/-! enumerate(a list, start=1) -/
namespace PySem
open Sem (wp)
open AutoSeq1 (wpAny_loadPart')
abbrev kwS (t : Tok) : List (Str × Value) := [(Str.ofString "start", .int 1 t)]
theorem tcS (a : Value) (t : Tok) : checkTypeCall "enumerate" ⟨[a], kwS t⟩ = pure () := by kernel_rfl
theorem ncS (a : Value) (t : Tok) : checkBuiltinCall "enumerate.__new__" ⟨[.type "enumerate", a], kwS t⟩ = pure () := by kernel_rfl
theorem okS (a b : Value) (t : Tok) : argsOk "object.__init__" ⟨[a, b], kwS t⟩ := by
  unfold argsOk
  rw [signature?_of (id := "object.__init__") (n := ['_', '_', 't', 'i', 'n', 'i', '_', '_']) (o := ['t', 'c', 'e', 'j', 'b', 'o']) (by kernel_rfl) F.owner_object]
  kernel_rfl
theorem meetsS (l : Addr) (items : Array Value) (n : Nat) (dct : Option Addr) (sl : Array (Option Value)) (t : Tok) :
    Meets (Builtin.«enumerate.__new__» ⟨[.type "enumerate", .ref l], kwS t⟩) (fun _ R s => s.heap.get? l = some { cls := .type "list", dict := dct, data := .seq items n, slots := sl } ∧
      R (.ok (.ret (.ref (s.heap.push { cls := .type "list_iterator", data := .fields #[.ref l, .int 0 0] }).objs.size)))
        { s with heap := (s.heap.push { cls := .type "list_iterator", data := .fields #[.ref l, .int 0 0] }).push { cls := .type "enumerate", data := .fields #[.none, .bool false, .ref s.heap.objs.size, rawInt 1, .none, .none] } }) :=
  .of_wp fun prog w A R s h => by
    obtain ⟨hp, g, d, tk, os⟩ := s
    obtain ⟨hl, h⟩ := h
    have hsub := sub_enumerate
    have hL : Heap.IsList (Shared.heap ⟨hp, g, d, tk, os⟩) l items := ⟨_, hl, rfl, n, rfl⟩
    wp_walk using wpAny_loadPart' hl
    refine wpAny_stack_any fun st => wpAny_pure ?_
    split
    · rename_i c _ _ _ _ _
      cases (c == Value.type "enumerate")
      · wp_walk using wpAny_loadPart' hl, wpAny_pyIter_list hL
        exact ⟨_, rfl, h⟩
      · wp_walk using wpAny_loadPart' hl, wpAny_pyIter_list hL
        exact ⟨_, rfl, h⟩
    · wp_walk using wpAny_loadPart' hl, wpAny_pyIter_list hL
      exact ⟨_, rfl, h⟩
section
variable {prog : Program} {w : World} {A : Around} {E : Value → Shared → Prop} {s : Shared}
theorem initS {self a : Value} {t : Tok} : Meets (Builtin.«object.__init__» ⟨[self, a], kwS t⟩) (fun _ R s => s.TypeIs self "enumerate" ∧ R (.ok (.ret .none)) s) := by
  have hl := F.called_enumerate.init.lookup
  have hm := F.called_enumerate.made
  have hne : (some "enumerate.__new__" != some "object.__new__") = true := by decide
  refine Meets.of_wp fun prog w A R s hs => ?_
  obtain ⟨hT, hq⟩ := hs
  repeat (any_goals (first | assumption | wp_step))
  exact ⟨_, rfl, hq⟩
theorem call_enumS1 {l : Addr} {items : Array Value} {t : Tok} {Q : Value → Shared → Prop} (hL : s.heap.IsList l items)
    (h : ∀ h', IsEnum h' (s.heap.objs.size + 1) s.heap.objs.size 1 .none → h'.IsListIter s.heap.objs.size l 0 → (∀ b o, s.heap.get? b = some o → h'.get? b = some o) → Q (.ref (s.heap.objs.size + 1)) { s with heap := h' }) :
    wpAny (model prog w) A (call (.type "enumerate") [.ref l] (kwS t)) Q E s := by
  obtain ⟨⟨c, dct, dt, sl⟩, hl, hc, n, hd⟩ := hL
  replace hc : c = .type "list" := hc
  replace hd : dt = .seq items n := hd
  subst hc hd
  have ft := F.called_enumerate
  obtain ⟨c, tl, hmro⟩ := ft.mro
  have hmade := ft.made
  have hsub := ft.sub
  have hct := tcS (.ref l) t
  refine wpAny_call (codeAny_of_tree ?_)
  show wpAny _ _ (callAny (.type "enumerate") _) _ _ _
  refine wpAny_pure ⟨Code.quiet_builtin _ (by decide +kernel), codeAny_builtin F.entry_type_call ?_⟩
  rw [Around.under_plain (weight_type_call_type "enumerate" [.ref l] (kwS t)) (units_type_call_type "enumerate" [.ref l] (kwS t))]
  have h1 := ft.notType
  have h2 := ft.canCreate
  repeat (any_goals (first | assumption | wp_step))
  obtain ⟨R0, hR⟩ : ∃ R0 : Result → Shared → Prop, R0 = (fun r s₁ => r = .ok (.ret (.ref (s.heap.objs.size + 1))) ∧ s₁ = { s with heap := (s.heap.push { cls := .type "list_iterator", data := .fields #[.ref l, .int 0 0] }).push { cls := .type "enumerate", data := .fields #[.none, .bool false, .ref s.heap.objs.size, rawInt 1, .none, .none] } }) := ⟨_, rfl⟩
  have M := meetsS l items n dct sl t prog w A.in1 R0 s ⟨hl, by rw [hR]; exact ⟨by rw [Heap.size_push], rfl⟩⟩
  refine codeAny_mono (codeAny_call_builtin (R := R0) ft.plain F.entry_enumerate_new (wpAny_of_eq (ncS _ t) ?_)) fun r s₁ hr => ?_
  · exact M
  subst hR
  obtain ⟨rfl, rfl⟩ := hr
  have he : IsEnum ((s.heap.push { cls := .type "list_iterator", data := .fields #[.ref l, .int 0 0] }).push { cls := .type "enumerate", data := .fields #[.none, .bool false, .ref s.heap.objs.size, rawInt 1, .none, .none] }) (s.heap.objs.size + 1) s.heap.objs.size 1 .none := by
    have := Heap.get?_push_size (s.heap.push { cls := .type "list_iterator", data := .fields #[.ref l, .int 0 0] }) (o := { cls := .type "enumerate", data := .fields #[.none, .bool false, .ref s.heap.objs.size, rawInt 1, .none, .none] }) rfl
    rwa [Heap.size_push] at this
  have hi : ((s.heap.push { cls := .type "list_iterator", data := .fields #[.ref l, .int 0 0] }).push { cls := .type "enumerate", data := .fields #[.none, .bool false, .ref s.heap.objs.size, rawInt 1, .none, .none] }).IsListIter s.heap.objs.size l 0 := ⟨_, Heap.get?_push_of_some _ (Heap.get?_push_size _ rfl), rfl, rfl⟩
  have kp : ∀ b o, s.heap.get? b = some o → ((s.heap.push { cls := .type "list_iterator", data := .fields #[.ref l, .int 0 0] }).push { cls := .type "enumerate", data := .fields #[.none, .bool false, .ref s.heap.objs.size, rawInt 1, .none, .none] }).get? b = some o := fun b o q => Heap.get?_push_of_some _ (Heap.get?_push_of_some _ q)
  have fin := h _ he hi kp
  generalize (s.heap.push { cls := .type "list_iterator", data := .fields #[.ref l, .int 0 0] }).push { cls := .type "enumerate", data := .fields #[.none, .bool false, .ref s.heap.objs.size, rawInt 1, .none, .none] } = h' at he hi kp fin ⊢
  have hT : Shared.TypeIs { s with heap := h' } (.ref (s.heap.objs.size + 1)) "enumerate" := ⟨_, he, rfl⟩
  have hli := ft.init.lookup
  have hbi := ft.init.bind (.ref (s.heap.objs.size + 1))
  clear M h
  repeat (any_goals (first | assumption | wp_step))
  obtain ⟨R1, hR1⟩ : ∃ R1 : Result → Shared → Prop, R1 = (fun r s₁ => r = .ok (.ret .none) ∧ s₁ = { s with heap := h' }) := ⟨_, rfl⟩
  have M2 := initS (self := .ref (s.heap.objs.size + 1)) (a := .ref l) (t := t) prog w A.in1 R1 { s with heap := h' } ⟨hT, by rw [hR1]; exact ⟨rfl, rfl⟩⟩
  refine codeAny_mono (codeAny_call_builtin (R := R1) ft.init.plain F.entry_object_init (ft.init.check _ _ _ _ _ _ _ _ hT (okS _ _ t) ?_)) fun r₂ s₂ hr₂ => ?_
  · exact M2
  subst hR1
  obtain ⟨rfl, rfl⟩ := hr₂
  repeat (any_goals (first | assumption | wp_step))
end
end PySem

set_option maxHeartbeats 1000000
/-! for i, x in enumerate(a list, start=1) -/
namespace L2
open PySem PySem.Spec PyProof.Rows
theorem draws1 {prog : Program} {w : World} {A : Around} (hh : A.handled = none) (it l : Addr) (hne : l ≠ it) (items : Array Value) :
    Draws prog w A it [it, l] (items.size + 1) (fun i v => items[i - 1]? = some v) (fun i h => 1 ≤ i ∧ h.IsListIter it l (i - 1) ∧ h.IsList l items) where
  live := fun _ _ st => let ⟨o, ho, _⟩ := st.2.1; ⟨o, ho⟩
  frame := fun _ _ _ st hk => ⟨st.1, st.2.1.at fun o e => hk it (by simp) o e, st.2.2.at fun o e => hk l (by simp) o e⟩
  item := fun i s Q E hi st hQ => by
    obtain ⟨h1, st⟩ := st
    have hi' : i - 1 < items.size := by omega
    refine wpAny_nextOf_list_item st.1 st.2 (x := items[i - 1]) (by simp [hi']) fun h' hit' hs' => ?_
    exact hQ _ h' s.toks (by simp [hi']) ⟨Nat.le_add_left _ _, by rw [show i + 1 - 1 = i - 1 + 1 by omega]; exact hit', st.2.extBut hs'.extBut hne⟩ hs'
  done := fun s Q E st hE => wpAny_nextOf_list_end hh st.2.1 st.2.2 (by simp) hE
def Ite1 (K : PySem.W.Frag) (l : Addr) : It :=
  ⟨fun i H => ∃ xs x, SqL K H l xs ∧ xs[i]? = some x,
   fun i H v H' => ∃ T x, v = .ref T ∧ H T = none ∧ H' = upd H T (.tup [.int ((i + 1 : Nat) : Int), x]) ∧ ∀ xs, SqL K H l xs → xs[i]? = some x,
   fun i H => ∃ xs, SqL K H l xs ∧ xs.length ≤ i⟩
theorem turn_enum1 {P : Program} {w : World} {K : PySem.W.Frag} {es : List Expr} {kk : Nat} {tp : Pos} {e it l : Addr} (ne : e ≠ it) (nl : l ≠ e) (nli : l ≠ it) :
    Turn P w K (.Tuple es kk tp) (Ite1 K l) [e, it] e (fun i h => (∃ old, IsEnum h e it ((i + 1 : Nat) : Int) old) ∧ h.IsListIter it l i) where
  mem := by simp
  obj := fun i h st b hb => by
    obtain ⟨⟨old, a1⟩, o, a2, _, a3⟩ := st
    simp only [List.mem_cons, List.not_mem_nil, or_false] at hb
    rcases hb with rfl | rfl
    · exact ⟨_, a1, fun v q => by have q' : Data.fields _ = Data.cell v := q; cases q'⟩
    · exact ⟨o, a2, fun v z => by rw [a3] at z; cases z⟩
  keep := fun i h h' st k => by
    obtain ⟨⟨old, a1⟩, a2⟩ := st
    exact ⟨⟨old, k e (by simp) _ a1⟩, a2.at fun o q => k it (by simp) o q⟩
  item := by
    intro X hP hw hK hc i pins s σ H E I hf st hg
    subst hP hw hK
    obtain ⟨xs, x, q1, hx⟩ := hg
    obtain ⟨⟨old, a1⟩, a2⟩ := st
    obtain ⟨its, rv, p, hz⟩ := I.list q1
    obtain ⟨vx, hvx, rx⟩ := rv.get hx
    have hh : X.A.in1.handled = none := I.ok.hd hc
    have hil : i < its.length := (List.getElem?_eq_some_iff.mp hvx).1
    refine wpAny_pyNext_enum_itemD (i := i + 1) (draws1 hh it l nli its.toArray) a1 ⟨Nat.le_add_left _ _, a2, p.isList⟩ (by simpa using hil) ne (by simpa using ⟨ne, nl.symm⟩) fun v h' tk px b1 b2 b3 b4 b5 => ?_
    have ev : v = vx := by
      have px : its.toArray[i + 1 - 1]? = some v := px
      rw [Nat.add_sub_cancel] at px
      have : its[i]? = some v := by simpa using px
      rw [hvx] at this
      exact (Option.some.inj this).symm
    subst ev
    refine ⟨_, rfl, wpAny_letOwnedTupleGo_enum b1 fun h2 c1 sb => ?_⟩
    have zT : s.heap.objs.size ≠ e := Nat.ne_of_gt (Heap.lt_size a1)
    have k2 : ∀ b o, b ∉ [e, it] → s.heap.get? b = some o → h2.get? b = some o := fun b o hb q => by
      simp only [List.mem_cons, List.not_mem_nil, or_false, not_or] at hb
      exact sb.extBut b o hb.1 (b5 b o hb.1 hb.2 q)
    have hT : IsTup h2 s.heap.objs.size ([.int ((i + 1 : Nat) : Int) tk, v] : List Value).toArray := ⟨_, sb.extBut _ _ zT b3, rfl, _, rfl⟩
    refine ⟨.ref s.heap.objs.size, upd H s.heap.objs.size (.tup [.int ((i + 1 : Nat) : Int), x]), I.turnedT (t' := tk + 1) k2 hf (Nat.le_refl _) (.cons ⟨_, rfl⟩ (.cons rx .nil)) (by show 2 ≤ sizeLine; decide) hT, rfl, ⟨_, x, rfl, I.hok.fresh (Nat.le_refl _), rfl, fun xs' h1 => ?_⟩, ⟨⟨v, ?_⟩, ?_⟩, fun b hb => ?_⟩
    · rw [I.list_inj h1 q1]; exact hx
    · exact_mod_cast c1
    · have b2 : h'.IsListIter it l (i + 1) := b2.2.1
      exact b2.at fun o q => sb.extBut _ _ ne.symm q
    · have hlt : b < s.heap.objs.size := by
        simp only [List.mem_cons, List.not_mem_nil, or_false] at hb
        rcases hb with rfl | rfl
        · exact Heap.lt_size a1
        · obtain ⟨o, q, _⟩ := a2; exact Heap.lt_size q
      rw [upd_ne (Nat.ne_of_lt hlt)]
      exact (hf b hb).1
  done := by
    intro X hP hw hK hc i pins s σ H E I hf st hg
    subst hP hw hK
    obtain ⟨xs, q1, hend⟩ := hg
    obtain ⟨⟨old, a1⟩, a2⟩ := st
    obtain ⟨its, rv, p, hz⟩ := I.list q1
    have e1 := rv.length
    have hh : X.A.in1.handled = none := I.ok.hd hc
    have D : Draws X.prog X.w X.A.in1 it [it, l] i (fun _ _ => False) (fun j h => j = i ∧ h.IsListIter it l i ∧ h.IsList l its.toArray) :=
      { live := fun _ _ st => let ⟨o, ho, _⟩ := st.2.1; ⟨o, ho⟩
        frame := fun _ _ _ st hk => ⟨st.1, st.2.1.at fun o e => hk it (by simp) o e, st.2.2.at fun o e => hk l (by simp) o e⟩
        item := fun j s Q E hi st hQ => absurd st.1 (Nat.ne_of_lt hi)
        done := fun s Q E st hE => wpAny_nextOf_list_end hh st.2.1 st.2.2 (by simp; omega) hE }
    refine wpAny_pyNext_enum_endD D a1 ⟨rfl, a2, p.isList⟩ fun h' eb => ⟨rfl, I.turnedL (t' := s.toks) (ch := [e, it]) (fun b o hb q => ?_) hf⟩
    simp only [List.mem_cons, List.not_mem_nil, or_false, not_or] at hb
    exact eb b o hb.2 q
  self := fun _ _ _ _ _ st h => by
    obtain ⟨⟨old, a1⟩, _⟩ := st
    exact wpAny_pyIter_enum a1 h
theorem callWith_type_kw {M : Model} {A : Around} {E : Value → Shared → Prop} {s : Shared} {env : Env} {pos : Pos} {T : String} {e : Expr} {rest : List Expr} {kws : List Keyword} {Q : Value → Shared → Prop}
    (h : wpAny M A (spliced (backTo pos (starEach (e :: rest) env))) (fun vs s₁ => wpAny M A (evalAll ((backToKw pos (keywordEach kws env)).map (·.2)))
      (fun kvs s₂ => wpAny M A (call (.type T) vs (((backToKw pos (keywordEach kws env)).filterMap (·.1)).zip kvs)) Q E s₂) E s₁) E s)
    (he : backTo pos (starEach (e :: rest) env) = (false, eval e env) :: backTo pos (starEach rest env) := by rfl)
    (hplain : (backTo pos (starEach (e :: rest) env)).any (·.1) = false := by rfl)
    (hall : (backToKw pos (keywordEach kws env)).all (·.1.isSome) = true := by rfl)
    (hkw : (backToKw pos (keywordEach kws env)).any (·.1.isNone) = false := by rfl) :
    wpAny M A (callWith pos (.type T) [] (backTo pos (starEach (e :: rest) env)) (backToKw pos (keywordEach kws env))) Q E s := by
  have h1 : wpAny M A (evalArgs (.type T) true (backTo pos (starEach (e :: rest) env)) (backToKw pos (keywordEach kws env))) (fun a s₁ => wpAny M A (call (.type T) ([] ++ a.pos) a.kw) Q E s₁) E s := by
    rw [he] at h ⊢
    exact evalArgs_kwB hall h
  unfold callWith
  refine wpAny_bind (wpAny_holding (wpAny_mono h1 (fun a s₁ h₁ => wpAny_bind (wpAny_standAt ?_)) fun _ _ x => x))
  simp only [hplain, hkw, Bool.or_false]
  refine wpAny_bind (wpAny_pure ?_)
  exact wpAny_bind (wpAny_mono h₁ (fun r s₂ hr => wpAny_bind (wpAny_holding (wpAny_point (wpAny_pure hr)))) fun _ _ x => x)
section
variable {X : Cx} {es : List Expr} {kk : Nat} {tp : Pos}
def iEnum1 (K : PySem.W.Frag) (ta : TA) : TI := fun σ H R => ta σ H fun vs H1 => ∃ l xs, vs = [.ref l] ∧ SqL K H1 l xs ∧ R (Ite1 K l) H1
theorem pi_enum1 {a : Expr} {ta : TA} {ck : Nat} {p p2 kp pos : Pos} (hg : Gl X "enumerate") (hm : X.mg "enumerate" = none) (ha : PA X [a] ta) (hs : starEach [a] X.env = (false, eval a X.env) :: starEach [] X.env := by rfl) :
    PI X (.Tuple es kk tp) (.Call (.Name "enumerate" p) [a] [⟨some "start", .Constant (.int 1) ck p2, kp⟩] pos) (iEnum1 X.K ta) := by
  intro pins s σ H R I h
  refine wpAny_Call_Name_kw (ld_blt I hg hm boot_enumerate ?_ (by decide) (by decide))
  refine callWith_type_kw (thn (ha pos pins s σ H _ I h) fun us s1 ⟨vs, H1, I1, r1, q1⟩ => ?_) (by rw [hs]; rfl) (by rw [hs]; rfl) rfl rfl
  obtain ⟨l, xs, e, h1, q⟩ := q1
  subst e
  refine thn (pk_cons (pe_int (i := 1)) pk_nil pos pins s1 σ H1 (fun zs H2 => zs = [.int 1] ∧ H2 = H1) I1 ⟨rfl, rfl⟩) fun ws s2 ⟨zs, H2, I2, rz, ez, eh⟩ => ?_
  subst ez eh
  obtain ⟨u, rfl, ru⟩ := vals1 rz
  obtain ⟨t, rfl⟩ := ru
  cases r1 with
  | cons r rr =>
    cases rr
    cases r
    obtain ⟨its, rv, pl, hz⟩ := I2.list h1
    refine call_enumS1 pl.isList fun h' z1 z2 zk => ?_
    have I3 : Inv X pins σ H2 { s2 with heap := h' } := I2.kept (t' := s2.toks) zk
    have lt1 : l < s2.heap.objs.size := by obtain ⟨o, q, _⟩ := pl.isList; exact Heap.lt_size q
    refine wpAny_pyIter_enum z1 ⟨_, [s2.heap.objs.size + 1, s2.heap.objs.size], _, _, H2, rfl, I3, turn_enum1 (Nat.succ_ne_self _) (Nat.ne_of_lt (Nat.lt_succ_of_lt lt1)) (Nat.ne_of_lt lt1), ⟨⟨_, z1⟩, z2⟩, fun b hb => ?_, q⟩
    have hge : s2.heap.objs.size ≤ b := by
      simp only [List.mem_cons, List.not_mem_nil, or_false] at hb
      rcases hb with rfl | rfl
      · exact Nat.le_succ _
      · exact Nat.le_refl _
    exact I2.fpOk hge (I2.hok.fresh hge)
end
theorem for_enum1 {K : PySem.W.Frag} {a : Addr} {xs : List V} {g : TG} {tb : TS} {D : Ends} {σ : St} {H : Hp} (Pv : Nat → St → Hp → Prop) (h0 : Pv 0 σ H) (hl : ∀ i σ H, i ≤ xs.length → Pv i σ H → SqL K H a xs)
    (hs : ∀ i x σ H T, xs[i]? = some x → Pv i σ H → H T = none → g (.ref T) σ (upd H T (.tup [.int ((i + 1 : Nat) : Int), x])) fun σ2 H2 => tb { D with nx := Pv (i + 1), ct := Pv (i + 1), bk := D.nx } σ2 H2) (hd : ∀ σ H, Pv xs.length σ H → D.nx σ H) :
    ∃ W : Nat → Nat → St → Hp → Prop, (∃ m, W 0 m σ H) ∧ ∀ i m σ H, W i m σ H →
      ((Ite1 K a).stop i H ∧ D.nx σ H) ∨ ((Ite1 K a).go i H ∧ ∃ N : St → Hp → Prop, (∀ σ' H', N σ' H' → ∃ m', m' < m ∧ W (i + 1) m' σ' H') ∧ ∀ x H', (Ite1 K a).yld i H x H' → g x σ H' fun σ2 H2 => tb { D with nx := N, ct := N, bk := D.nx } σ2 H2) := by
  refine ⟨fun i m σ H => m = xs.length - i ∧ i ≤ xs.length ∧ Pv i σ H, ⟨xs.length, by simp, Nat.zero_le _, h0⟩, ?_⟩
  rintro i m σ H ⟨rfl, hi, p⟩
  have q := hl i σ H hi p
  by_cases hlt : i < xs.length
  · refine .inr ⟨⟨xs, xs[i], q, by simp [hlt]⟩, Pv (i + 1), fun σ' H' p' => ⟨xs.length - (i + 1), by omega, rfl, hlt, p'⟩, fun v H' y => ?_⟩
    obtain ⟨T, x, rfl, hT, rfl, y⟩ := y
    exact hs i x σ H T (y xs q) p hT
  · have e : i = xs.length := by omega
    subst e
    exact .inl ⟨⟨xs, q, Nat.le_refl _⟩, hd σ H p⟩
end L2

set_option maxHeartbeats 4000000
/-! try, except C without a name: the suite may go on or return -/
namespace L2
open PySem PySem.Spec PyProof.Rows Fx
section
variable {X : Cx} {E : XK}
def tTry0 (E : XK) (tb : St → TS) (th : TS) : TS := fun D σ H => tb σ D σ H ∧ ∀ a cls di H', E cls di H' → H' a = none → th { nx := D.nx, rt := D.rt } σ (upd H' a (ExcO di a cls))
theorem ps_try0 {st b₀ : Stmt} {suite : List Stmt} {cx : Str} {C D : Addr} {np hpos pos : Pos} {tb : St → TS} {th : TS} {bm bm' : List Value} (hst : X.stack = X.env :: X.outer ∧ X.env.frame = some X.env.locals)
    (hg : Gl X cx) (hm : X.mg cx = some (.ref D)) (hC : ExcAt X.K C bm) (hD : ExcAt X.K D bm') (hsub : (Value.ref C :: bm).contains (.ref D) = true) (hE : ∀ cls di H', E cls di H' → cls = .ref C)
    (hb : ∀ pins σ, PSs (Xt X pins σ E) [st] (tb σ)) (hh : ∀ a, PSs (Xh X a) (b₀ :: suite) th) (hdb : (cx == ("__debug__" : Str)) = false := by decide) :
    PS X (.Try [st] [.ExceptHandler (some (.Name cx np)) none (b₀ :: suite) hpos] [] [] pos) (tTry0 E tb th) := by
  intro pins s σ H D' I h
  obtain ⟨h1, h2⟩ := h
  refine wpAny_Try_except (wpAny_mono (hb pins σ [] s σ H D' I.toXt h1) (fun f s1 q => ?_) (fun e s1 q => ?_))
  · cases f with
    | next => obtain ⟨σ', H', I', q⟩ := q; exact wpAny_execs_nil ⟨σ', H', I'.ofXt, q⟩
    | brk => obtain ⟨σ', H', I', q⟩ := q; exact ⟨σ', H', I'.ofXt, q⟩
    | cont => obtain ⟨σ', H', I', q⟩ := q; exact ⟨σ', H', I'.ofXt, q⟩
    | ret u => obtain ⟨v, σ', H', I', r, q⟩ := q; exact ⟨v, σ', H', I'.ofXt, r, q⟩
  obtain ⟨H1, s0, I0, a, T, cls, di, H', rfl, os, bare, un, nsOk, tr, na, nT, ha, hT, q⟩ := q
  obtain rfl := hE cls di H' q
  have I1 : Inv X pins σ H' s1 := I0.call' (ch := []) os un nsOk bare (fun b hb => by cases hb)
  refine note_next (base := X.base) (outer := X.outer) (by rw [I.ok.frames, hst.1]) (by rw [← hst.1]; exact I1.stack) hst.2 tr fun h' T' nT' tr' kp => ?_
  have kp' : Kp (frs X.stack) [a, T] s1.heap h' := by rw [hst.1]; exact kp
  have I2 : Inv X pins σ (upd H' a (ExcO di a (.ref C))) { s1 with heap := h' } := I0.landed os bare un nsOk kp' na nT ha hT tr'
  obtain ⟨_, _, _, _, _, _, _, _, _, _, _, _, _, _, _, lC, _, _⟩ := hC.ex
  obtain ⟨_, _, _, _, _, _, _, _, _, _, _, _, _, _, _, lD, _, _⟩ := hD.ex
  have TD := PySem.W.tail_of_in I2.kIn hD.tail
  obtain ⟨oe, vs, oT, ts, he, ⟨hc, _⟩, _⟩ := id tr'
  refine wpAny_handleBy_cons (codeAny_handlers_test (ld_glob (X := Xh X a) (I2.toXh (a := a)) hg hm ?_ hdb)) (by intro q; cases q)
  refine excMatches_base (I2.kIn _ _ lC) (I2.kIn _ _ lD) he hc (TD.hasType PySem.F.excBase_ValueError.hasBase) hsub ?_
  refine codeAny_handlers_suite ?_
  refine flight (s := { s1 with heap := h' }) tr' fun h3 tr3 same => ?_
  have kp3 : Kp (frs X.stack) [a, T] s1.heap h3 := by
    have ne : ∀ b o, s1.heap.get? b = some o → b ≠ T' := fun b o hb z => by rw [z, nT'] at hb; cases hb
    exact ⟨fun b o hb hf hx => (same b (ne b o hb)).trans (kp'.keep b o hb hf hx), fun b o hb hx => let ⟨slo, e⟩ := kp'.slot b o hb hx; ⟨slo, (same b (ne b o hb)).trans e⟩, fun b o hb => let ⟨o', e⟩ := kp'.there b o hb; ⟨o', (same b (ne b o hb)).trans e⟩⟩
  have I3 : Inv X pins σ (upd H' a (ExcO di a (.ref C))) { s1 with heap := h3 } := I0.landed os bare un nsOk kp3 na nT ha hT tr3
  refine wpAny_mono (hh a pins _ σ _ _ (I3.toXh (a := a)) (h2 a _ di H' q ha)) (fun f s5 q5 => ?_) (fun x s5 z => z.elim)
  cases f with
  | next => obtain ⟨σ', H5, I5, q6⟩ := q5; exact ⟨σ', H5, I5.ofXh I.ok, q6⟩
  | brk => obtain ⟨σ', H5, I5, z⟩ := q5; exact z.elim
  | cont => obtain ⟨σ', H5, I5, z⟩ := q5; exact z.elim
  | ret u =>
    obtain ⟨v, σ', H5, I5, r, q6⟩ := q5
    exact ⟨v, σ', H5, I5.ofXh I.ok, r, q6⟩
end
end L2

/-! texts: partition, f"{an int}.." -/
namespace L2
open PySem PySem.Spec PyProof.Rows PySem.Builtin.Str
section
variable {X : Cx}
theorem mt_part : MtR X "str.partition" (fun x xs H Q => ∃ z y, x = .str z ∧ xs = [.str y] ∧ (y.length == 0) = false ∧ z.length ≤ sizeLine ∧ ∀ l, H l = none → Q (.ref l) (upd H l (.tup [.str (Txt.partition z y).1, .str (Txt.partition z y).2.1, .str (Txt.partition z y).2.2]))) := by
  intro pins s σ H x xs v us Q I rx rs h
  obtain ⟨z, y, rfl, rfl, hy, hz, q⟩ := h
  obtain ⟨t, rfl⟩ := rx
  obtain ⟨u, rfl, t', rfl⟩ := vals1 rs
  have fin : ∀ (a b c : Tok) (k : Nat), EP X pins σ Q (.ref s.heap.objs.size) { s with heap := s.heap.push { cls := .type "tuple", data := .seq [.str (Txt.partition z y).1 a, .str (Txt.partition z y).2.1 b, .str (Txt.partition z y).2.2 c].toArray }, toks := k } := fun a b c k =>
    ⟨.ref s.heap.objs.size, upd H s.heap.objs.size (.tup [.str (Txt.partition z y).1, .str (Txt.partition z y).2.1, .str (Txt.partition z y).2.2]), I.laid (t' := k) (fun b u e => Heap.get?_push_of_some _ e) (Nat.le_refl _) ⟨(show 3 ≤ sizeLine by decide), [.str (Txt.partition z y).1 a, .str (Txt.partition z y).2.1 b, .str (Txt.partition z y).2.2 c], .cons ⟨_, rfl⟩ (.cons ⟨_, rfl⟩ (.cons ⟨_, rfl⟩ .nil)), ⟨_, Heap.get?_push_size _ rfl, rfl, _, rfl⟩⟩, rfl, q _ (I.hok.fresh (Nat.le_refl _))⟩
  refine call_meets F.slot_str_partition (typeIs_str _ _ _) F.entry_str_partition (F.args_str_partition_2 _ _) (meets_str_partition z y t t' hy hz) ?_
  have f2 := fin
  unfold Txt.partition at f2
  revert f2
  cases occurrences z y 0 z.length 1 with
  | nil => intro f2; exact f2 _ _ _ _
  | cons i r => intro f2; exact f2 _ _ _ _
def tFInt (te : TE) (z : Str) : TE := fun σ H Q => te σ H fun v H1 => ∃ i : Int, v = .int i ∧ i.natAbs.log2 < 1920 ∧ (Str.ofString (toString i)).length + z.length ≤ sizeLine ∧ Q (.str (Str.ofString (toString i) ++ z)) H1
theorem pe_fInt {e : Expr} {te : TE} {z : Str} {j} {p1 p2 p3 : Pos} (he : PE X e te) : PE X (.JoinedStr [.FormattedValue e (-1) none p1, .Constant (.str z) j p2] p3) (tFInt te z) := by
  intro pins s σ H Q I h
  have e0 : ∀ y : Str, Str.empty ++ y = y := fun y => by
    apply Str.ext'
    apply Array.toList_inj.mp
    rw [Str.cps_append, Array.toList_append]
    rfl
  refine JoinedStr_many (joinParts_cons (FormattedValue_plain (thn (he pins s σ H _ I h) fun v s1 ⟨x, H1, I1, r1, i, e1, hi, hz, q⟩ => ?_)))
  subst e1
  obtain ⟨t, rfl⟩ := r1
  have hz1 : (Str.ofString (toString i)).length ≤ sizeLine := by omega
  refine wpAny_formatField_int hi ⟨by rw [e0]; exact hz1, ?_⟩
  rw [e0]
  refine joinParts_cons (Calls.Constant_str ⟨by rw [Str.length_append]; exact hz, ?_⟩)
  exact joinParts_nil ⟨.str (Str.ofString (toString i) ++ z), H1, I1.tok _, ⟨_, rfl⟩, q⟩ (by rw [Str.length_append]; exact hz)
end
end L2

set_option maxHeartbeats 1000000
namespace K95
open PySem PySem.Spec PyProof.Rows L2 Am Pc Ba M35
open Pt hiding kit_tt
open M24
abbrev Prt := Sum Mm (Nat × Nat × Nat)
def PrtA (H : Hp) (p : Addr) : Prt → Prop
  | .inl m => H p = some (mT m)
  | .inr (q, f, s) => ∃ r, H p = some (.tup [.str "look", .ref r]) ∧ H r = some (M3 q f s)
def PrtV (H : Hp) (v : V) : Option Prt → Prop
  | none => v = .non
  | some x => ∃ p, v = .ref p ∧ PrtA H p x
theorem PrtA.same {H H' : Hp} {p : Addr} {x : Prt} (h : PrtA H p x) (s : Same H H') : PrtA H' p x := by
  cases x with
  | inl m => exact s _ _ h
  | inr m => obtain ⟨q, f, g⟩ := m; obtain ⟨r, a, b⟩ := h; exact ⟨r, s _ _ a, s _ _ b⟩
theorem PrtA.upd {H : Hp} {p l : Addr} {xs ys : List V} {x : Prt} (h : PrtA H p x) (hl : H l = some (.lst xs)) : PrtA (upd H l (.lst ys)) p x := by
  cases x with
  | inl m =>
    have h : H p = some (mT m) := h
    show L2.upd H l _ p = _
    rw [upd_ne (ne_of h hl (by intro z; cases z))]; exact h
  | inr m =>
    obtain ⟨q, f, g⟩ := m
    obtain ⟨r, a, b⟩ := h
    refine ⟨r, ?_, ?_⟩
    · rw [upd_ne (ne_of a hl (by intro z; cases z))]; exact a
    · rw [upd_ne (ne_of b hl (by intro z; cases z))]; exact b
def isLk : Prt → Bool
  | .inl _ => false
  | .inr _ => true
def lookOf (c : Nat) (z : Str) : Option (Nat × Nat × Nat) := match due z with
  | some (q, f, s, n) => if n = c then some (q, f, s) else none
  | none => none
noncomputable def ptW (c : Nat) (ws : List Str) : Option Prt :=
  if ws.length = 2 ∧ ws[0]? = some (Str.ofString "look") then (ws[1]?.bind (lookOf c)).map .inr else (mvOf c ws).map .inl
noncomputable def ptOf (c : Nat) (z : Str) : Option Prt := ptW c (wds z)
noncomputable def plOf (c : Nat) (ps : List Str) : List Prt := ps.filterMap (ptOf c)
noncomputable def lks (c : Nat) (ps : List Str) : Nat := ((plOf c ps).filter isLk).length
noncomputable def bd (c : Nat) (ps : List Str) (i : Nat) : Bool := (ps[i]?.bind (ptOf c)).isNone || decide (6 < lks c (ps.take (i + 1)))
noncomputable def badAt (c : Nat) (ps : List Str) : Option Nat := (List.range ps.length).find? (bd c ps)
theorem bad_some {c : Nat} {ps : List Str} {i : Nat} (hi : i < ps.length) (h : bd c ps i = true) (all : ∀ j, j < i → bd c ps j = false) : badAt c ps = some i := by
  unfold badAt
  rw [List.find?_range_eq_some]
  exact ⟨h, List.mem_range.mpr hi, fun j hj => by rw [all j hj]; rfl⟩
theorem bad_none {c : Nat} {ps : List Str} (all : ∀ j, j < ps.length → bd c ps j = false) : badAt c ps = none := by
  unfold badAt
  rw [List.find?_range_eq_none]
  exact fun j hj => by rw [all j hj]; rfl
theorem pl_snoc {c : Nat} {ps : List Str} {i : Nat} {p : Str} {m : Prt} (h : ps[i]? = some p) (e : ptOf c p = some m) : plOf c (ps.take (i + 1)) = plOf c (ps.take i) ++ [m] := by
  unfold plOf
  rw [List.take_add_one, h, Option.toList_some, List.filterMap_append]
  simp [e]
theorem lks_snoc {c : Nat} {ps : List Str} {i : Nat} {p : Str} {m : Prt} (h : ps[i]? = some p) (e : ptOf c p = some m) : lks c (ps.take (i + 1)) = lks c (ps.take i) + (if isLk m = true then 1 else 0) := by
  unfold lks
  rw [pl_snoc h e, List.filter_append, List.length_append]
  cases e2 : isLk m <;> simp [e2]
theorem pl_le (c : Nat) (ps : List Str) : (plOf c ps).length ≤ ps.length := List.length_filterMap_le _ _
abbrev Prts (H : Hp) (rp : List Addr) (ms : List Prt) : Prop := Paired (PrtA H) rp ms
theorem Prts.same {H H' : Hp} {rp : List Addr} {ms : List Prt} (h : Prts H rp ms) (s : Same H H') : Prts H' rp ms := Paired.imp' (fun _ _ c => PrtA.same c s) h
theorem Prts.upd {H : Hp} {l : Addr} {xs ys : List V} {rp : List Addr} {ms : List Prt} (h : Prts H rp ms) (hl : H l = some (.lst xs)) : Prts (upd H l (.lst ys)) rp ms := Paired.imp' (fun _ _ c => PrtA.upd c hl) h
theorem parts_len {z : Str} (fz : Fine z) : (partsOf z).length ≤ 30002 := by
  unfold partsOf
  split
  · exact Nat.zero_le _
  · exact Nat.le_trans split_len (Nat.add_le_add_right fz 2)
theorem parts_fine {z p : Str} (fz : Fine z) (h : p ∈ partsOf z) : Fine p := by
  unfold partsOf at h
  split at h
  · cases h
  · exact split_fine fz h
theorem mv_fits {c : Nat} {ws : List Str} {m : Mm} (h : mvOf c ws = some m) : Fits m.1 m.2 c := by
  cases ws with
  | nil => cases h
  | cons nm r =>
    by_cases q : (∀ w ∈ r, (fig w).isSome = true) ∧ Fits nm (r.map val) c
    · rw [mv_some q.1 q.2] at h
      cases h
      exact q.2
    · rw [mv_none q] at h
      cases h
theorem pt_fits {c : Nat} {z : Str} {m : Mm} (h : ptOf c z = some (.inl m)) : Fits m.1 m.2 c := by
  unfold ptOf ptW at h
  split at h
  · cases e : (wds z)[1]?.bind (lookOf c) with
    | none => rw [e] at h; cases h
    | some x => rw [e] at h; cases h
  · cases e : mvOf c (wds z) with
    | none => rw [e] at h; cases h
    | some x =>
      rw [e] at h
      injection h with h
      injection h with h
      subst h
      exact mv_fits e
theorem no_look {nm : Str} {ns : List Int} {c : Nat} (f : Fits nm ns c) : nm ≠ Str.ofString "look" := by
  rintro rfl
  have := f.form.num
  rw [show L2.numAt NB (Str.ofString "look") = none by decide +kernel] at this
  cases this
theorem at_0 (x : V) (l : List V) : atI (x :: l) 0 = some x := by
  unfold atI ixN
  rw [if_pos (by omega), if_pos (by simp only [List.length_cons]; omega)]
  rfl
def spRLook : Sp := fun vs H Q _ => ∃ z c, vs = [.str z, .int ((c : Nat) : Int)] ∧ Fine z ∧ ∀ (v : V) (H' : Hp), Same H H' → PrtV H' v ((lookOf c z).map .inr) → Q v H'
def spRPart : Sp := fun vs H Q _ => ∃ z c, vs = [.str z, .int ((c : Nat) : Int)] ∧ Fine z ∧ ∀ (v : V) (H' : Hp), Same H H' → PrtV H' v (ptOf c z) → Q v H'
def spRParts (C : Addr) : Sp := fun vs H Q E => ∃ z c, vs = [.str z, .int ((c : Nat) : Int)] ∧ Fine z ∧
  (∀ (l : Addr) (rp : List Addr) (H' : Hp), badAt c (partsOf z) = none → Same H H' → H' l = some (.lst (rp.map V.ref)) → Prts H' rp (plOf c (partsOf z)) → Q (.ref l) H') ∧
  (∀ (i : Nat) (H' : Hp) (dx : Addr), badAt c (partsOf z) = some i → Same H H' → H' dx = some (.xd [("place", .int ((i + 1 : Nat) : Int))]) → E (.ref C) (some dx) H')
abbrev FIGS : List Str := ["1", "2", "3", "4", "5", "6"]
def figC (w : Str) : Option Nat := match fig w with
  | some n => if 1 ≤ n ∧ n ≤ 6 then some n else none
  | none => none
def headOf (z : Str) : Option Nat := if (Txt.partition z ":").2.1 = Str.ofString "" then none else match wds (Txt.partition z ":").1 with
  | [w] => figC w
  | _ => none
theorem figC_some {w : Str} {n : Nat} (h : figC w = some n) : fig w = some n ∧ 1 ≤ n ∧ n ≤ 6 := by
  unfold figC at h
  cases e : fig w with
  | none => rw [e] at h; cases h
  | some m =>
    rw [e] at h
    dsimp only at h
    split at h
    · cases h; exact ⟨rfl, by assumption⟩
    · cases h
theorem fig_of {w : Str} {n : Nat} (h : fig w = some n) : w = ⟨#[n + 48]⟩ := by
  unfold fig at h
  split at h
  · rename_i c e
    split at h
    · rename_i hc
      cases h
      refine Str.ext' (Array.toList_inj.mp ?_)
      rw [e]
      show [c] = [c - 48 + 48]
      rw [Nat.sub_add_cancel hc.1]
    · cases h
  · cases h
theorem in_figs (w : Str) : inV (.str w) (FIGS.map V.str) = (figC w).isSome := by
  have g : ∀ a : Str, a ∈ FIGS → (figC a).isSome = true := by decide +kernel
  rw [Bool.eq_iff_iff]
  constructor
  · intro h
    obtain ⟨y, hy, e⟩ := List.any_eq_true.mp h
    obtain ⟨a, ha, rfl⟩ := List.mem_map.mp hy
    have e : (a == w) = true := e
    rw [← eq_of_beq e]
    exact g a ha
  · intro h
    obtain ⟨n, hn⟩ := Option.isSome_iff_exists.mp h
    obtain ⟨hf, h1, h6⟩ := figC_some hn
    have := fig_of hf
    subst this
    have : n = 1 ∨ n = 2 ∨ n = 3 ∨ n = 4 ∨ n = 5 ∨ n = 6 := by omega
    rcases this with rfl | rfl | rfl | rfl | rfl | rfl <;> decide +kernel
noncomputable def playOf (z : Str) : Except Nat (Nat × List Prt) := match headOf z with
  | none => .error 0
  | some c => match badAt c (partsOf (Txt.partition z ":").2.2) with
    | some i => .error (i + 1)
    | none => .ok (c, plOf c (partsOf (Txt.partition z ":").2.2))
def Play (H : Hp) (v : V) (c : Nat) (ms : List Prt) : Prop := ∃ p l rp, v = .ref p ∧ H p = some (.tup [.int c, .ref l]) ∧ H l = some (.lst (rp.map V.ref)) ∧ Prts H rp ms
def spRPlay (K : PySem.W.Frag) (C : Addr) : Sp := fun vs H Q E => ∃ v : V, vs = [v] ∧
  ((∃ t, TyOf K H v t ∧ PySem.W.kitOne K t (.type "str") = some false ∧ ∀ (H' : Hp) (dx : Addr), Same H H' → H' dx = some (.xd [("place", .int 0)]) → E (.ref C) (some dx) H') ∨
   ∃ z, v = .str z ∧ Fine z ∧ (∀ (v' : V) (c : Nat) (ms : List Prt) (H' : Hp), playOf z = .ok (c, ms) → Same H H' → Play H' v' c ms → Q v' H') ∧
     (∀ (i : Nat) (H' : Hp) (dx : Addr), playOf z = .error i → Same H H' → H' dx = some (.xd [("place", .int ((i : Nat) : Int))]) → E (.ref C) (some dx) H'))
section
variable {P : Program} {w : World} {K : PySem.W.Frag} {mg : Str → Option Value} {base : Heap} {k : Nat} {h : Heap} {C fi : Addr} {bm : List Value} {qual : Str}
theorem sc_rlook : FnScope ["text", "cells", "told"] ["text", "cells"] (defScope (top 34)) := ⟨rfl, rfl, rfl, by decide +kernel, rfl, by decide +kernel, by decide +kernel⟩
theorem ok_rlook (mK : mg "NoMark" = some (.ref C)) (xK : ExcAt K C bm) (F : FunAt K "read_look" (top 34) .none) (X : K.In h) (G : h.Ns mainGlobals mg) (B : Bs mg) (x_mark : CalX P w K mg base k "read_mark" ["text"] (spRMark K C)) : Cal P w K mg base (k + 1) "read_look" ["text", "cells"] spRLook := by
  have nd := sc_rlook.nd
  refine F.cal X G sc_rlook (bnd2 fun _ _ _ _ _ _ _ _ => rfl) (fun vs H Q E h => ?_) (fun f cdv A outer s H vs Q E hr h => ?_)
  · obtain ⟨z, c, rfl, _⟩ := h; rfl
  obtain ⟨z, c, rfl, fz, kq⟩ := h
  refine ⟨_, (@pss_cons _ _ _ _ _ (ps_try0 (E := fun cls _ H1 => (cls = .ref C ∧ due z = none) ∧ Same H H1) ⟨rfl, rfl⟩ rfl mK xK xK (by simp) (fun cls di H1 e => e.1.1) (fun pins σ => @pss_one _ _ _ (@ps_set _ _ 2 _ _ _ _ nd rfl (Or.inl rfl) (pe_calT (σ0 := σ) x_mark hr rfl (pa_cons (pv 0) pa_nil)) rfl (.inl rfl))) (fun a => @pss_one _ _ _ (ps_ret pe_non)))
    (@pss_one _ _ _ (ps_ret (pe_ifExp (pt_cmpR op_eq (pe_ix ix_tup (pv 2) pe_int (fun _ _ => rfl)) (pv 1) (nomark _)) (@pe_tup _ _ _ _ _ (pa_cons pe_str (pa_cons (pe_ix ix_tup (pv 2) pe_int (fun _ _ => rfl)) pa_nil))) pe_non)))), ?_⟩
  try dsimp only [cxK]
  have no : due z = none → lookOf c z = none := fun e => by unfold lookOf; rw [e]
  refine ⟨⟨_, rfl, rfl, _, rfl, .inr ⟨z, rfl, fz, ?_⟩⟩, fun a cls di H1 e ha => ?_⟩
  · unfold ReadQ
    cases ed : due z with
    | none => exact fun H' S => ⟨⟨rfl, rfl⟩, S⟩
    | some r =>
      obtain ⟨q, f, g, n⟩ := r
      intro p r H1 S1 hp hr'
      have M : SqT K H1 p [.ref r, .int n] := SqT.of hp
      refine ⟨_, rfl, p, _, _, _, rfl, rfl, M, rfl, _, rfl, rfl, _, rfl, ?_⟩
      have lk : lookOf c z = if n = c then some (q, f, g) else none := by unfold lookOf; rw [ed]
      refine eqI (fun e => ?_) (fun e => ?_)
      · have e' : n = c := by omega
        rw [lk, if_pos e'] at kq
        refine ⟨_, rfl, p, _, _, _, rfl, rfl, M, rfl, (show 2 ≤ sizeLine by decide), fun t ht => kq (.ref t) _ (S1.trans (same_new ht _)) ⟨t, rfl, r, upd_same, same_new ht _ _ _ hr'⟩⟩
      · have e' : n ≠ c := fun e2 => e (by rw [e2])
        rw [lk, if_neg e'] at kq
        exact kq .non _ S1 rfl
  · exact kq .non _ (e.2.trans (same_new ha _)) (by rw [no e.1.2]; rfl)
theorem sc_rpart : FnScope ["written", "cells", "words"] ["written", "cells"] (defScope (top 33)) := ⟨rfl, rfl, rfl, by decide +kernel, rfl, by decide +kernel, by decide +kernel⟩
theorem ok_rpart (F : FunAt K "read_part" (top 33) .none) (X : K.In h) (G : h.Ns mainGlobals mg) (B : Bs mg) (c_words_of : Cal P w K mg base k "words_of" ["part"] spWords) (c_read_look : Cal P w K mg base k "read_look" ["text", "cells"] spRLook) (c_read_move : Cal P w K mg base k "read_move" ["part", "cells"] spReadMv) : Cal P w K mg base (k + 1) "read_part" ["written", "cells"] spRPart := by
  have nd := sc_rpart.nd
  refine F.cal X G sc_rpart (bnd2 fun _ _ _ _ _ _ _ _ => rfl) (fun vs H Q E h => ?_) (fun f cdv A outer s H vs Q E hr h => ?_)
  · obtain ⟨z, c, rfl, _⟩ := h; rfl
  obtain ⟨z, c, rfl, fz, kq⟩ := h
  refine ⟨_, (@pss_cons _ _ _ _ _ (@ps_set _ _ 2 _ _ _ _ nd rfl (Or.inl rfl) (pe_cal c_words_of hr rfl (pa_cons (pv 0) pa_nil)) rfl (.inl rfl))
    (@pss_cons _ _ _ _ _ (ps_if (PW.pt (pw_and (pt_cmpR op_eq (pe_callB call_len_seq rfl B.len PySem.boot_len (pa_cons (pv 2) pa_nil)) pe_int (nomark _)) (pw_and1 (pt_cmpR op_eq (pe_ix ix_list (pv 2) pe_int (fun _ _ => rfl)) pe_str (nomark _)))))
      (@pss_one _ _ _ (ps_ret (pe_cal c_read_look hr rfl (pa_cons (pe_ix ix_list (pv 2) pe_int (fun _ _ => rfl)) (pa_cons (pv 1) pa_nil)))))
      pss_nil)
    (@pss_one _ _ _ (ps_ret (pe_cal c_read_move hr rfl (pa_cons (pv 0) (pa_cons (pv 1) pa_nil))))))), ?_⟩
  try dsimp only [cxK]
  refine ⟨_, rfl, z, rfl, fz, fun l H1 _ S1 hl => ?_⟩
  have SL : SqL K H1 l ((wds z).map V.str) := SqL.of hl
  have mvc : ¬ ((wds z).length = 2 ∧ (wds z)[0]? = some (Str.ofString "look")) → spReadMv [V.str z, V.int ((c : Nat) : Int)] H1 Q E0 := fun no => by
    refine ⟨z, c, rfl, fz, fun v H2 S2 mv => kq v H2 (S1.trans S2) ?_⟩
    unfold ptOf ptW
    rw [if_neg no]
    cases em : mvOf c (wds z) with
    | none => rw [em] at mv; exact mv
    | some m => rw [em] at mv; obtain ⟨nm, ns⟩ := m; exact mv
  refine ⟨_, rfl, l, _, rfl, .inl SL, rfl, _, rfl, eqI (fun e => ?_) (fun e => ?_)⟩
  · have e2 : (wds z).length = 2 := by rw [List.length_map] at e; omega
    obtain ⟨a, b, ew⟩ : ∃ a b, wds z = [a, b] := by
      match e3 : wds z, e2 with
      | [a, b], _ => exact ⟨a, b, rfl⟩
    rw [ew] at SL
    refine ⟨_, rfl, l, _, _, _, rfl, rfl, SL, rfl, rfl, _, rfl, decI (fun ea => ?_) (fun ea => ?_)⟩
    · have ea : a = Str.ofString "look" := V.str.inj ea
      refine ⟨_, rfl, l, _, _, _, rfl, rfl, SL, rfl, _, rfl, b, c, rfl, words_fine fz (by rw [ew]; simp), fun v H2 S2 pv => kq v H2 (S1.trans S2) ?_⟩
      unfold ptOf ptW
      rw [ew, if_pos ⟨rfl, by rw [ea]; rfl⟩]
      exact pv
    · exact ⟨_, rfl, _, rfl, mvc fun ⟨_, q⟩ => ea (by rw [ew] at q; cases q; rfl)⟩
  · exact ⟨_, rfl, _, rfl, mvc fun ⟨q, _⟩ => e (by rw [List.length_map, q]; rfl)⟩
theorem sc_rparts : FnScope ["text", "cells", "parts", "looks", "place", "written", "part"] ["text", "cells"] (defScope (top 32)) := ⟨rfl, rfl, rfl, by decide +kernel, rfl, by decide +kernel, by decide +kernel⟩
theorem okx_rparts {tL : Tok} (gL : mg "MOST_LOOKS" = some (.int 6 tL)) (mI : mg "NoText" = some (.ref C)) (F : FunAt K "read_parts" (top 32) .none) (X : K.In h) (G : h.Ns mainGlobals mg) (B : Bs mg) (c_init : InitCal P w K mg base k C bm "place") (c_parts_of : Cal P w K mg base (k + 1) "parts_of" ["text"] spParts) (c_read_part : Cal P w K mg base (k + 1) "read_part" ["written", "cells"] spRPart) : CalX P w K mg base (k + 2) "read_parts" ["text", "cells"] (spRParts C) := by
  have nd := sc_rparts.nd
  refine F.calX X G sc_rparts (bnd2 fun _ _ _ _ _ _ _ _ => rfl) (fun vs H Q E h => ?_) (fun f cdv A outer s H vs Q E hr h => ?_)
  · obtain ⟨z, c, rfl, _⟩ := h; rfl
  obtain ⟨z, c, rfl, fz, kq, kx⟩ := h
  refine ⟨_, (@pss_cons _ _ _ _ _ (@ps_set _ _ 2 _ _ _ _ nd rfl (Or.inl rfl) (@pe_lst _ _ _ _ pa_nil) rfl (.inl rfl))
    (@pss_cons _ _ _ _ _ (@ps_set _ _ 3 _ _ _ _ nd rfl (Or.inl rfl) pe_int rfl (.inl rfl))
    (@pss_cons _ _ _ _ _ (ps_for PassesOwn.leaving rfl (pi_enum1 rfl B.enumerate (pa_cons (pe_cal c_parts_of hr rfl (pa_cons (pv 0) pa_nil)) pa_nil)) (@pg_tup _ _ _ _ _ _ rfl (@pgs_cons _ _ _ _ _ (@pg_name _ _ 4 _ nd rfl (Or.inl rfl) (by first | exact .inl rfl | exact .inr rfl)) (@pgs_cons _ _ _ _ _ (@pg_name _ _ 5 _ nd rfl (Or.inl rfl) (by first | exact .inl rfl | exact .inr rfl)) pgs_nil rfl) rfl) rfl rfl)
      (@pss_cons _ _ _ _ _ (@ps_set _ _ 6 _ _ _ _ nd rfl (Or.inl rfl) (pe_cal c_read_part hr rfl (pa_cons (pv 5) (pa_cons (pv 1) pa_nil))) rfl (.inl rfl))
      (@pss_cons _ _ _ _ _ (ps_if (pt_cmpR op_isN (pv 6) pe_non (nomark _))
        (@pss_one _ _ _ (ps_raiseI c_init hr flies_of rfl rfl mI (pa_cons (pv 4) pa_nil)))
        pss_nil)
      (@pss_cut _ _ _ _ _ (ps_if (pt_cmpR op_eq (pe_ix ix_tup (pv 6) pe_int (fun _ _ => rfl)) pe_str (nomark _))
        (@pss_one _ _ _ (@ps_set _ _ 3 _ _ _ _ nd rfl (Or.inl rfl) (pe_op op_add (pv 3) pe_int) rfl (.inl rfl)))
        pss_nil)
      (@pss_cons _ _ _ _ _ (ps_if (pt_cmpR op_gt (pv 3) (pe_glob (v := .int 6) rfl gL ⟨_, rfl⟩) (nomark _))
        (@pss_one _ _ _ (ps_raiseI c_init hr flies_of rfl rfl mI (pa_cons (pv 4) pa_nil)))
        pss_nil)
      (@pss_one _ _ _ (ps_expr (pe_bm PySem.F.plainAttrs_list PySem.F.slot_list_append PySem.F.type_list_append mt_append (pv 2) (pa_cons (pv 6) pa_nil)))))))))
    (@pss_one _ _ _ (ps_ret (pv 2)))))), ?_⟩
  try dsimp only [cxK]
  refine ⟨Nat.zero_le _, fun lr hlr => ?_⟩
  have s0 := same_new hlr (.lst [])
  have e0 : upd H lr (.lst []) lr = some (.lst []) := upd_same
  generalize upd H lr (.lst []) = H0 at s0 e0 ⊢
  refine ⟨_, rfl, z, rfl, fz, fun l H1 fl S1 hl => ?_⟩
  have SL : SqL K H1 l ((partsOf z).map V.str) := SqL.of hl
  have pl := parts_len fz
  have pf := fun p => parts_fine (p := p) fz
  have ne : l ≠ lr := fun e => by rw [e, e0] at fl; cases fl
  have e1 := S1 _ _ e0
  have S01 := s0.trans S1
  generalize partsOf z = ps at *
  refine ⟨l, _, rfl, SL, for_enum1 (K := K) (a := l) (xs := ps.map V.str) (fun i σ H' => Same H H' ∧ H' l = some (.lst (ps.map V.str)) ∧ (∀ j, j < i → bd c ps j = false) ∧ ∃ (rp : List Addr) (v2 v3 v4 : Option V), H' lr = some (.lst (rp.map V.ref)) ∧ Prts H' rp (plOf c (ps.take i)) ∧ σ = [some (.str z), some (.int c), some (.ref lr), some (.int (lks c (ps.take i))), v2, v3, v4])
    ⟨S01, hl, (fun j hj => absurd hj (Nat.not_lt_zero _)), [], none, none, none, e1, (by rw [List.take_zero]; exact .nil), (by rw [List.take_zero]; rfl)⟩ (fun i σ H' _ e => SqL.of e.2.1) ?_ ?_⟩
  · rintro i x σ H2 T hx ⟨S2, l2, al, rp, v2, v3, v4, a2, R2, rfl⟩ hT
    rw [List.getElem?_map] at hx
    obtain ⟨p, hp, rfl⟩ := Option.map_eq_some_iff.mp hx
    have ip : i < ps.length := (List.getElem?_eq_some_iff.mp hp).1
    have sT := same_new hT (.tup [.int ((i + 1 : Nat) : Int), .str p])
    refine ⟨T, _, rfl, SqT.of upd_same, rfl, _, _, rfl, _, _, rfl, rfl, ?_⟩
    refine ⟨_, rfl, _, rfl, p, c, rfl, pf p (List.mem_of_getElem? hp), fun v H3 S3 mv => ?_⟩
    have S23 := sT.trans S3
    cases em : ptOf c p with
    | none =>
      rw [em] at mv
      have mv : v = .non := mv
      subst mv
      have hb : bd c ps i = true := by unfold bd; rw [hp]; show ((ptOf c p).isNone || _) = true; rw [em]; rfl
      exact ⟨_, rfl, rfl, _, rfl, decI (fun _ => ⟨_, rfl, _, rfl, fun dx hd => kx i _ dx (bad_some ip hb al) (S2.trans (S23.trans (same_new hd _))) upd_same⟩) (fun q => absurd rfl q)⟩
    | some m =>
      rw [em] at mv
      obtain ⟨q, rfl, hq⟩ : ∃ q, v = .ref q ∧ PrtA H3 q m := mv
      have lk := lks_snoc hp em
      have pn : (ps[i]?.bind (ptOf c)).isNone = false := by rw [hp]; show (ptOf c p).isNone = false; rw [em]; rfl
      refine ⟨_, rfl, rfl, _, rfl, decI (fun q => by cases q) (fun _ => ?_)⟩
      have a3 := S23 _ _ a2
      have R3 := R2.same S23
      have rl : rp.length ≤ 30002 := by
        have := Paired.length R2
        have h2 := pl_le c (ps.take i)
        rw [List.length_take] at h2
        omega
      refine ⟨fun σ' H' => H' = H3 ∧ σ' = [some (.str z), some (.int c), some (.ref lr), some (.int (lks c (ps.take (i + 1)))), some (.int ((i + 1 : Nat) : Int)), some (.str p), some (.ref q)], ?_, ?_⟩
      · rw [lk]
        cases m with
        | inl m =>
          have nl := no_look (pt_fits em)
          have hq : H3 q = some (mT m) := hq
          exact ⟨_, rfl, q, _, _, _, rfl, rfl, SqT.of hq, at_0 _ _, rfl, _, rfl, decI (fun e => absurd (V.str.inj e) nl) (fun _ => ⟨rfl, rfl⟩)⟩
        | inr m =>
          obtain ⟨x1, x2, x3⟩ := m
          obtain ⟨r, hq, _⟩ := hq
          exact ⟨_, rfl, q, _, _, _, rfl, rfl, SqT.of hq, rfl, rfl, _, rfl, decI (fun _ => ⟨_, rfl, _, _, rfl, rfl, rfl, rfl⟩) (fun e => absurd rfl e)⟩
      rintro σ' H' ⟨rfl, rfl⟩
      refine ⟨_, rfl, _, _, rfl, rfl, _, rfl, decI (fun hb => ?_) (fun hb => ?_)⟩
      · have hb : bd c ps i = true := by unfold bd; rw [pn, Bool.false_or, decide_eq_true_iff]; omega
        exact ⟨_, rfl, _, rfl, fun dx hd => kx i _ dx (bad_some ip hb al) (S2.trans (S23.trans (same_new hd _))) upd_same⟩
      have hb : bd c ps i = false := by unfold bd; rw [pn, Bool.false_or, decide_eq_false_iff_not]; omega
      refine ⟨_, rfl, .inl ⟨rfl, _, SqL.of a3⟩, _, rfl, lr, _, _, rfl, rfl, a3, (by rw [List.length_map]; exact Nat.lt_of_lt_of_le (show rp.length < 40000 by omega) (by decide)), ?_⟩
      refine ⟨same_upd (S2.trans S23) hlr, (by rw [upd_ne ne]; exact S23 _ _ l2), fun j hj => ?_, rp ++ [q], _, _, _, (by rw [upd_same, List.map_append]; rfl), ?_, rfl⟩
      · by_cases e : j = i
        · rw [e]; exact hb
        · exact al j (by omega)
      · rw [pl_snoc hp em]
        exact Prts.upd (Paired.snoc R3 hq) a3
  · rintro σ H2 ⟨S2, l2, al, rp, v2, v3, v4, a2, R2, rfl⟩
    rw [List.length_map] at al R2
    rw [List.take_length] at R2
    exact ⟨_, rfl, kq lr rp H2 (bad_none al) S2 a2 R2⟩
theorem sc_rplay : FnScope ["text", "sides", "figures", "cells"] ["text"] (defScope (top 31)) := ⟨rfl, rfl, rfl, by decide +kernel, rfl, by decide +kernel, by decide +kernel⟩
theorem okx_rplay {aF : Addr} (gA : mg "FIGURES_OF_CELLS" = some (.ref aF)) (hF : ∀ H, SqT K H aF (FIGS.map V.str)) (mI : mg "NoText" = some (.ref C)) (F : FunAt K "read_play" (top 31) .none) (X : K.In h) (G : h.Ns mainGlobals mg) (B : Bs mg) (c_init : InitCal P w K mg base k C bm "place") (c_words_of : Cal P w K mg base (k + 1) "words_of" ["part"] spWords) (x_parts : CalX P w K mg base (k + 1) "read_parts" ["text", "cells"] (spRParts C)) : CalX P w K mg base (k + 2) "read_play" ["text"] (spRPlay K C) := by
  have nd := sc_rplay.nd
  refine F.calX X G sc_rplay (bnd1 fun _ _ _ _ _ _ _ => rfl) (fun vs H Q E h => ?_) (fun f cdv A outer s H vs Q E hr h => ?_)
  · obtain ⟨v, rfl, _⟩ := h; rfl
  obtain ⟨v, rfl, hv⟩ := h
  refine ⟨_, (@pss_cons _ _ _ _ _ (ps_if (pt_not (pt_val (pe_callB call_isinst rfl B.isinstance boot_isinstance (pa_cons (pv 0) (pa_cons (pe_bltn (v := .ty "str") rfl B.str boot_str rfl) pa_nil)))))
      (@pss_one _ _ _ (ps_raiseI c_init hr flies_of rfl rfl mI (pa_cons pe_int pa_nil)))
      pss_nil)
    (@pss_cons _ _ _ _ _ (@ps_set _ _ 1 _ _ _ _ nd rfl (Or.inl rfl) (pe_bm PySem.F.plainAttrs_str PySem.F.slot_str_partition PySem.F.type_str_partition mt_part (pv 0) (pa_cons pe_str pa_nil)) rfl (.inl rfl))
    (@pss_cons _ _ _ _ _ (@ps_set _ _ 2 _ _ _ _ nd rfl (Or.inl rfl) (pe_cal c_words_of hr rfl (pa_cons (pe_ix ix_tup (pv 1) pe_int (fun _ _ => rfl)) pa_nil)) rfl (.inl rfl))
    (@pss_cons _ _ _ _ _ (ps_if (PW.pt (pw_or (pt_cmpR op_eq (pe_ix ix_tup (pv 1) pe_int (fun _ _ => rfl)) pe_str (nomark _)) (pw_or (pt_cmpR op_ne (pe_callB call_len_seq rfl B.len PySem.boot_len (pa_cons (pv 2) pa_nil)) pe_int (nomark _)) (pw_or1 (pt_cmpR op_notIn_seq (pe_ix ix_list (pv 2) pe_int (fun _ _ => rfl)) (pe_glob (v := .ref aF) rfl gA rfl) rfl)))))
      (@pss_one _ _ _ (ps_raiseI c_init hr flies_of rfl rfl mI (pa_cons pe_int pa_nil)))
      pss_nil)
    (@pss_cons _ _ _ _ _ (@ps_set _ _ 3 _ _ _ _ nd rfl (Or.inl rfl) (pe_callTy call_int_txt rfl B.int boot_int (pa_cons (pe_ix ix_list (pv 2) pe_int (fun _ _ => rfl)) pa_nil)) rfl (.inl rfl))
    (@pss_one _ _ _ (ps_ret (@pe_tup _ _ _ _ _ (pa_cons (pv 3) (pa_cons (pe_calX (E := E) x_parts (flies_of.passes fun _ _ _ z => z) hr rfl (pa_cons (pe_ix ix_tup (pv 1) pe_int (fun _ _ => rfl)) (pa_cons (pv 3) pa_nil))) pa_nil)))))))))), ?_⟩
  try dsimp only [cxK]
  rcases hv with ⟨t, ty, kt, kx⟩ | ⟨z, rfl, fz, kq, kx⟩
  · exact ⟨_, rfl, _, _, _, false, rfl, ty, kt, _, rfl, iteT ⟨_, rfl, fun dx hd => kx _ dx (same_new hd _) upd_same⟩⟩
  refine ⟨_, rfl, _, _, _, true, rfl, TyOf.str z, kit_ss K, _, rfl, iteF ?_⟩
  have fp := PyProof.Rows.fact_partition z (Str.ofString ":")
  have f1 : Fine (Txt.partition z ":").1 := Nat.le_trans fp.1 fz
  have f3 : Fine (Txt.partition z ":").2.2 := Nat.le_trans fp.2.2 fz
  refine ⟨_, rfl, rfl, z, _, rfl, rfl, by decide, fine_sz fz, fun t ht => ?_⟩
  have S1 := same_new ht (.tup [.str (Txt.partition z ":").1, .str (Txt.partition z ":").2.1, .str (Txt.partition z ":").2.2])
  have M : SqT K (upd H t (.tup [.str (Txt.partition z ":").1, .str (Txt.partition z ":").2.1, .str (Txt.partition z ":").2.2])) t [.str (Txt.partition z ":").1, .str (Txt.partition z ":").2.1, .str (Txt.partition z ":").2.2] := SqT.of upd_same
  have eT : upd H t (.tup [.str (Txt.partition z ":").1, .str (Txt.partition z ":").2.1, .str (Txt.partition z ":").2.2]) t = _ := upd_same
  generalize upd H t (.tup [.str (Txt.partition z ":").1, .str (Txt.partition z ":").2.1, .str (Txt.partition z ":").2.2]) = H1 at S1 M eT ⊢
  refine ⟨_, rfl, t, _, _, _, rfl, rfl, M, rfl, _, rfl, f1, fun l H2 _ S2 hl => ?_⟩
  have M2 : SqT K H2 t [.str (Txt.partition z ":").1, .str (Txt.partition z ":").2.1, .str (Txt.partition z ":").2.2] := SqT.of (S2 _ _ eT)
  have SL : SqL K H2 l ((wds (Txt.partition z ":").1).map V.str) := SqL.of hl
  have S02 := S1.trans S2
  have no : headOf z = none → playOf z = .error 0 := fun e => by unfold playOf; rw [e]
  refine ⟨_, rfl, t, _, _, _, rfl, rfl, M2, rfl, rfl, _, rfl, decI (fun e => ?_) (fun e => ?_)⟩
  · exact ⟨_, rfl, fun dx hd => kx 0 _ dx (no (by unfold headOf; rw [if_pos (V.str.inj e)])) (S02.trans (same_new hd _)) upd_same⟩
  have nc : (Txt.partition z ":").2.1 ≠ Str.ofString "" := fun q => e (congrArg V.str q)
  refine ⟨_, rfl, l, _, rfl, .inl SL, rfl, _, rfl, neI (fun e1 => ?_) (fun e1 => ?_)⟩
  · refine ⟨_, rfl, fun dx hd => kx 0 _ dx (no ?_) (S02.trans (same_new hd _)) upd_same⟩
    unfold headOf
    rw [if_neg nc]
    rw [List.length_map] at e1
    split
    · rename_i w hw; rw [hw] at e1; exact absurd rfl e1
    · rfl
  obtain ⟨w1, ew⟩ : ∃ w1, wds (Txt.partition z ":").1 = [w1] := by
    rw [List.length_map] at e1
    have e1 : (wds (Txt.partition z ":").1).length = 1 := by omega
    match e3 : wds (Txt.partition z ":").1, e1 with
    | [a], _ => exact ⟨a, rfl⟩
  have hd0 : headOf z = figC w1 := by unfold headOf; rw [if_neg nc, ew]
  rw [ew] at SL
  refine ⟨_, rfl, l, _, _, _, rfl, rfl, SL, rfl, aF, FIGS.map V.str, rfl, .inr (hF _), rfl, rfl, _, rfl, nblI (fun e2 => ?_) (fun e2 => ?_)⟩
  · refine ⟨_, rfl, fun dx hd => kx 0 _ dx (no ?_) (S02.trans (same_new hd _)) upd_same⟩
    rw [hd0]
    exact Option.isNone_iff_eq_none.mp (by rw [in_figs] at e2; cases q : figC w1 <;> rw [q] at e2 <;> first | rfl | cases e2)
  rw [in_figs] at e2
  obtain ⟨c, hc⟩ := Option.isSome_iff_exists.mp e2
  obtain ⟨cf, c1, c6⟩ := figC_some hc
  obtain ⟨_, wl, wi⟩ := fig_int cf
  refine ⟨_, rfl, l, _, _, _, rfl, rfl, SL, rfl, w1, c, rfl, wi, by omega, ?_⟩
  have po : playOf z = match badAt c (partsOf (Txt.partition z ":").2.2) with
    | some i => .error (i + 1)
    | none => .ok (c, plOf c (partsOf (Txt.partition z ":").2.2)) := by unfold playOf; rw [hd0, hc]
  refine ⟨_, rfl, _, rfl, t, _, _, _, rfl, rfl, M2, rfl, _, rfl, _, c, rfl, f3, fun lp rp H3 nb S3 hlp R => ?_, fun i H3 dx hb S3 hd => ?_⟩
  · refine ⟨(show 2 ≤ sizeLine by decide), fun p hp => kq (.ref p) c _ _ (by rw [po, nb]) ((S02.trans S3).trans (same_new hp _)) ⟨p, lp, rp, rfl, upd_same, same_new hp _ _ _ hlp, R.same (same_new hp _)⟩⟩
  · exact kx (i + 1) H3 dx (by rw [po, hb]) (S02.trans S3) hd
end
end K95

set_option maxHeartbeats 1000000
namespace K95
open PySem PySem.Spec PyProof.Rows L2 Am Pc Ba M35
open Pt hiding kit_tt
open M24
theorem join_small {sep : Str} {texts : List Str} {B : Nat} (hB : ∀ y ∈ texts, y.length ≤ B) (h : texts.length * B + texts.length * sep.length ≤ 30000) : JoinOk sep texts = true ∧ (Txt.join sep texts).length ≤ texts.length * B + texts.length * sep.length := by
  refine ⟨?_, ?_⟩
  · unfold JoinOk
    rw [StrLaws.joinFits hB (by omega)]
    rfl
  · unfold Txt.join
    rw [StrLaws.glued_eq_join]
    have h1 := StrLaws.join_length_le sep texts
    have h2 := StrLaws.sumLen_le texts hB
    omega
abbrev tS (i : Int) : Str := toString i
theorem ts_one {a : Int} (h : 0 ≤ a ∧ a ≤ 9) : (tS a).length = 1 := by
  have : a = 0 ∨ a = 1 ∨ a = 2 ∨ a = 3 ∨ a = 4 ∨ a = 5 ∨ a = 6 ∨ a = 7 ∨ a = 8 ∨ a = 9 := by omega
  rcases this with rfl | rfl | rfl | rfl | rfl | rfl | rfl | rfl | rfl | rfl <;> decide +kernel
theorem log_small {a : Int} (h : 0 ≤ a ∧ a ≤ 9) : a.natAbs.log2 < 1920 := by
  have : a = 0 ∨ a = 1 ∨ a = 2 ∨ a = 3 ∨ a = 4 ∨ a = 5 ∨ a = 6 ∨ a = 7 ∨ a = 8 ∨ a = 9 := by omega
  rcases this with rfl | rfl | rfl | rfl | rfl | rfl | rfl | rfl | rfl | rfl <;> decide +kernel
structure Sm (m : Mm) : Prop where
  nm : m.1.length ≤ 5
  len : m.2.length ≤ 3
  low : ∀ a ∈ m.2, 0 ≤ a ∧ a ≤ 9
  ok : PyData.strOk m.1 = true
def mvTxt (m : Mm) : Str := Txt.join " " (m.1 :: m.2.map tS)
theorem mv_small {m : Mm} (s : Sm m) : JoinOk " " (m.1 :: m.2.map tS) = true ∧ (mvTxt m).length ≤ 24 := by
  have h := join_small (sep := " ") (texts := m.1 :: m.2.map tS) (B := 5) (fun y hy => by
    rcases List.mem_cons.mp hy with rfl | hy
    · exact s.nm
    · obtain ⟨a, ha, rfl⟩ := List.mem_map.mp hy
      rw [ts_one (s.low a ha)]
      decide) (by
    have := s.len
    rw [List.length_cons, List.length_map]
    have e : (Str.ofString " ").length = 1 := by decide
    rw [e]
    omega)
  refine ⟨h.1, Nat.le_trans h.2 ?_⟩
  have := s.len
  rw [List.length_cons, List.length_map]
  have e : (Str.ofString " ").length = 1 := by decide
  rw [e]
  omega
def spShowMv : Sp := fun vs H Q _ => ∃ (p : Addr) (m : Mm), vs = [.ref p] ∧ H p = some (mT m) ∧ Sm m ∧ ∀ H', Same H H' → Q (.str (mvTxt m)) H'
def SmP (c : Nat) : Prt → Prop
  | .inl m => Sm m ∧ Fits m.1 m.2 c
  | .inr (q, f, s) => (∃ ab, ab < 2 ∧ q = (pc (f &&& s) + 2 * ab) % 4) ∧ f < 2 ^ c ∧ s < 2 ^ c
def abOf (q f s : Nat) : Nat := if q = pc (f &&& s) % 4 then 0 else 1
theorem ab_of {q f s ab : Nat} (h : ab < 2) (e : q = (pc (f &&& s) + 2 * ab) % 4) : abOf q f s = ab := by
  unfold abOf
  split
  · omega
  · omega
def ptTxt (c : Nat) : Prt → Str
  | .inl m => mvTxt m
  | .inr (q, f, s) => Str.ofString "look " ++ tx (abOf q f s) f s c
theorem len_look : (Str.ofString "look ").length = 5 := by decide
theorem pt_len {c : Nat} {m : Prt} (hc : c ≤ 6) (s : SmP c m) : (ptTxt c m).length ≤ 24 := by
  cases m with
  | inl m => exact (mv_small s.1).2
  | inr m =>
    obtain ⟨q, f, g⟩ := m
    show (Str.ofString "look " ++ tx _ f g c).length ≤ 24
    rw [Str.length_append, tx_len, len_look]
    omega
def playTxt (c : Nat) (ms : List Prt) : Str := (Str.ofString (toString (c : Int)) ++ Str.ofString ": ") ++ Txt.join "; " (ms.map (ptTxt c))
theorem play_small {c : Nat} {ms : List Prt} (hc : c ≤ 6) (s : ∀ m ∈ ms, SmP c m) (l : ms.length ≤ 63) : JoinOk "; " (ms.map (ptTxt c)) = true ∧ (Txt.join "; " (ms.map (ptTxt c))).length ≤ 3000 := by
  have e : (Str.ofString "; ").length = 2 := by decide
  have h := join_small (sep := "; ") (texts := ms.map (ptTxt c)) (B := 24) (fun y hy => by
    obtain ⟨m, hm, rfl⟩ := List.mem_map.mp hy
    exact pt_len hc (s m hm)) (by rw [List.length_map, e]; omega)
  refine ⟨h.1, Nat.le_trans h.2 ?_⟩
  rw [List.length_map, e]
  omega
def spShowP : Sp := fun vs H Q _ => ∃ (p : Addr) (m : Prt) (c : Nat), vs = [.ref p, .int c] ∧ PrtA H p m ∧ SmP c m ∧ c ≤ 6 ∧ ∀ H', Same H H' → Q (.str (ptTxt c m)) H'
def spShowPl : Sp := fun vs H Q _ => ∃ (l : Addr) (rp : List Addr) (ms : List Prt) (c : Nat), vs = [.int c, .ref l] ∧ H l = some (.lst (rp.map V.ref)) ∧ Prts H rp ms ∧ (∀ m ∈ ms, SmP c m) ∧ ms.length ≤ 63 ∧ c ≤ 6 ∧ ∀ H', Same H H' → Q (.str (playTxt c ms)) H'
theorem prts_get {H : Hp} : ∀ {ps : List Addr} {ms : List Prt} {i : Nat} {m : Prt}, Prts H ps ms → ms[i]? = some m → ∃ p, ps[i]? = some p ∧ PrtA H p m
  | _, _, i, _, .nil, h => by cases i <;> cases h
  | _, _, 0, _, .cons a t, h => by cases h; exact ⟨_, rfl, a⟩
  | _, _, i + 1, _, .cons a t, h => prts_get (i := i) t h
section
variable {P : Program} {w : World} {K : PySem.W.Frag} {mg : Str → Option Value} {base : Heap} {k : Nat} {h : Heap}
theorem sc_showmv : FnScope ["move"] ["move"] (defScope (top 23)) := ⟨rfl, rfl, rfl, by decide +kernel, rfl, by decide +kernel, by decide +kernel⟩
theorem ok_showmv (F : FunAt K "show_move" (top 23) .none) (X : K.In h) (G : h.Ns mainGlobals mg) (B : Bs mg) : Cal P w K mg base (k + 1) "show_move" ["move"] spShowMv := by
  have nd := sc_showmv.nd
  refine F.cal X G sc_showmv (bnd1 fun _ _ _ _ _ _ _ => rfl) (fun vs H Q E h => ?_) (fun f cdv A outer s H vs Q E hr h => ?_)
  · obtain ⟨p, m, rfl, _⟩ := h; rfl
  obtain ⟨p, ⟨nm, ns⟩, rfl, hp, sm, kq⟩ := h
  have hp : H p = some (MvT nm ns) := hp
  have SP : SqT K H p (.str nm :: ns.map V.int) := SqT.of hp
  have l3 : ns.length ≤ 3 := sm.len
  refine ⟨_, (@pss_one _ _ _ (ps_ret (pe_bm PySem.F.plainAttrs_str PySem.F.slot_str_join PySem.F.type_str_join mt_join pe_str (pa_cons (pe_op op_cat (@pe_lst _ _ _ _ (pa_cons (pe_ix ix_tup (pv 0) pe_int (fun _ _ => rfl)) pa_nil)) (pe_lc rfl (LcOk.of (Nc := ["number"]) (mp := [none]) (by kernel_rfl)) (pi_tup (pe_slice sl_tupA (pv 0) (po_some pe_int) po_none)) (fun _ _ _ _ => (pg_name (i := 0) (show (["number"] : List Str).Nodup by decide +kernel) rfl (Or.inl rfl))) (fun _ _ _ _ => (pe_callTy call_str_int rfl B.str boot_str (pa_cons (pv 0) pa_nil))))) pa_nil)))), ?_⟩
  try dsimp only [cxK]
  refine ⟨rfl, _, rfl, p, _, _, .str nm, rfl, rfl, SP, at0, (show 1 ≤ sizeLine by decide), fun l1 h1 => ?_⟩
  have s1 := same_new h1 (.lst [.str nm])
  have e1 : upd H l1 (.lst [.str nm]) l1 = some (.lst [.str nm]) := upd_same
  generalize upd H l1 (.lst [.str nm]) = H1 at s1 e1 ⊢
  refine ⟨_, rfl, _, rfl, p, _, rfl, s1.tup SP, .inr ⟨fun c => absurd c.1 (by rw [one_ix]; decide), fun r hr => ?_⟩⟩
  rw [cut_one]
  have s2 := same_new hr (.tup (ns.map V.int))
  refine ⟨r, rfl, ⟨_, SqT.of upd_same⟩, fun acc hacc => ?_⟩
  refine lc_tupM (K := K) (ns := ns) (fun a => .str (tS a)) (SqT.of upd_same) (t64 (by omega)) hacc (fun n H2 N hn S2 kN => ⟨_, rfl, n, rfl, log_small (sm.low n hn), kN⟩) (fun H3 S3 a3 => ?_)
  have e3 : ns.map (fun a => V.str (tS a)) = (ns.map tS).map V.str := by rw [List.map_map]; rfl
  rw [e3] at a3
  have S13 := s2.trans S3
  refine ⟨l1, acc, _, _, rfl, rfl, S13 _ _ e1, a3, small (by simp; omega), fun lc hlc => ?_⟩
  have s4 := same_new hlc (.lst ([V.str nm] ++ (ns.map tS).map V.str))
  refine ⟨_, lc, nm :: ns.map tS, rfl, rfl, SqL.of upd_same, (mv_small sm).1, kq _ (s1.trans (S13.trans s4))⟩
theorem sc_showpt : FnScope ["part", "cells"] ["part", "cells"] (defScope (top 36)) := ⟨rfl, rfl, rfl, by decide +kernel, rfl, by decide +kernel, by decide +kernel⟩
theorem ok_showpt (F : FunAt K "show_part" (top 36) .none) (X : K.In h) (G : h.Ns mainGlobals mg) (B : Bs mg) (c_show_mark : Cal P w K mg base k "show_mark" ["mark", "cells"] spShowM) (c_show_move : Cal P w K mg base k "show_move" ["move"] spShowMv) : Cal P w K mg base (k + 1) "show_part" ["part", "cells"] spShowP := by
  have nd := sc_showpt.nd
  refine F.cal X G sc_showpt (bnd2 fun _ _ _ _ _ _ _ _ => rfl) (fun vs H Q E h => ?_) (fun f cdv A outer s H vs Q E hr h => ?_)
  · obtain ⟨p, m, c, rfl, _⟩ := h; rfl
  obtain ⟨p, m, c, rfl, hp, sm, c6, kq⟩ := h
  refine ⟨_, (@pss_one _ _ _ (ps_ret (pe_ifExp (pt_cmpR op_eq (pe_ix ix_tup (pv 0) pe_int (fun _ _ => rfl)) pe_str (nomark _)) (pe_op op_add_str pe_str (pe_cal c_show_mark hr rfl (pa_cons (pe_ix ix_tup (pv 0) pe_int (fun _ _ => rfl)) (pa_cons (pv 1) pa_nil)))) (pe_cal c_show_move hr rfl (pa_cons (pv 0) pa_nil))))), ?_⟩
  try dsimp only [cxK]
  cases m with
  | inl m =>
    have hp' : H p = some (mT m) := hp
    refine ⟨_, rfl, p, _, _, _, rfl, rfl, SqT.of hp', at_0 _ _, rfl, _, rfl, decI (fun e => absurd (V.str.inj e) (no_look sm.2)) (fun _ => ?_)⟩
    exact ⟨_, rfl, p, m, rfl, hp', sm.1, kq⟩
  | inr m =>
    obtain ⟨q, f, g⟩ := m
    obtain ⟨⟨ab, hab, e⟩, hf, hg⟩ := sm
    obtain ⟨r, hp', hr'⟩ := hp
    have lt := tx_len ab f g c
    have ea := ab_of hab e
    refine ⟨_, rfl, p, _, _, _, rfl, rfl, SqT.of hp', rfl, rfl, _, rfl, decI (fun _ => ?_) (fun e => absurd rfl e)⟩
    refine ⟨_, rfl, p, _, _, _, rfl, rfl, SqT.of hp', rfl, _, rfl, r, q, f, g, c, ab, rfl, hr', e, hab, c6, fun H1 S1 => ⟨_, _, rfl, rfl, ?_, ?_⟩⟩
    · rw [lt, len_look]; exact small (by omega)
    · have := kq H1 S1
      unfold ptTxt at this
      dsimp only at this
      rw [ea] at this
      exact this
theorem log6 {c : Nat} (h : c ≤ 6) : ((c : Int)).natAbs.log2 < 1920 := log_small ⟨by omega, by omega⟩
theorem sc_showpl : FnScope ["cells", "parts"] ["cells", "parts"] (defScope (top 35)) := ⟨rfl, rfl, rfl, by decide +kernel, rfl, by decide +kernel, by decide +kernel⟩
theorem ok_showpl (F : FunAt K "show_play" (top 35) .none) (X : K.In h) (G : h.Ns mainGlobals mg) (B : Bs mg) (c_show_part : Cal P w K mg base k "show_part" ["part", "cells"] spShowP) : Cal P w K mg base (k + 1) "show_play" ["cells", "parts"] spShowPl := by
  have nd := sc_showpl.nd
  refine F.cal X G sc_showpl (bnd2 fun _ _ _ _ _ _ _ _ => rfl) (fun vs H Q E h => ?_) (fun f cdv A outer s H vs Q E hr h => ?_)
  · obtain ⟨l, rp, ms, c, rfl, _⟩ := h; rfl
  obtain ⟨l, rp, ms, c, rfl, hl, R, sm, m63, c6, kq⟩ := h
  have lp := Paired.length R
  have lc1 : (Str.ofString (toString (c : Int))).length = 1 := ts_one (a := (c : Int)) ⟨by omega, by omega⟩
  have l2 : (Str.ofString ": ").length = 2 := by decide
  obtain ⟨jo, jl⟩ := play_small c6 sm m63
  refine ⟨_, (@pss_one _ _ _ (ps_ret (pe_op op_add_str (pe_fInt (pv 0)) (pe_bm PySem.F.plainAttrs_str PySem.F.slot_str_join PySem.F.type_str_join mt_join pe_str (pa_cons (pe_lc rfl (LcOk.of (Nc := ["part", "cells"]) (mp := [none, some 0]) (by kernel_rfl)) (pi_list (pv 1)) (fun _ _ _ _ => (pg_name (i := 0) (show (["part", "cells"] : List Str).Nodup by decide +kernel) rfl (Or.inl rfl))) (fun _ _ _ _ => (pe_cal c_show_part hr rfl (pa_cons (pv 0) (pa_cons (pv 1) pa_nil))))) pa_nil))))), ?_⟩
  try dsimp only [cxK]
  refine ⟨_, rfl, c, rfl, log6 c6, small (by rw [lc1, l2]; decide), rfl, _, rfl, l, rfl, ⟨_, SqL.of hl⟩, fun acc hacc => ?_⟩
  refine lc_list (K := K) (a := l) (xs := rp.map V.ref) (fun i ys H' => Same H H' ∧ H' acc = some (.lst ys) ∧ ys = ((ms.take i).map (ptTxt c)).map V.str) (small (by rw [List.length_map]; omega)) ⟨same_new hacc _, upd_same, rfl⟩ (fun i ys H' e => SqL.of (e.1 _ _ hl)) ?_ ?_
  · rintro i x ys H1 N hx hy ⟨S1, a1, rfl⟩ kN
    rw [List.getElem?_map] at hx
    obtain ⟨p, hp, rfl⟩ := Option.map_eq_some_iff.mp hx
    have hi : i < ms.length := by have := (List.getElem?_eq_some_iff.mp hp).1; omega
    have em := List.getElem?_eq_getElem hi
    obtain ⟨p', hp', e⟩ := prts_get R em
    rw [hp] at hp'
    cases hp'
    refine ⟨_, rfl, _, rfl, p, ms[i], c, rfl, e.same S1, sm _ (List.getElem_mem hi), c6, fun H2 S2 => kN _ _ (S2 _ _ a1) ⟨same_upd (S1.trans S2) hacc, upd_same, ?_⟩⟩
    rw [List.take_add_one, em, Option.toList_some, List.map_append, List.map_append]
    rfl
  · rintro ys H1 hy ⟨S1, a1, rfl⟩
    rw [List.length_map, lp, List.take_length] at a1
    exact ⟨_, acc, ms.map (ptTxt c), rfl, rfl, SqL.of a1, jo, _, _, rfl, rfl, small (by rw [Str.length_append, lc1, l2]; omega), kq _ S1⟩
end
end K95

/-! texts cut at a sign -/
namespace M95
open PySem PySem.Builtin.Str L2 M35
abbrev cl (z : Str) : List Nat := z.cps.toList
theorem cl_inj {a b : Str} (h : cl a = cl b) : a = b := Str.ext' (Array.toList_inj.mp h)
theorem cl_app (a b : Str) : cl (a ++ b) = cl a ++ cl b := by
  show (a ++ b).cps.toList = _
  rw [Str.cps_append, Array.toList_append]
def jn (c : Nat) : List (List Nat) → List Nat
  | [] => []
  | [p] => p
  | p :: q :: r => p ++ c :: jn c (q :: r)
theorem cl_join (c : Nat) : ∀ ps : List Str, cl (Str.join ⟨#[c]⟩ ps) = jn c (ps.map cl)
  | [] => rfl
  | [p] => rfl
  | p :: q :: r => by
    show cl (p ++ ⟨#[c]⟩ ++ Str.join ⟨#[c]⟩ (q :: r)) = cl p ++ c :: jn c ((q :: r).map cl)
    rw [cl_app, cl_app, cl_join c (q :: r), List.append_assoc]
    rfl
theorem app_cut {c : Nat} : ∀ {a b x y : List Nat}, c ∉ a → c ∉ b → a ++ c :: x = b ++ c :: y → a = b ∧ x = y
  | [], [], x, y, _, _, h => by cases h; exact ⟨rfl, rfl⟩
  | [], b :: bs, x, y, _, hb, h => by
    injection h with h1 h2
    exact absurd (by rw [h1]; simp) hb
  | a :: as, [], x, y, ha, _, h => by
    injection h with h1 h2
    exact absurd (by rw [h1]; simp) ha
  | a :: as, b :: bs, x, y, ha, hb, h => by
    injection h with h1 h2
    obtain ⟨e1, e2⟩ := app_cut (fun q => ha (List.mem_cons_of_mem _ q)) (fun q => hb (List.mem_cons_of_mem _ q)) h2
    exact ⟨by rw [h1, e1], e2⟩
theorem jn_inj {c : Nat} : ∀ {ps qs : List (List Nat)}, ps ≠ [] → qs ≠ [] → (∀ p ∈ ps, c ∉ p) → (∀ p ∈ qs, c ∉ p) → jn c ps = jn c qs → ps = qs
  | [], _, h, _, _, _, _ => absurd rfl h
  | _ :: _, [], _, h, _, _, _ => absurd rfl h
  | [p], [q], _, _, _, _, h => by
    have h : p = q := h
    rw [h]
  | [p], q :: q2 :: r, _, _, hp, _, h => by
    have h : p = q ++ c :: jn c (q2 :: r) := h
    exact absurd (by rw [h]; simp) (hp p (by simp))
  | p :: p2 :: r, [q], _, _, _, hq, h => by
    have h : p ++ c :: jn c (p2 :: r) = q := h
    exact absurd (by rw [← h]; simp) (hq q (by simp))
  | p :: p2 :: r, q :: q2 :: t, _, _, hp, hq, h => by
    have h : p ++ c :: jn c (p2 :: r) = q ++ c :: jn c (q2 :: t) := h
    obtain ⟨e1, e2⟩ := app_cut (hp p (by simp)) (hq q (by simp)) h
    rw [e1, jn_inj (by simp) (by simp) (fun x hx => hp x (List.mem_cons_of_mem _ hx)) (fun x hx => hq x (List.mem_cons_of_mem _ hx)) e2]
theorem split_ne (z y : Str) : Txt.split z y ≠ [] := by
  unfold Txt.split
  split
  · simp
  · split
    · simp
    · rw [StrLaws.partsBetween_eq]
      obtain ⟨p, r, e⟩ := StrLaws.partsFrom_ne z y.length 0 (occurrences z y 0 z.length (z.length + 1))
      rw [e]
      simp
theorem map_cl_inj {ps qs : List Str} (h : ps.map cl = qs.map cl) : ps = qs := (List.map_inj_right (fun a b h => cl_inj h)).mp h
theorem split_uniq {z : Str} {c : Nat} {ps : List Str} (ne : ps ≠ []) (fr : ∀ p ∈ ps, c ∉ cl p) (e : cl z = jn c (ps.map cl)) : Txt.split z ⟨#[c]⟩ = ps := by
  apply map_cl_inj
  refine jn_inj (c := c) ?_ ?_ ?_ ?_ ?_
  · simpa using split_ne z ⟨#[c]⟩
  · simpa using ne
  · intro p hp
    obtain ⟨q, hq, rfl⟩ := List.mem_map.mp hp
    exact StrLaws.split_free z c q hq
  · intro p hp
    obtain ⟨q, hq, rfl⟩ := List.mem_map.mp hp
    exact fr q hq
  · rw [← cl_join, StrLaws.join_split, e]
theorem part_some {z : Str} {c : Nat} {a b : List Nat} (ha : c ∉ a) (e : cl z = a ++ c :: b) : Txt.partition z ⟨#[c]⟩ = (⟨a.toArray⟩, ⟨#[c]⟩, ⟨b.toArray⟩) := by
  unfold Txt.partition
  rcases StrLaws.occ_head z ⟨#[c]⟩ 1 (Nat.le_refl 1) with ⟨_, hn⟩ | ⟨i, r, h0, hi, hn⟩
  · exfalso
    refine hn a.length ((StrLaws.subAt_one z c a.length).mpr ?_)
    show (cl z)[a.length]? = some c
    rw [e]
    simp
  rw [h0]
  have hm : (cl z)[i]? = some c := (StrLaws.subAt_one z c i).mp hi
  have ei : i = a.length := by
    rcases Nat.lt_trichotomy i a.length with h | h | h
    · rw [e, List.getElem?_append_left h] at hm
      exact absurd (List.mem_of_getElem? hm) ha
    · exact h
    · exact absurd ((StrLaws.subAt_one z c a.length).mpr (by show (cl z)[a.length]? = some c; rw [e]; simp)) (hn _ h)
  subst ei
  have ln : z.length = a.length + (b.length + 1) := by
    have : (cl z).length = z.length := by simp [Str.length]
    rw [← this, e]
    simp
  have e1 : strSub z 0 a.length = ⟨a.toArray⟩ := by
    apply cl_inj
    show (strSub z 0 a.length).cps.toList = _
    rw [StrLaws.strSub_toList]
    show List.take (a.length - 0) (List.drop 0 (cl z)) = _
    rw [e]
    simp
  have e2 : strSub z (a.length + (⟨#[c]⟩ : Str).length) z.length = ⟨b.toArray⟩ := by
    apply cl_inj
    show (strSub z (a.length + 1) z.length).cps.toList = _
    rw [StrLaws.strSub_toList]
    show List.take (z.length - (a.length + 1)) (List.drop (a.length + 1) (cl z)) = _
    rw [e, ln]
    have : a.length + (b.length + 1) - (a.length + 1) = b.length := by omega
    rw [this]
    have : List.drop (a.length + 1) (a ++ c :: b) = b := by
      rw [show a ++ c :: b = (a ++ [c]) ++ b by simp]
      rw [List.drop_left' (by simp)]
    rw [this]
    simp
  show (strSub z 0 a.length, _, strSub z _ _) = _
  rw [e1, e2]
theorem words_uniq {z : Str} {ps : List Str} (ne : ps ≠ []) (fr : ∀ p ∈ ps, 32 ∉ cl p) (e : cl z = jn 32 (ps.map cl)) : wds z = ps.filter ne0 := by
  unfold wds
  rw [sp_eq, split_uniq ne fr e]
end M95

set_option maxHeartbeats 1000000
namespace K95
open PySem PySem.Spec PyProof.Rows L2 Am Pc Ba M35 M95
open Pt hiding kit_tt
open M24
/-! what is written is read -/
theorem sgn_sg {d : Nat} (h : d < 4) : sgn (sg d) = some d := by
  have : d = 0 ∨ d = 1 ∨ d = 2 ∨ d = 3 := by omega
  rcases this with rfl | rfl | rfl | rfl <;> rfl
theorem rd_body (f s : Nat) : ∀ n, rd (body f s n) = some (f % 2 ^ n, s % 2 ^ n)
  | 0 => by rw [Nat.pow_zero, Nat.mod_one, Nat.mod_one]; rfl
  | n + 1 => by
    show rd (body f s n ++ [sg (dg f s n)]) = _
    rw [rd_snoc, rd_body f s n, sgn_sg (dg_lt f s n), body_len]
    have e1 : dg f s n % 2 = f / 2 ^ n % 2 := by unfold dg; omega
    have e2 : dg f s n / 2 = s / 2 ^ n % 2 := by unfold dg; omega
    show some _ = some _
    rw [e1, e2, Nat.mod_pow_succ, Nat.mod_pow_succ, Nat.mul_comm (2 ^ n) (f / 2 ^ n % 2), Nat.mul_comm (2 ^ n) (s / 2 ^ n % 2)]
theorem cl_tx (ab f s n : Nat) : cl (tx ab f s n) = (if ab = 0 then 43 else 45) :: body f s n := rfl
theorem look_tx {c ab f s : Nat} (h1 : 1 ≤ c) (h6 : c ≤ 6) (hab : ab < 2) (hf : f < 2 ^ c) (hs : s < 2 ^ c) : lookOf c (tx ab f s c) = some ((pc (f &&& s) + 2 * ab) % 4, f, s) := by
  have e : due (tx ab f s c) = some ((pc (f &&& s) + 2 * ab) % 4, f, s, c) := by
    rw [due_of (cl_tx ab f s c), body_len, if_pos ⟨⟨h1, h6⟩, by split <;> simp⟩, rd_body, Nat.mod_eq_of_lt hf, Nat.mod_eq_of_lt hs]
    have : ab = 0 ∨ ab = 1 := by omega
    rcases this with rfl | rfl <;> rfl
  unfold lookOf
  rw [e]
  exact if_pos rfl
theorem body_free {x : Nat} (h : x = 32 ∨ x = 59) (f s : Nat) : ∀ n, x ∉ body f s n
  | 0 => by intro q; cases q
  | n + 1 => by
    intro q
    rcases List.mem_append.mp q with q | q
    · exact body_free h f s n q
    · rw [List.mem_singleton] at q
      unfold sg at q
      split at q
      · omega
      · split at q
        · omega
        · split at q <;> omega
theorem tx_free {x : Nat} (h : x = 32 ∨ x = 59) (ab f s n : Nat) : x ∉ cl (tx ab f s n) := by
  rw [cl_tx]
  intro q
  rcases List.mem_cons.mp q with q | q
  · split at q <;> omega
  · exact body_free h f s n q
theorem ts_cl {a : Int} (h : 0 ≤ a ∧ a ≤ 9) : cl (tS a) = [a.toNat + 48] := by
  have : a = 0 ∨ a = 1 ∨ a = 2 ∨ a = 3 ∨ a = 4 ∨ a = 5 ∨ a = 6 ∨ a = 7 ∨ a = 8 ∨ a = 9 := by omega
  rcases this with rfl | rfl | rfl | rfl | rfl | rfl | rfl | rfl | rfl | rfl <;> decide +kernel
theorem ts_fig {a : Int} (h : 0 ≤ a ∧ a ≤ 9) : fig (tS a) = some a.toNat := by
  unfold fig
  rw [show (tS a).cps.toList = _ from ts_cl h]
  show (if 48 ≤ a.toNat + 48 ∧ a.toNat + 48 ≤ 57 then some (a.toNat + 48 - 48) else none) = _
  rw [if_pos (by omega), Nat.add_sub_cancel]
theorem ts_val {a : Int} (h : 0 ≤ a ∧ a ≤ 9) : val (tS a) = a := by
  unfold val
  rw [ts_fig h]
  show ((a.toNat : Nat) : Int) = a
  omega
theorem nm_free {x : Nat} (h : x = 32 ∨ x = 59) {nm : Str} {v : V} (z : L2.numAt NB nm = some v) : x ∉ cl nm ∧ ne0 nm = true := by
  rcases num_cases nm with h' | ⟨rfl, _⟩ | ⟨rfl, _⟩ | ⟨rfl, _⟩ | ⟨rfl, _⟩ | ⟨rfl, _⟩ | ⟨rfl, _⟩ | ⟨rfl, _⟩
  · rw [h'] at z; cases z
  all_goals rcases h with rfl | rfl <;> exact ⟨by decide +kernel, by decide +kernel⟩
theorem cl_sp : cl (Str.ofString " ") = [32] := by decide
theorem cl_join32 (ps : List Str) : cl (Txt.join " " ps) = jn 32 (ps.map cl) := by
  have : Txt.join " " ps = Str.join ⟨#[32]⟩ ps := by unfold Txt.join; rw [StrLaws.glued_eq_join, sp_eq]
  rw [this, cl_join]
theorem jn_mem {c : Nat} : ∀ {ps : List (List Nat)} {x : Nat}, x ∈ jn c ps → x = c ∨ ∃ p ∈ ps, x ∈ p
  | [], x, h => by cases h
  | [p], x, h => .inr ⟨p, by simp, h⟩
  | p :: q :: r, x, h => by
    rcases List.mem_append.mp h with h | h
    · exact .inr ⟨p, by simp, h⟩
    · rcases List.mem_cons.mp h with h | h
      · exact .inl h
      · rcases jn_mem h with h | ⟨y, hy, hx⟩
        · exact .inl h
        · exact .inr ⟨y, List.mem_cons_of_mem _ hy, hx⟩
theorem emp_free {x : Nat} : x ∉ cl (Str.ofString "") := by rw [show cl (Str.ofString "") = [] by decide]; simp
theorem emp0 : ne0 (Str.ofString "") = false := by decide
theorem pt_free {c : Nat} {m : Prt} (s : SmP c m) : 59 ∉ cl (ptTxt c m) := by
  cases m with
  | inl m =>
    show 59 ∉ cl (Txt.join " " (m.1 :: m.2.map tS))
    rw [cl_join32]
    intro q
    rcases jn_mem q with q | ⟨p, hp, hx⟩
    · cases q
    · obtain ⟨w, hw, rfl⟩ := List.mem_map.mp hp
      rcases List.mem_cons.mp hw with rfl | hw
      · exact (nm_free (.inr rfl) s.2.form.num).1 hx
      · obtain ⟨a, ha, rfl⟩ := List.mem_map.mp hw
        have := s.1.low a ha
        rw [ts_cl this, List.mem_singleton] at hx
        omega
  | inr m =>
    obtain ⟨q, f, g⟩ := m
    show 59 ∉ cl (Str.ofString "look " ++ tx _ f g c)
    rw [cl_app]
    intro h
    rcases List.mem_append.mp h with h | h
    · exact absurd h (by decide)
    · exact tx_free (.inr rfl) _ f g c h
theorem pt_read {c : Nat} {m : Prt} (h1 : 1 ≤ c) (h6 : c ≤ 6) (s : SmP c m) : ptOf c (Str.ofString " " ++ ptTxt c m) = some m := by
  cases m with
  | inl m =>
    obtain ⟨nm, ns⟩ := m
    obtain ⟨sm, fi⟩ := s
    have nf := nm_free (.inl rfl) fi.form.num
    have fr : ∀ p ∈ Str.ofString "" :: nm :: ns.map tS, 32 ∉ cl p := by
      intro p hp
      rcases List.mem_cons.mp hp with rfl | hp
      · exact emp_free
      · rcases List.mem_cons.mp hp with rfl | hp
        · exact nf.1
        · obtain ⟨a, ha, rfl⟩ := List.mem_map.mp hp
          rw [ts_cl (sm.low a ha), List.mem_singleton]
          omega
    have ew : wds (Str.ofString " " ++ mvTxt (nm, ns)) = nm :: ns.map tS := by
      rw [words_uniq (ps := Str.ofString "" :: nm :: ns.map tS) (by simp) fr (by
        rw [cl_app, cl_sp]
        show [32] ++ cl (Txt.join " " (nm :: ns.map tS)) = cl (Str.ofString "") ++ 32 :: jn 32 ((nm :: ns.map tS).map cl)
        rw [cl_join32, show cl (Str.ofString "") = [] by decide]
        rfl)]
      rw [List.filter_cons_of_neg (by rw [emp0]; decide), List.filter_cons_of_pos nf.2]
      congr 1
      rw [List.filter_eq_self]
      intro p hp
      obtain ⟨a, ha, rfl⟩ := List.mem_map.mp hp
      cases e : ne0 (tS a) with
      | true => rfl
      | false =>
        have := ne0_nil e
        have e2 := ts_cl (sm.low a ha)
        rw [show cl (tS a) = [] from this] at e2
        cases e2
    have nl : ¬ ((nm :: ns.map tS).length = 2 ∧ (nm :: ns.map tS)[0]? = some (Str.ofString "look")) := fun ⟨_, q⟩ => no_look fi (Option.some.inj q)
    have ev : (ns.map tS).map val = ns := by
      rw [List.map_map]
      conv => rhs; rw [← List.map_id ns]
      exact List.map_congr_left fun a ha => ts_val (sm.low a ha)
    show ptW c (wds (Str.ofString " " ++ mvTxt (nm, ns))) = _
    rw [ew]
    unfold ptW
    rw [if_neg nl, mv_some (fun w hw => by
      obtain ⟨a, ha, rfl⟩ := List.mem_map.mp hw
      rw [ts_fig (sm.low a ha)]; rfl) (by rw [ev]; exact fi), ev]
    rfl
  | inr m =>
    obtain ⟨q, f, g⟩ := m
    obtain ⟨⟨ab, hab, rfl⟩, hf, hg⟩ := s
    have ea := ab_of hab (rfl : (pc (f &&& g) + 2 * ab) % 4 = _)
    have ew : wds (Str.ofString " " ++ (Str.ofString "look " ++ tx ab f g c)) = [Str.ofString "look", tx ab f g c] := by
      rw [words_uniq (ps := [Str.ofString "", Str.ofString "look", tx ab f g c]) (by simp) (fun p hp => by
        simp only [List.mem_cons, List.not_mem_nil, or_false] at hp
        rcases hp with rfl | rfl | rfl
        · exact emp_free
        · decide
        · exact tx_free (.inl rfl) _ _ _ _) (by
        rw [cl_app, cl_app, cl_sp]
        show [32] ++ (cl (Str.ofString "look ") ++ cl (tx ab f g c)) = cl (Str.ofString "") ++ 32 :: (cl (Str.ofString "look") ++ 32 :: cl (tx ab f g c))
        rw [show cl (Str.ofString "") = [] by decide, show cl (Str.ofString "look ") = cl (Str.ofString "look") ++ [32] by decide, List.append_assoc]
        rfl)]
      have t1 : ne0 (Str.ofString "look") = true := by decide
      have t2 : ne0 (tx ab f g c) = true := by
        cases e : ne0 (tx ab f g c) with
        | true => rfl
        | false => have := ne0_nil e; rw [show (tx ab f g c).cps.toList = _ from cl_tx ab f g c] at this; cases this
      rw [List.filter_cons_of_neg (by rw [emp0]; decide), List.filter_cons_of_pos t1, List.filter_cons_of_pos t2]
      rfl
    show ptW c (wds (Str.ofString " " ++ (Str.ofString "look " ++ tx (abOf ((pc (f &&& g) + 2 * ab) % 4) f g) f g c))) = _
    rw [ea, ew]
    unfold ptW
    rw [if_pos ⟨rfl, rfl⟩]
    show (lookOf c (tx ab f g c)).map Sum.inr = _
    rw [look_tx h1 h6 hab hf hg]
    rfl
theorem jn_head {c : Nat} {p : List Nat} {r : List (List Nat)} {x : Nat} (h : x ∈ p) : x ∈ jn c (p :: r) := by
  cases r with
  | nil => exact h
  | cons q r => exact List.mem_append.mpr (.inl h)
theorem cl_sep {ps : List Str} (ne : ps ≠ []) : 32 :: cl (Txt.join "; " ps) = jn 59 ((ps.map (Str.ofString " " ++ ·)).map cl) := by
  have e : Txt.join "; " ps = Str.join "; " ps := by unfold Txt.join; rw [StrLaws.glued_eq_join]
  rw [e]
  clear e
  have g : ∀ p : Str, cl (Str.ofString " " ++ p) = 32 :: cl p := fun p => by rw [cl_app, cl_sp]; rfl
  induction ps with
  | nil => exact absurd rfl ne
  | cons p r ih =>
    cases r with
    | nil => exact (g p).symm
    | cons q r =>
      show 32 :: cl (p ++ Str.ofString "; " ++ Str.join "; " (q :: r)) = cl (Str.ofString " " ++ p) ++ 59 :: jn 59 (((q :: r).map (Str.ofString " " ++ ·)).map cl)
      rw [← ih (by simp), cl_app, cl_app, g, show cl (Str.ofString "; ") = [59, 32] by decide, List.append_assoc]
      rfl
theorem pl_all {c : Nat} {g : Prt → Str} : ∀ {ms : List Prt}, (∀ m ∈ ms, ptOf c (g m) = some m) → plOf c (ms.map g) = ms
  | [], _ => rfl
  | m :: ms, h => by
    have ih := pl_all (c := c) (g := g) (ms := ms) fun x hx => h x (List.mem_cons_of_mem _ hx)
    unfold plOf at ih ⊢
    rw [List.map_cons, List.filterMap_cons, h m (by simp), ih]
theorem take_map {α β : Type} (f : α → β) (l : List α) (n : Nat) : (l.map f).take n = (l.take n).map f := (List.map_take ..).symm
theorem bad_all {c : Nat} {g : Prt → Str} {ms : List Prt} (h : ∀ m ∈ ms, ptOf c (g m) = some m) (l6 : (ms.filter isLk).length ≤ 6) : badAt c (ms.map g) = none := by
  refine bad_none fun j hj => ?_
  rw [List.length_map] at hj
  unfold bd lks
  rw [List.getElem?_map, List.getElem?_eq_getElem hj, take_map, pl_all fun m hm => h m (List.mem_of_mem_take hm)]
  show ((ptOf c (g ms[j])).isNone || _) = false
  rw [h _ (List.getElem_mem hj)]
  show (false || _) = false
  rw [Bool.false_or, decide_eq_false_iff_not]
  have := (List.Sublist.filter isLk (List.take_sublist (j + 1) ms)).length_le
  omega
theorem c_fig {c : Nat} (h1 : 1 ≤ c) (h6 : c ≤ 6) : cl (Str.ofString (toString (c : Int))) = [c + 48] ∧ figC (Str.ofString (toString (c : Int))) = some c := by
  have : c = 1 ∨ c = 2 ∨ c = 3 ∨ c = 4 ∨ c = 5 ∨ c = 6 := by omega
  rcases this with rfl | rfl | rfl | rfl | rfl | rfl <;> exact ⟨by decide +kernel, by decide +kernel⟩
theorem colon : Str.ofString ":" = ⟨#[58]⟩ := by decide
theorem semi : Str.ofString ";" = ⟨#[59]⟩ := by decide
theorem play_read {c : Nat} {ms : List Prt} (h1 : 1 ≤ c) (h6 : c ≤ 6) (sm : ∀ m ∈ ms, SmP c m) (l6 : (ms.filter isLk).length ≤ 6) : playOf (playTxt c ms) = .ok (c, ms) := by
  obtain ⟨ec, ef⟩ := c_fig h1 h6
  have ez : cl (playTxt c ms) = [c + 48] ++ 58 :: (32 :: cl (Txt.join "; " (ms.map (ptTxt c)))) := by
    unfold playTxt
    rw [cl_app, cl_app, ec, show cl (Str.ofString ": ") = [58, 32] by decide]
    rfl
  have ep := part_some (z := playTxt c ms) (c := 58) (a := [c + 48]) (b := 32 :: cl (Txt.join "; " (ms.map (ptTxt c)))) (by simp; omega) ez
  rw [← colon] at ep
  have ea : (⟨[c + 48].toArray⟩ : Str) = Str.ofString (toString (c : Int)) := cl_inj ec.symm
  have hw : wds (Str.ofString (toString (c : Int))) = [Str.ofString (toString (c : Int))] := by
    rw [words_uniq (ps := [Str.ofString (toString (c : Int))]) (by simp) (fun p hp => by
      rw [List.mem_singleton] at hp
      rw [hp, ec, List.mem_singleton]
      omega) rfl]
    refine List.filter_eq_self.mpr fun p hp => ?_
    rw [List.mem_singleton] at hp
    subst hp
    cases e : ne0 (Str.ofString (toString (c : Int))) with
    | true => rfl
    | false => have := ne0_nil e; rw [show (Str.ofString (toString (c : Int))).cps.toList = _ from ec] at this; cases this
  have hh : headOf (playTxt c ms) = some c := by
    unfold headOf
    rw [ep, if_neg (show ¬ Str.ofString ":" = Str.ofString "" by decide)]
    show (match wds (⟨[c + 48].toArray⟩ : Str) with | [w] => figC w | _ => none) = some c
    rw [ea, hw]
    exact ef
  have hp : partsOf (Txt.partition (playTxt c ms) ":").2.2 = ms.map fun m => Str.ofString " " ++ ptTxt c m := by
    rw [ep]
    show partsOf (⟨(32 :: cl (Txt.join "; " (ms.map (ptTxt c)))).toArray⟩ : Str) = _
    cases ms with
    | nil =>
      have e0 : cl (Txt.join "; " (([] : List Prt).map (ptTxt c))) = [] := rfl
      rw [e0]
      show partsOf ⟨#[32]⟩ = []
      decide +kernel
    | cons m r =>
      have e2 : cl (⟨(32 :: cl (Txt.join "; " ((m :: r).map (ptTxt c)))).toArray⟩ : Str) = jn 59 ((((m :: r).map (ptTxt c)).map (Str.ofString " " ++ ·)).map cl) := cl_sep (by simp)
      have es := split_uniq (c := 59) (ps := ((m :: r).map (ptTxt c)).map (Str.ofString " " ++ ·)) (by simp) (fun p hp => by
        obtain ⟨q, hq, rfl⟩ := List.mem_map.mp hp
        obtain ⟨x, hx, rfl⟩ := List.mem_map.mp hq
        rw [cl_app, cl_sp]
        intro h
        rcases List.mem_append.mp h with h | h
        · simp at h
        · exact pt_free (sm x hx) h) e2
      unfold partsOf
      rw [if_neg, semi, es, List.map_map]
      · rfl
      · intro hb
        have hb := (words_nil _).mp hb
        have b2 : blank (Str.ofString " " ++ ptTxt c m) := fun x hx => hb x (by
          show x ∈ cl _
          rw [e2]
          exact jn_head hx)
        have e3 := pt_read h1 h6 (sm m (by simp))
        unfold ptOf at e3
        rw [(words_nil _).mpr b2] at e3
        unfold ptW at e3
        rw [if_neg (by simp)] at e3
        cases e3
  have bn := bad_all (c := c) (g := fun m => Str.ofString " " ++ ptTxt c m) (ms := ms) (fun m hm => pt_read h1 h6 (sm m hm)) l6
  unfold playOf
  rw [hh]
  dsimp only
  rw [hp, bn, pl_all fun m hm => pt_read h1 h6 (sm m hm)]
end K95

set_option maxHeartbeats 1000000
namespace K95
open PySem PySem.Spec PyProof.Rows L2 Am Pc Ba M35
open Pt hiding kit_tt
open M24
theorem pc_and_top : ∀ (n : Nat) {f s a b : Nat}, f < 2 ^ n → s < 2 ^ n → a < 2 → b < 2 → pc ((f + a * 2 ^ n) &&& (s + b * 2 ^ n)) = pc (f &&& s) + a * b
  | 0, f, s, a, b, hf, hs, ha, hb => by
    have f0 : f = 0 := by simpa using hf
    have s0 : s = 0 := by simpa using hs
    subst f0 s0
    have : a = 0 ∨ a = 1 := by omega
    have : b = 0 ∨ b = 1 := by omega
    rcases ‹a = 0 ∨ a = 1› with rfl | rfl <;> rcases ‹b = 0 ∨ b = 1› with rfl | rfl <;> decide +kernel
  | n + 1, f, s, a, b, hf, hs, ha, hb => by
    have g : ∀ x y : Nat, pc (x &&& y) = (x % 2) * (y % 2) + pc ((x / 2) &&& (y / 2)) := fun x y => by
      rw [pc_half, Bt.nat_and]
      have h1 : (x % 2) * (y % 2) < 2 := by
        have a1 := Nat.mod_lt x (show 0 < 2 by decide)
        have a2 := Nat.mod_lt y (show 0 < 2 by decide)
        have : x % 2 = 0 ∨ x % 2 = 1 := by omega
        rcases this with e | e <;> rw [e] <;> omega
      have e1 : (2 * ((x / 2) &&& (y / 2)) + (x % 2) * (y % 2)) % 2 = (x % 2) * (y % 2) := by omega
      have e2 : (2 * ((x / 2) &&& (y / 2)) + (x % 2) * (y % 2)) / 2 = (x / 2) &&& (y / 2) := by omega
      rw [e1, e2]
    have h : ∀ x a : Nat, (x + a * 2 ^ (n + 1)) % 2 = x % 2 ∧ (x + a * 2 ^ (n + 1)) / 2 = x / 2 + a * 2 ^ n := fun x a => by
      have e : a * 2 ^ (n + 1) = 2 * (a * 2 ^ n) := by rw [Nat.pow_succ]; simp [Nat.mul_comm, Nat.mul_left_comm]
      rw [e]
      omega
    rw [g, g f s, (h f a).1, (h f a).2, (h s b).1, (h s b).2]
    rw [pc_and_top n (f := f / 2) (s := s / 2) (by rw [Nat.pow_succ] at hf; omega) (by rw [Nat.pow_succ] at hs; omega) ha hb]
    omega
theorem pickV {l : List V} {i : Int} (h0 : 0 ≤ i) (h1 : i < l.length) : ∃ x ∈ l, atI l i = some x := by
  have l1 : i.toNat < l.length := by omega
  have e : i = ((i.toNat : Nat) : Int) := by omega
  have h : atI l ((i.toNat : Nat) : Int) = some l[i.toNat] := atI_nat (List.getElem?_eq_getElem l1)
  rw [← e] at h
  exact ⟨l[i.toNat], List.getElem_mem l1, h⟩
theorem pickI {l : List Int} {i : Int} (h0 : 0 ≤ i) (h1 : i < l.length) : ∃ x ∈ l, atI (l.map V.int) i = some (.int x) := by
  obtain ⟨v, hv, e⟩ := pickV (l := l.map V.int) h0 (by rw [List.length_map]; exact h1)
  obtain ⟨x, hx, rfl⟩ := List.mem_map.mp hv
  exact ⟨x, hx, e⟩
theorem pow_at {i : Nat} (h : i < 6) : atI ([1, 2, 4, 8, 16, 32].map V.int) (0 + (i : Int)) = some (.int ((2 ^ i : Nat) : Int)) := by
  have : i = 0 ∨ i = 1 ∨ i = 2 ∨ i = 3 ∨ i = 4 ∨ i = 5 := by omega
  rcases this with rfl | rfl | rfl | rfl | rfl | rfl <;> rfl
theorem atS {z : Str} {i : Int} (h0 : 0 ≤ i) (h1 : i < z.length) : ∃ c, atI z.cps.toList i = some c := by
  have e : i = ((i.toNat : Nat) : Int) := by omega
  have l : i.toNat < z.cps.toList.length := by simp [Str.length] at h1 ⊢; omega
  rw [e]
  exact ⟨_, atI_nat (List.getElem?_eq_getElem l)⟩
theorem app_len (a b : Str) : (a ++ b).length = a.length + b.length := Str.length_append a b
def spBlanks : Sp := fun vs H Q _ => ∃ c : Int, vs = [.int c] ∧ ∀ (z : Str) (H' : Hp), z.length ≤ 3 → Same H H' → Q (.str z) H'
def spMark : Sp := fun vs H Q _ => ∃ (v : Int) (c : Nat), vs = [.int v, .int c] ∧ c ≤ 6 ∧ ∀ (p : Addr) (q f s : Nat) (H' : Hp), Same H H' → H' p = some (M3 q f s) → SmP c (.inr (q, f, s)) → Q (.ref p) H'
def spMarkT : Sp := fun vs H Q _ => ∃ (p : Addr) (q f s c : Nat), vs = [.ref p, .int c] ∧ H p = some (M3 q f s) ∧ c ≤ 6 ∧ ∀ (z : Str) (H' : Hp), z.length ≤ 7 → Same H H' → Q (.str z) H'
theorem p8 : (0 : Int) < 8 := by decide
theorem p4 : (0 : Int) < 4 := by decide
theorem p2 : (0 : Int) < 2 := by decide
section
variable {P : Program} {w : World} {K : PySem.W.Frag} {mg : Str → Option Value} {base : Heap} {k : Nat} {h : Heap}
theorem sc_blanks : FnScope ["_law_cell"] ["_law_cell"] (defScope (top 45)) := ⟨rfl, rfl, rfl, by decide +kernel, rfl, by decide +kernel, by decide +kernel⟩
theorem ok_blanks (F : FunAt K "_law_blanks" (top 45) .none) (X : K.In h) (G : h.Ns mainGlobals mg) : Cal P w K mg base (k + 1) "_law_blanks" ["_law_cell"] spBlanks := by
  have nd := sc_blanks.nd
  refine F.cal X G sc_blanks (bnd1 fun _ _ _ _ _ _ _ => rfl) (fun vs H Q E h => ?_) (fun f cdv A outer s H vs Q E hr h => ?_)
  · obtain ⟨c, rfl, _⟩ := h; rfl
  obtain ⟨c, rfl, q⟩ := h
  refine ⟨_, (@pss_one _ _ _ (ps_ret (pe_op op_repS pe_str (@pe_ix _ _ _ _ _ _ _ ix_list (@pe_lst _ _ _ _ (@pa_cons _ _ _ _ _ pe_int (@pa_cons _ _ _ _ _ pe_int (@pa_cons _ _ _ _ _ pe_int (@pa_cons _ _ _ _ _ pe_int (@pa_cons _ _ _ _ _ pe_int (@pa_cons _ _ _ _ _ pe_int (@pa_cons _ _ _ _ _ pe_int (@pa_cons _ _ _ _ _ pe_int pa_nil rfl) rfl) rfl) rfl) rfl) rfl) rfl) rfl)) (pe_op op_mod (pv 0) pe_int) (fun _ _ => rfl))))), ?_⟩
  try dsimp only [cxK]
  refine ⟨(show 8 ≤ sizeLine by decide), fun l hl => ?_⟩
  have s1 := same_new hl (.lst ([0, 0, 0, 1, 1, 2, 0, 3].map V.int))
  have b0 := Int.emod_nonneg c (show (8 : Int) ≠ 0 by decide)
  have b1 := Int.emod_lt_of_pos c (show (0 : Int) < 8 by decide)
  obtain ⟨x, hx, ex⟩ := pickI (l := [0, 0, 0, 1, 1, 2, 0, 3]) (i := c % 8) b0 b1
  have x3 : 0 ≤ x ∧ x ≤ 3 := by
    have : ∀ y ∈ ([0, 0, 0, 1, 1, 2, 0, 3] : List Int), 0 ≤ y ∧ y ≤ 3 := by decide
    exact this x hx
  refine ⟨_, rfl, _, _, rfl, rfl, p8, l, _, _, .int x, rfl, rfl, SqL.of upd_same, ex, _, x, rfl, rfl, x3.1, by omega, by decide, fun z hz => q z _ ?_ s1⟩
  have e1 : (Str.ofString " ").length = 1 := by decide
  rw [e1] at hz
  omega
theorem sc_mark : FnScope ["_law_cell", "_law_cells", "_law_q", "_law_f", "_law_s", "_law_left", "_law_k", "_law_letter"] ["_law_cell", "_law_cells"] (defScope (top 40)) := ⟨rfl, rfl, rfl, by decide +kernel, rfl, by decide +kernel, by decide +kernel⟩
theorem ok_mark (F : FunAt K "_law_mark" (top 40) .none) (X : K.In h) (G : h.Ns mainGlobals mg) (B : Bs mg) : Cal P w K mg base (k + 1) "_law_mark" ["_law_cell", "_law_cells"] spMark := by
  have nd := sc_mark.nd
  refine F.cal X G sc_mark (bnd2 fun _ _ _ _ _ _ _ _ => rfl) (fun vs H Q E h => ?_) (fun f cdv A outer s H vs Q E hr h => ?_)
  · obtain ⟨v, c, rfl, _⟩ := h; rfl
  obtain ⟨v, c, rfl, c6, q⟩ := h
  refine ⟨_, (@pss_cons _ _ _ _ _ (@ps_set _ _ 2 _ _ _ _ nd rfl (Or.inl rfl) (pe_op op_mul pe_int (pe_op op_mod (pv 0) pe_int)) rfl (.inl rfl))
    (@pss_cons _ _ _ _ _ (@ps_set _ _ 3 _ _ _ _ nd rfl (Or.inl rfl) pe_int rfl (.inl rfl))
    (@pss_cons _ _ _ _ _ (@ps_set _ _ 4 _ _ _ _ nd rfl (Or.inl rfl) pe_int rfl (.inl rfl))
    (@pss_cons _ _ _ _ _ (@ps_set _ _ 5 _ _ _ _ nd rfl (Or.inl rfl) (pe_op op_fdiv (pv 0) pe_int) rfl (.inl rfl))
    (@pss_cons _ _ _ _ _ (ps_for PassesOwn.never rfl (pi_range1 rfl B.range (pa_cons (pv 1) pa_nil)) (pg_name (i := 6) nd rfl (Or.inl rfl))
      (@pss_cons _ _ _ _ _ (@ps_set _ _ 7 _ _ _ _ nd rfl (Or.inl rfl) (pe_op op_mod (pv 5) pe_int) rfl (.inl rfl))
      (@pss_cons _ _ _ _ _ (@ps_set _ _ 5 _ _ _ _ nd rfl (Or.inl rfl) (pe_op op_fdiv (pv 5) pe_int) rfl (.inl rfl))
      (@pss_cons _ _ _ _ _ (@ps_set _ _ 3 _ _ _ _ nd rfl (Or.inl rfl) (pe_op op_add (pv 3) (pe_op op_mulG (pe_op op_mod (pv 7) pe_int) (@pe_ix _ _ _ _ _ _ _ ix_list (@pe_lst _ _ _ _ (@pa_cons _ _ _ _ _ pe_int (@pa_cons _ _ _ _ _ pe_int (@pa_cons _ _ _ _ _ pe_int (@pa_cons _ _ _ _ _ pe_int (@pa_cons _ _ _ _ _ pe_int (@pa_cons _ _ _ _ _ pe_int pa_nil rfl) rfl) rfl) rfl) rfl) rfl)) (pv 6) (fun _ _ => rfl)))) rfl (.inl rfl))
      (@pss_cons _ _ _ _ _ (@ps_set _ _ 4 _ _ _ _ nd rfl (Or.inl rfl) (pe_op op_add (pv 4) (pe_op op_mulG (pe_op op_fdiv (pv 7) pe_int) (@pe_ix _ _ _ _ _ _ _ ix_list (@pe_lst _ _ _ _ (@pa_cons _ _ _ _ _ pe_int (@pa_cons _ _ _ _ _ pe_int (@pa_cons _ _ _ _ _ pe_int (@pa_cons _ _ _ _ _ pe_int (@pa_cons _ _ _ _ _ pe_int (@pa_cons _ _ _ _ _ pe_int pa_nil rfl) rfl) rfl) rfl) rfl) rfl)) (pv 6) (fun _ _ => rfl)))) rfl (.inl rfl))
      (@pss_one _ _ _ (@ps_set _ _ 2 _ _ _ _ nd rfl (Or.inl rfl) (pe_op op_add (pv 2) (pe_op op_fdiv (pv 7) pe_int)) rfl (.inl rfl))))))))
    (@pss_one _ _ _ (ps_ret (@pe_tup _ _ _ _ _ (pa_cons (pe_op op_mod (pv 2) pe_int) (pa_cons (pv 3) (pa_cons (pv 4) pa_nil))))))))))), ?_⟩
  try dsimp only [cxK]
  have b0 := Int.emod_nonneg v (show (2 : Int) ≠ 0 by decide)
  have b1 := Int.emod_lt_of_pos v (show (0 : Int) < 2 by decide)
  obtain ⟨ab, hab, eab⟩ : ∃ ab : Nat, ab < 2 ∧ v % 2 = ab := ⟨(v % 2).toNat, by omega, by omega⟩
  refine ⟨_, rfl, _, _, rfl, rfl, p2, _, _, rfl, rfl, .inl ⟨by decide, by decide⟩, ?_⟩
  refine ⟨_, rfl, _, _, rfl, rfl, ⟨by decide, by decide⟩, ?_⟩
  refine ⟨_, rfl, c, rfl, by omega, by omega, for_range (n := c) (fun i σ H' => Same H H' ∧ ∃ (f s : Nat) (q' F S left : Int) (v6 v7 : Option V), f < 2 ^ i ∧ s < 2 ^ i ∧ q' = ((pc (f &&& s) + 2 * ab : Nat) : Int) ∧ F = f ∧ S = s ∧ σ = [some (.int v), some (.int c), some (.int q'), some (.int F), some (.int S), some (.int left), v6, v7])
    ⟨Same.refl _, 0, 0, 2 * (v % 2), 0, 0, v / 2, none, none, by decide, by decide, (by
      have : pc (0 &&& 0) = 0 := by decide +kernel
      rw [this]; omega), rfl, rfl, rfl⟩ ?_ ?_⟩
  · rintro i σ H1 hi ⟨S1, f, g, q', F, S, left, v6, v7, hf, hg, eq, rfl, rfl, rfl⟩
    have d0 := Int.emod_nonneg left (show (4 : Int) ≠ 0 by decide)
    have d1 := Int.emod_lt_of_pos left (show (0 : Int) < 4 by decide)
    obtain ⟨d, hd, ed⟩ : ∃ d : Nat, d < 4 ∧ left % 4 = d := ⟨(left % 4).toNat, by omega, by omega⟩
    have hp := pow_at (i := i) (by omega)
    have i6 : i < 6 := by omega
    have sp : Sz 7 ((2 ^ i : Nat) : Int) := by
      have : i = 0 ∨ i = 1 ∨ i = 2 ∨ i = 3 ∨ i = 4 ∨ i = 5 := by omega
      rcases this with rfl | rfl | rfl | rfl | rfl | rfl <;> decide
    have sa : Sz 3 (left % 4 % 2) := Sz.of_bound (b := 4) (by omega) (by omega) (by decide)
    have sb : Sz 3 (left % 4 / 2) := Sz.of_bound (b := 4) (by omega) (by omega) (by decide)
    refine ⟨_, rfl, _, _, rfl, rfl, p4, ?_⟩
    refine ⟨_, rfl, _, _, rfl, rfl, ⟨by decide, by decide⟩, ?_⟩
    refine ⟨_, rfl, _, rfl, _, _, rfl, rfl, p2, (show 6 ≤ sizeLine by decide), fun l1 h1 => ⟨_, rfl, l1, _, _, _, rfl, rfl, SqL.of upd_same, hp, _, _, rfl, rfl, ⟨_, _, sa, sp, by decide⟩, _, _, rfl, rfl, ?_⟩⟩
    have s1 := same_new h1 (.lst ([1, 2, 4, 8, 16, 32].map V.int))
    refine ⟨_, rfl, _, rfl, _, _, rfl, rfl, ⟨by decide, by decide⟩, (show 6 ≤ sizeLine by decide), fun l2 h2 => ⟨_, rfl, l2, _, _, _, rfl, rfl, SqL.of upd_same, hp, _, _, rfl, rfl, ⟨_, _, sb, sp, by decide⟩, _, _, rfl, rfl, ?_⟩⟩
    have s2 := same_new h2 (.lst ([1, 2, 4, 8, 16, 32].map V.int))
    refine ⟨_, rfl, _, rfl, _, _, rfl, rfl, ⟨by decide, by decide⟩, _, _, rfl, rfl, S1.trans (s1.trans s2), f + d % 2 * 2 ^ i, g + d / 2 * 2 ^ i, _, _, _, _, _, _, ?_, ?_, ?_, ?_, ?_, rfl⟩
    · rw [Nat.pow_succ]; have : d % 2 = 0 ∨ d % 2 = 1 := by omega
      rcases this with e | e <;> rw [e] <;> omega
    · rw [Nat.pow_succ]; have : d / 2 = 0 ∨ d / 2 = 1 := by omega
      rcases this with e | e <;> rw [e] <;> omega
    · rw [pc_and_top i hf hg (by omega) (by omega), eq]
      show ((pc (f &&& g) + 2 * ab : Nat) : Int) + left % 4 / 3 = _
      rw [ed]
      have : d = 0 ∨ d = 1 ∨ d = 2 ∨ d = 3 := by omega
      rcases this with rfl | rfl | rfl | rfl <;> simp <;> omega
    · show (f : Int) + left % 4 % 2 * ((2 ^ i : Nat) : Int) = _
      rw [ed]
      push_cast
      rfl
    · show (g : Int) + left % 4 / 2 * ((2 ^ i : Nat) : Int) = _
      rw [ed]
      push_cast
      rfl
  · rintro σ H1 ⟨S1, f, g, q', F, S, left, v6, v7, hf, hg, eq, rfl, rfl, rfl⟩
    refine ⟨_, rfl, _, _, rfl, rfl, p4, _, rfl, _, rfl, (show 3 ≤ sizeLine by decide), fun p hp => ?_⟩
    refine q p ((pc (f &&& g) + 2 * ab) % 4) f g _ (S1.trans (same_new hp _)) ?_ ⟨⟨ab, hab, rfl⟩, hf, hg⟩
    rw [upd_same, eq]
    rfl
end
end K95

set_option maxHeartbeats 1000000
namespace K95
open PySem PySem.Spec PyProof.Rows L2 Am Pc Ba M35
open Pt hiding kit_tt
open M24
theorem lpm : (Str.ofString "+-").length = 2 := by decide
theorem one_len (c : Nat) : (⟨#[c]⟩ : Str).length = 1 := rfl
def spWordsL : Sp := fun vs H Q _ => ∃ (p : Addr) (m : Prt) (c : Nat), vs = [.ref p, .int c] ∧ PrtA H p m ∧ SmP c m ∧ c ≤ 6 ∧ ∀ (l : Addr) (ts : List Str) (H' : Hp), ts.length ≤ 4 → (∀ t ∈ ts, t.length ≤ 7) → Same H H' → H' l = some (.lst (ts.map V.str)) → Q (.ref l) H'
section
variable {P : Program} {w : World} {K : PySem.W.Frag} {mg : Str → Option Value} {base : Heap} {k : Nat} {h : Heap}
theorem sc_markt : FnScope ["_law_mark_here", "_law_cells", "_law_found", "_law_q", "_law_k", "_law_many", "_law_letter"] ["_law_mark_here", "_law_cells"] (defScope (top 41)) := ⟨rfl, rfl, rfl, by decide +kernel, rfl, by decide +kernel, by decide +kernel⟩
theorem ok_markt (F : FunAt K "_law_mark_text" (top 41) .none) (X : K.In h) (G : h.Ns mainGlobals mg) (B : Bs mg) : Cal P w K mg base (k + 1) "_law_mark_text" ["_law_mark_here", "_law_cells"] spMarkT := by
  have nd := sc_markt.nd
  refine F.cal X G sc_markt (bnd2 fun _ _ _ _ _ _ _ _ => rfl) (fun vs H Q E h => ?_) (fun f cdv A outer s H vs Q E hr h => ?_)
  · obtain ⟨p, q, f, g, c, rfl, _⟩ := h; rfl
  obtain ⟨p, q0, f, g, c, rfl, hp, c6, q⟩ := h
  have M : ∀ {H'}, Same H H' → SqT K H' p [.int q0, .int f, .int g] := fun S => SqT.of (S _ _ hp)
  refine ⟨_, (@pss_cons _ _ _ _ _ (@ps_set _ _ 2 _ _ _ _ nd rfl (Or.inl rfl) pe_str rfl (.inl rfl))
    (@pss_cons _ _ _ _ _ (@ps_set _ _ 3 _ _ _ _ nd rfl (Or.inl rfl) (pe_ix ix_tup (pv 0) pe_int (fun _ _ => rfl)) rfl (.inl rfl))
    (@pss_cons _ _ _ _ _ (ps_for PassesOwn.never rfl (pi_range1 rfl B.range (pa_cons (pv 1) pa_nil)) (pg_name (i := 4) nd rfl (Or.inl rfl))
      (@pss_cons _ _ _ _ _ (@ps_set _ _ 5 _ _ _ _ nd rfl (Or.inl rfl) (@pe_ix _ _ _ _ _ _ _ ix_list (@pe_lst _ _ _ _ (@pa_cons _ _ _ _ _ pe_int (@pa_cons _ _ _ _ _ pe_int (@pa_cons _ _ _ _ _ pe_int (@pa_cons _ _ _ _ _ pe_int (@pa_cons _ _ _ _ _ pe_int (@pa_cons _ _ _ _ _ pe_int pa_nil rfl) rfl) rfl) rfl) rfl) rfl)) (pv 4) (fun _ _ => rfl)) rfl (.inl rfl))
      (@pss_cons _ _ _ _ _ (@ps_set _ _ 6 _ _ _ _ nd rfl (Or.inl rfl) (pe_op op_add (pe_op op_mod (pe_op op_fdivS (pe_ix ix_tup (pv 0) pe_int (fun _ _ => rfl)) (pv 5)) pe_int) (pe_op op_mul pe_int (pe_op op_mod (pe_op op_fdivS (pe_ix ix_tup (pv 0) pe_int (fun _ _ => rfl)) (pv 5)) pe_int))) rfl (.inl rfl))
      (@pss_cons _ _ _ _ _ (@ps_set _ _ 2 _ _ _ _ nd rfl (Or.inl rfl) (pe_op op_add_str (pv 2) (pe_ix ix_str pe_str (pv 6) (fun _ _ => rfl))) rfl (.inl rfl))
      (@pss_one _ _ _ (@ps_set _ _ 3 _ _ _ _ nd rfl (Or.inl rfl) (pe_op op_sub (pv 3) (pe_op op_fdiv (pv 6) pe_int)) rfl (.inl rfl)))))))
    (@pss_one _ _ _ (ps_ret (pe_op op_add_str (pe_ix ix_str pe_str (pe_op op_fdiv (pe_op op_mod (pv 3) pe_int) pe_int) (fun _ _ => rfl)) (pv 2))))))), ?_⟩
  try dsimp only [cxK]
  refine ⟨_, rfl, p, _, _, _, rfl, rfl, M (Same.refl _), rfl, ?_⟩
  refine ⟨_, rfl, c, rfl, by omega, by omega, for_range (n := c) (fun i σ H' => Same H H' ∧ ∃ (z : Str) (q' : Int) (v4 v5 v6 : Option V), z.length ≤ i ∧ σ = [some (.ref p), some (.int c), some (.str z), some (.int q'), v4, v5, v6])
    ⟨Same.refl _, _, _, _, _, _, (by decide), rfl⟩ ?_ ?_⟩
  · rintro i σ H1 hi ⟨S1, z, q', v4, v5, v6, hz, rfl⟩
    have hp2 := pow_at (i := i) (by omega)
    have i6 : i < 6 := by omega
    have sp : Sz 7 ((2 ^ i : Nat) : Int) := by
      have : i = 0 ∨ i = 1 ∨ i = 2 ∨ i = 3 ∨ i = 4 ∨ i = 5 := by omega
      rcases this with rfl | rfl | rfl | rfl | rfl | rfl <;> decide
    have cd : ((2 ^ i : Nat) : Int) ≠ 0 := by have := Nat.two_pow_pos i; omega
    refine ⟨(show 6 ≤ sizeLine by decide), fun l1 h1 => ⟨_, rfl, l1, _, _, _, rfl, rfl, SqL.of upd_same, hp2, ?_⟩⟩
    have S2 := S1.trans (same_new h1 (.lst [V.int 1, V.int 2, V.int 4, V.int 8, V.int 16, V.int 32]))
    refine ⟨_, rfl, p, _, _, _, rfl, rfl, M S2, rfl, _, rfl, _, _, rfl, rfl, ⟨cd, sp.mono (by decide)⟩, _, _, rfl, rfl, p2, _, rfl, p, _, _, _, rfl, rfl, M S2, rfl, _, rfl, _, _, rfl, rfl, ⟨cd, sp.mono (by decide)⟩, _, _, rfl, rfl, p2, _, _, rfl, rfl, .inl ⟨by decide, by decide⟩, _, _, rfl, rfl, ?_⟩
    have b : ∀ x : Int, 0 ≤ x % 2 ∧ x % 2 < 2 := fun x => ⟨Int.emod_nonneg x (by decide), Int.emod_lt_of_pos x (by decide)⟩
    have bx := b ((f : Int).fdiv ((2 ^ i : Nat) : Int))
    have by' := b ((g : Int).fdiv ((2 ^ i : Nat) : Int))
    obtain ⟨ch, ech⟩ := atS (z := Str.ofString ".fsb") (i := (f : Int).fdiv ((2 ^ i : Nat) : Int) % 2 + 2 * ((g : Int).fdiv ((2 ^ i : Nat) : Int) % 2)) (by omega) (by rw [len4]; omega)
    refine ⟨_, rfl, _, rfl, _, _, ch, rfl, rfl, small (by rw [len4]; decide), ech, _, _, rfl, rfl, small (by rw [one_len]; omega), ?_⟩
    refine ⟨_, rfl, _, rfl, _, _, rfl, rfl, ⟨by decide, by decide⟩, _, _, rfl, rfl, S2, _, _, _, _, _, ?_, rfl⟩
    rw [app_len, one_len]
    omega
  · rintro σ H1 ⟨S1, z, q', v4, v5, v6, hz, rfl⟩
    have d0 := Int.emod_nonneg q' (show (4 : Int) ≠ 0 by decide)
    have d1 := Int.emod_lt_of_pos q' (show (0 : Int) < 4 by decide)
    obtain ⟨ch, ech⟩ := atS (z := Str.ofString "+-") (i := q' % 4 / 2) (by omega) (by rw [lpm]; omega)
    refine ⟨_, rfl, _, _, rfl, rfl, p4, _, _, rfl, rfl, ⟨by decide, by decide⟩, _, _, ch, rfl, rfl, small (by rw [lpm]; decide), ech, _, rfl, _, _, rfl, rfl, small (by rw [one_len]; omega), q _ _ ?_ S1⟩
    rw [app_len, one_len]
    omega
end
end K95

set_option maxHeartbeats 1000000
namespace K95
open PySem PySem.Spec PyProof.Rows L2 Am Pc Ba M35
open Pt hiding kit_tt
open M24
theorem nm_sm {nm : Str} {v : V} (z : L2.numAt NB nm = some v) : nm.length ≤ 5 ∧ PyData.strOk nm = true := by
  rcases num_cases nm with h' | ⟨rfl, _⟩ | ⟨rfl, _⟩ | ⟨rfl, _⟩ | ⟨rfl, _⟩ | ⟨rfl, _⟩ | ⟨rfl, _⟩ | ⟨rfl, _⟩
  · rw [h'] at z; cases z
  all_goals exact ⟨by decide +kernel, by decide +kernel⟩
theorem smp {nm : Str} {ns : List Int} {c : Nat} (f : Fits nm ns c) (all : ∀ a ∈ ns, 0 ≤ a ∧ a ≤ 9) : SmP c (.inl (nm, ns)) :=
  ⟨⟨(nm_sm f.form.num).1, f.form.len, all, (nm_sm f.form.num).2⟩, f⟩
theorem smp_all {nm : Str} {ns : List Int} {c : Nat} (c6 : c ≤ 6) (hn : L2.numAt NB nm = some (.int ns.length)) (nt : nm ≠ "turn") (l : ns.length ≤ 3) (lo : ∀ a ∈ ns, 0 ≤ a ∧ a < c) (nd : ns.Nodup) : SmP c (.inl (nm, ns)) := by
  have e : named nm ns = ns := if_neg nt
  exact smp ⟨⟨hn, l, fun z => absurd z nt⟩, by rw [e]; exact lo, by rw [e]; exact nd⟩ fun a ha => by have := lo a ha; omega
theorem smp_turn {a t : Int} {c : Nat} (c6 : c ≤ 6) (ha : 0 ≤ a ∧ a < c) (ht : 1 ≤ t ∧ t ≤ 7) : SmP c (.inl ("turn", [a, t])) := by
  have e : named "turn" [a, t] = [a] := if_pos rfl
  refine smp ⟨⟨by show L2.numAt NB "turn" = some (.int 2); decide +kernel, by simp, fun _ => ⟨a, t, rfl, ht⟩⟩, by rw [e]; intro x hx; rw [List.mem_singleton.mp hx]; exact ha, by rw [e]; simp⟩ fun x hx => ?_
  simp only [List.mem_cons, List.not_mem_nil, or_false] at hx
  rcases hx with rfl | rfl <;> omega
def wtx : V → V
  | .str z => .str z
  | .int i => .str (tS i)
  | v => v
def spPart : Sp := fun vs H Q _ => ∃ (v : Int) (c : Nat) (b : Bool), vs = [.int v, .int c, .bl b] ∧ 1 ≤ c ∧ c ≤ 6 ∧ ∀ (p : Addr) (m : Prt) (H' : Hp), Same H H' → PrtA H' p m → SmP c m → Q (.ref p) H'
theorem p9 : (0 : Int) < 9 := by decide
theorem p7 : (0 : Int) < 7 := by decide
theorem t2 : (2 : Nat) ≤ sizeLine := by decide
theorem t3 : (3 : Nat) ≤ sizeLine := by decide
theorem t4 : (4 : Nat) ≤ sizeLine := by decide
section
variable {P : Program} {w : World} {K : PySem.W.Frag} {mg : Str → Option Value} {base : Heap} {k : Nat} {h : Heap}
theorem sc_wordsl : FnScope ["_law_part_here", "_law_cells"] ["_law_part_here", "_law_cells"] (defScope (top 44)) := ⟨rfl, rfl, rfl, by decide +kernel, rfl, by decide +kernel, by decide +kernel⟩
theorem ok_wordsl (F : FunAt K "_law_words" (top 44) .none) (X : K.In h) (G : h.Ns mainGlobals mg) (B : Bs mg) (c__law_mark_text : Cal P w K mg base k "_law_mark_text" ["_law_mark_here", "_law_cells"] spMarkT) : Cal P w K mg base (k + 1) "_law_words" ["_law_part_here", "_law_cells"] spWordsL := by
  have nd := sc_wordsl.nd
  refine F.cal X G sc_wordsl (bnd2 fun _ _ _ _ _ _ _ _ => rfl) (fun vs H Q E h => ?_) (fun f cdv A outer s H vs Q E hr h => ?_)
  · obtain ⟨p, m, c, rfl, _⟩ := h; rfl
  obtain ⟨p, m, c, rfl, hp, sm, c6, kq⟩ := h
  refine ⟨_, (@pss_cons _ _ _ _ _ (ps_if (pt_cmpR op_eq (pe_ix ix_tup (pv 0) pe_int (fun _ _ => rfl)) pe_str (nomark _))
      (@pss_one _ _ _ (ps_ret (@pe_lst _ _ _ _ (@pa_cons _ _ _ _ _ pe_str (@pa_cons _ _ _ _ _ (pe_cal c__law_mark_text hr rfl (@pa_cons _ _ _ _ _ (@pe_ix _ _ _ _ _ _ _ ix_tup (pv 0) pe_int (fun _ _ => rfl)) (@pa_cons _ _ _ _ _ (pv 1) pa_nil rfl) rfl)) pa_nil rfl) rfl))))
      pss_nil)
    (@pss_one _ _ _ (ps_ret (pe_lc rfl (LcOk.of (Nc := ["_law_word"]) (mp := [none]) (by kernel_rfl)) (pi_tup (pv 0)) (fun _ _ _ _ => (pg_name (i := 0) (show (["_law_word"] : List Str).Nodup by decide +kernel) rfl (Or.inl rfl))) (fun _ _ _ _ => (pe_callTy call_str_txt rfl B.str boot_str (pa_cons (pv 0) pa_nil))))))), ?_⟩
  try dsimp only [cxK]
  cases m with
  | inl m =>
    obtain ⟨nm, ns⟩ := m
    have hp' : H p = some (.tup (.str nm :: ns.map V.int)) := hp
    have l3 : ns.length ≤ 3 := sm.1.len
    refine ⟨_, rfl, p, _, _, _, rfl, rfl, SqT.of hp', at_0 _ _, rfl, _, rfl, decI (fun e => absurd (V.str.inj e) (no_look sm.2)) (fun _ => ?_)⟩
    refine ⟨_, rfl, p, rfl, ⟨_, SqT.of hp'⟩, fun acc hacc => ?_⟩
    refine lc_tupV (K := K) wtx (SqT.of hp') (small (by simp; omega)) hacc (fun v H1 N hv S1 kN => ?_) (fun H1 S1 a1 => ?_)
    · rcases List.mem_cons.mp hv with rfl | hv
      · exact ⟨_, rfl, .inl ⟨nm, rfl, kN⟩⟩
      · obtain ⟨a, ha, rfl⟩ := List.mem_map.mp hv
        exact ⟨_, rfl, .inr ⟨a, rfl, log_small (sm.1.low a ha), kN⟩⟩
    · have e : (V.str nm :: ns.map V.int).map wtx = (nm :: ns.map tS).map V.str := by
        rw [List.map_cons, List.map_cons, List.map_map, List.map_map]; rfl
      rw [e] at a1
      refine kq acc _ H1 (by simp; omega) (fun t ht => ?_) S1 a1
      rcases List.mem_cons.mp ht with rfl | ht
      · have := sm.1.nm; have h5 : t.length ≤ 5 := this; omega
      · obtain ⟨a, ha, rfl⟩ := List.mem_map.mp ht
        rw [ts_one (sm.1.low a ha)]
        decide
  | inr m =>
    obtain ⟨q, f, g⟩ := m
    obtain ⟨r, hp', hr'⟩ := hp
    refine ⟨_, rfl, p, _, _, _, rfl, rfl, SqT.of hp', rfl, rfl, _, rfl, decI (fun _ => ?_) (fun e => absurd rfl e)⟩
    refine ⟨_, rfl, p, _, _, _, rfl, rfl, SqT.of hp', rfl, _, rfl, r, q, f, g, c, rfl, hr', c6, fun z H1 hz S1 => ⟨t2, fun l hl => ?_⟩⟩
    refine kq l [Str.ofString "look", z] _ (by simp) (fun t ht => ?_) (S1.trans (same_new hl _)) upd_same
    simp only [List.mem_cons, List.not_mem_nil, or_false] at ht
    rcases ht with rfl | rfl
    · decide
    · exact hz
theorem sc_part : FnScope ["_law_cell", "_law_cells", "_law_looks", "_law_one", "_law_two", "_law_three", "_law_kind", "_law_left"] ["_law_cell", "_law_cells", "_law_looks"] (defScope (top 42)) := ⟨rfl, rfl, rfl, by decide +kernel, rfl, by decide +kernel, by decide +kernel⟩
theorem ok_part (F : FunAt K "_law_part" (top 42) .none) (X : K.In h) (G : h.Ns mainGlobals mg) (B : Bs mg) (c__law_mark : Cal P w K mg base k "_law_mark" ["_law_cell", "_law_cells"] spMark) : Cal P w K mg base (k + 1) "_law_part" ["_law_cell", "_law_cells", "_law_looks"] spPart := by
  have nd := sc_part.nd
  refine F.cal X G sc_part (bnd3 fun _ _ _ _ _ _ _ _ _ => rfl) (fun vs H Q E h => ?_) (fun f cdv A outer s H vs Q E hr h => ?_)
  · obtain ⟨v, c, b, rfl, _⟩ := h; rfl
  obtain ⟨v, c, b, rfl, c1, c6, kq⟩ := h
  have cpos : (0 : Int) < (c : Int) := by omega
  refine ⟨_, (@pss_cons _ _ _ _ _ (@ps_set _ _ 3 _ _ _ _ nd rfl (Or.inl rfl) (pe_op op_mod (pv 0) (pv 1)) rfl (.inl rfl))
    (@pss_cons _ _ _ _ _ (@ps_set _ _ 4 _ _ _ _ nd rfl (Or.inl rfl) (pe_op op_mod (pe_op op_fdiv (pv 0) pe_int) (pv 1)) rfl (.inl rfl))
    (@pss_cons _ _ _ _ _ (@ps_set _ _ 5 _ _ _ _ nd rfl (Or.inl rfl) (pe_op op_mod (pe_op op_fdiv (pv 0) pe_int) (pv 1)) rfl (.inl rfl))
    (@pss_cons _ _ _ _ _ (@ps_set _ _ 6 _ _ _ _ nd rfl (Or.inl rfl) (pe_op op_mod (pe_op op_fdiv (pv 0) pe_int) pe_int) rfl (.inl rfl))
    (@pss_cut _ _ _ _ _ (@ps_set _ _ 7 _ _ _ _ nd rfl (Or.inl rfl) (pe_op op_fdiv (pv 0) pe_int) rfl (.inl rfl))
    (@pss_cut _ _ _ _ _ (ps_if (PW.pt (pw_and (pt_cmpR op_gt (pv 6) pe_int (nomark _)) (pw_and1 (pt_val (pv 2)))))
      (@pss_one _ _ _ (ps_ret (@pe_tup _ _ _ _ _ (pa_cons pe_str (pa_cons (pe_cal c__law_mark hr rfl (pa_cons (pv 7) (pa_cons (pv 1) pa_nil))) pa_nil)))))
      pss_nil)
    (@pss_cut _ _ _ _ _ (ps_if (PW.pt (pw_and (pt_cmpR op_eq (pv 6) pe_int (nomark _)) (pw_and (pt_cmpR op_ne (pv 3) (pv 4) (nomark _)) (pw_and (pt_cmpR op_ne (pv 4) (pv 5) (nomark _)) (pw_and1 (pt_cmpR op_ne (pv 3) (pv 5) (nomark _)))))))
      (@pss_one _ _ _ (ps_ret (@pe_tup _ _ _ _ _ (pa_cons pe_str (pa_cons (pv 3) (pa_cons (pv 4) (pa_cons (pv 5) pa_nil)))))))
      pss_nil)
    (@pss_cut _ _ _ _ _ (ps_if (PW.pt (pw_or (pt_cmpR op_eq (pv 6) pe_int (nomark _)) (pw_or1 (pt_cmpR op_eq (pv 6) pe_int (nomark _)))))
      (@pss_one _ _ _ (ps_ret (@pe_tup _ _ _ _ _ (pa_cons pe_str (pa_cons (pv 3) (pa_cons (pe_op op_add pe_int (pe_op op_mod (pv 7) pe_int)) pa_nil))))))
      pss_nil)
    (@pss_cut _ _ _ _ _ (ps_if (PW.pt (pw_and (pt_cmpR op_lt pe_int (pv 6) (nomark _)) (pw_and (pt_cmpR op_lt (pv 6) pe_int (nomark _)) (pw_and1 (pt_cmpR op_ne (pv 3) (pv 4) (nomark _))))))
      (@pss_one _ _ _ (ps_ret (@pe_tup _ _ _ _ _ (pa_cons (@pe_ix _ _ _ _ _ _ _ ix_list (@pe_lst _ _ _ _ (@pa_cons _ _ _ _ _ pe_str (@pa_cons _ _ _ _ _ pe_str (@pa_cons _ _ _ _ _ pe_str pa_nil rfl) rfl) rfl)) (pe_op op_sub (pv 6) pe_int) (fun _ _ => rfl)) (pa_cons (pv 3) (pa_cons (pv 4) pa_nil))))))
      pss_nil)
    (@pss_one _ _ _ (ps_ret (@pe_tup _ _ _ _ _ (pa_cons (@pe_ix _ _ _ _ _ _ _ ix_list (@pe_lst _ _ _ _ (@pa_cons _ _ _ _ _ pe_str (@pa_cons _ _ _ _ _ pe_str pa_nil rfl) rfl)) (pe_op op_mod (pv 6) pe_int) (fun _ _ => rfl)) (pa_cons (pv 3) pa_nil)))))))))))))), ?_⟩
  try dsimp only [cxK]
  refine ⟨_, rfl, _, rfl, _, _, rfl, rfl, cpos, ?_⟩
  refine ⟨_, rfl, _, _, rfl, rfl, ⟨by decide, by decide⟩, _, rfl, _, _, rfl, rfl, cpos, ?_⟩
  refine ⟨_, rfl, _, _, rfl, rfl, ⟨by decide, by decide⟩, _, rfl, _, _, rfl, rfl, cpos, ?_⟩
  refine ⟨_, rfl, _, _, rfl, rfl, ⟨by decide, by decide⟩, _, _, rfl, rfl, p9, ?_⟩
  refine ⟨fun σ H' => H' = H ∧ ∃ x y z t left : Int, (0 ≤ x ∧ x < c) ∧ (0 ≤ y ∧ y < c) ∧ (0 ≤ z ∧ z < c) ∧ (0 ≤ t ∧ t < 9) ∧ σ = [some (.int v), some (.int c), some (.bl b), some (.int x), some (.int y), some (.int z), some (.int t), some (.int left)], ?_, ?_⟩
  · have g : ∀ x : Int, 0 ≤ x % c ∧ x % c < c := fun x => ⟨Int.emod_nonneg x (by omega), Int.emod_lt_of_pos x cpos⟩
    exact ⟨_, rfl, _, _, rfl, rfl, ⟨by decide, by decide⟩, rfl, _, _, _, _, _, g _, g _, g _, ⟨Int.emod_nonneg _ (by decide), Int.emod_lt_of_pos _ (by decide)⟩, rfl⟩
  rintro σ1 H1 ⟨rfl, x, y, z, t, left, hx, hy, hz, ht, rfl⟩
  have one : ∀ nm : Str, L2.numAt NB nm = some (.int 1) → nm ≠ "turn" → SmP c (.inl (nm, [x])) := fun nm hn nt => smp_all c6 hn nt (by simp) (fun a ha => by rw [List.mem_singleton.mp ha]; exact hx) (by simp)
  have two : ∀ nm : Str, L2.numAt NB nm = some (.int 2) → nm ≠ "turn" → x ≠ y → SmP c (.inl (nm, [x, y])) := fun nm hn nt ne => smp_all c6 hn nt (by simp) (fun a ha => by
    simp only [List.mem_cons, List.not_mem_nil, or_false] at ha
    rcases ha with rfl | rfl <;> assumption) (by simpa using ne)
  refine ⟨fun σ H' => H' = H1 ∧ σ = [some (.int v), some (.int c), some (.bl b), some (.int x), some (.int y), some (.int z), some (.int t), some (.int left)], ?_, ?_⟩
  · refine ⟨_, rfl, _, _, rfl, rfl, _, rfl, decI (fun k6 => ⟨_, rfl, _, rfl, blI (fun _ => ?_) (fun _ => ⟨rfl, rfl⟩)⟩) (fun k6 => ⟨rfl, rfl⟩)⟩
    exact ⟨_, rfl, _, rfl, left, c, rfl, c6, fun p q f g H2 S2 hp sm => ⟨t2, fun r hr => kq r (.inr (q, f, g)) _ (S2.trans (same_new hr _)) ⟨p, upd_same, same_new hr _ _ _ hp⟩ sm⟩⟩
  rintro σ2 H2 ⟨rfl, rfl⟩
  refine ⟨fun σ H' => H' = H2 ∧ σ = [some (.int v), some (.int c), some (.bl b), some (.int x), some (.int y), some (.int z), some (.int t), some (.int left)], ?_, ?_⟩
  · refine ⟨_, rfl, rfl, _, rfl, eqI (fun _ => ⟨_, rfl, _, rfl, rfl, _, rfl, neI (fun xy => ⟨_, rfl, _, rfl, rfl, _, rfl, neI (fun yz => ⟨_, rfl, _, rfl, rfl, _, rfl, neI (fun xz => ?_) (fun _ => ⟨rfl, rfl⟩)⟩) (fun _ => ⟨rfl, rfl⟩)⟩) (fun _ => ⟨rfl, rfl⟩)⟩) (fun _ => ⟨rfl, rfl⟩)⟩
    refine ⟨_, rfl, _, rfl, _, rfl, t4, fun r hr => kq r (.inl ("cross", [x, y, z])) _ (same_new hr _) upd_same (smp_all c6 (by show L2.numAt NB "cross" = some (.int 3); decide +kernel) (by decide) (by simp) (fun a ha => ?_) ?_)⟩
    · simp only [List.mem_cons, List.not_mem_nil, or_false] at ha
      rcases ha with rfl | rfl | rfl <;> assumption
    · simp [xy, yz, xz]
  rintro σ3 H3 ⟨rfl, rfl⟩
  refine ⟨fun σ H' => H' = H3 ∧ σ = [some (.int v), some (.int c), some (.bl b), some (.int x), some (.int y), some (.int z), some (.int t), some (.int left)], ?_, ?_⟩
  · have l0 := Int.emod_nonneg left (show (7 : Int) ≠ 0 by decide)
    have l1 := Int.emod_lt_of_pos left (show (0 : Int) < 7 by decide)
    have tn : SmP c (.inl ("turn", [x, 1 + left % 7])) := smp_turn c6 hx ⟨by omega, by omega⟩
    refine ⟨_, rfl, rfl, _, rfl, eqI (fun _ => ?_) (fun _ => ⟨_, rfl, rfl, _, rfl, eqI (fun _ => ?_) (fun _ => ⟨rfl, rfl⟩)⟩)⟩
    · exact ⟨_, rfl, _, rfl, _, _, rfl, rfl, p7, _, _, rfl, rfl, t3, fun r hr => kq r (.inl ("turn", [x, 1 + left % 7])) _ (same_new hr _) upd_same tn⟩
    · exact ⟨_, rfl, _, rfl, _, _, rfl, rfl, p7, _, _, rfl, rfl, t3, fun r hr => kq r (.inl ("turn", [x, 1 + left % 7])) _ (same_new hr _) upd_same tn⟩
  rintro σ4 H4 ⟨rfl, rfl⟩
  refine ⟨fun σ H' => H' = H4 ∧ σ = [some (.int v), some (.int c), some (.bl b), some (.int x), some (.int y), some (.int z), some (.int t), some (.int left)], ?_, ?_⟩
  · refine ⟨_, rfl, _, _, rfl, rfl, _, rfl, decI (fun k2 => ⟨_, rfl, _, _, rfl, rfl, _, rfl, decI (fun k6 => ⟨_, rfl, _, rfl, rfl, _, rfl, neI (fun xy => ?_) (fun _ => ⟨rfl, rfl⟩)⟩) (fun _ => ⟨rfl, rfl⟩)⟩) (fun _ => ⟨rfl, rfl⟩)⟩
    refine ⟨t3, fun l hl => ?_⟩
    have s1 := same_new hl (.lst [.str "if", .str "pair", .str "swap"])
    have tt : t = 3 ∨ t = 4 ∨ t = 5 := by omega
    rcases tt with rfl | rfl | rfl
    · exact ⟨_, rfl, _, _, rfl, rfl, l, _, _, .str "if", rfl, rfl, SqL.of upd_same, rfl, _, rfl, _, rfl, t3, fun r hr => kq r (.inl ("if", [x, y])) _ (s1.trans (same_new hr _)) upd_same (two _ (by decide +kernel) (by decide) xy)⟩
    · exact ⟨_, rfl, _, _, rfl, rfl, l, _, _, .str "pair", rfl, rfl, SqL.of upd_same, rfl, _, rfl, _, rfl, t3, fun r hr => kq r (.inl ("pair", [x, y])) _ (s1.trans (same_new hr _)) upd_same (two _ (by decide +kernel) (by decide) xy)⟩
    · exact ⟨_, rfl, _, _, rfl, rfl, l, _, _, .str "swap", rfl, rfl, SqL.of upd_same, rfl, _, rfl, _, rfl, t3, fun r hr => kq r (.inl ("swap", [x, y])) _ (s1.trans (same_new hr _)) upd_same (two _ (by decide +kernel) (by decide) xy)⟩
  rintro σ5 H5 ⟨rfl, rfl⟩
  refine ⟨t2, fun l hl => ?_⟩
  have s1 := same_new hl (.lst [.str "flip", .str "mix"])
  have d0 := Int.emod_nonneg t (show (2 : Int) ≠ 0 by decide)
  have d1 := Int.emod_lt_of_pos t (show (0 : Int) < 2 by decide)
  have tt : t % 2 = 0 ∨ t % 2 = 1 := by omega
  rcases tt with e | e
  · exact ⟨_, rfl, _, _, rfl, rfl, p2, l, _, _, .str "flip", rfl, rfl, SqL.of upd_same, (by rw [e]; rfl), _, rfl, t2, fun r hr => kq r (.inl ("flip", [x])) _ (s1.trans (same_new hr _)) upd_same (one _ (by decide +kernel) (by decide))⟩
  · exact ⟨_, rfl, _, _, rfl, rfl, p2, l, _, _, .str "mix", rfl, rfl, SqL.of upd_same, (by rw [e]; rfl), _, rfl, t2, fun r hr => kq r (.inl ("mix", [x])) _ (s1.trans (same_new hr _)) upd_same (one _ (by decide +kernel) (by decide))⟩
end
end K95

set_option maxHeartbeats 1000000
namespace K95
open PySem PySem.Spec PyProof.Rows L2 Am Pc Ba M35
open Pt hiding kit_tt
open M24
theorem cut_ints (ns : List Int) (a b : Nat) : ∃ ys : List Int, cutV (ns.map V.int) (some (a : Int)) (some (b : Int)) = ys.map V.int ∧ ys.length ≤ b - a := by
  unfold cutV
  rw [HT.sIx_nat, HT.sIx_nat]
  refine ⟨(ns.drop (min a ns.length)).take (min b ns.length - min a ns.length), ?_, ?_⟩
  · rw [List.length_map, ← List.map_drop, ← List.map_take]
  · rw [List.length_take, List.length_drop]
    omega
theorem at_last {xs : List V} {x : V} : atI (xs ++ [x]) (-1) = some x := by
  unfold atI ixN
  rw [if_neg (by decide), if_pos (by rw [List.length_append, List.length_singleton]; omega)]
  show (xs ++ [x])[((-1 : Int) + ((xs ++ [x]).length : Nat)).toNat]? = some x
  have : ((-1 : Int) + ((xs ++ [x]).length : Nat)).toNat = xs.length := by rw [List.length_append, List.length_singleton]; omega
  rw [this]
  simp
theorem prt_head {H : Hp} {p : Addr} {m : Prt} (h : PrtA H p m) : ∃ nm xs, H p = some (.tup (.str nm :: xs)) ∧ (nm = Str.ofString "look" ↔ isLk m = true ∨ (∃ a, m = .inl a ∧ a.1 = Str.ofString "look")) := by
  cases m with
  | inl m => exact ⟨m.1, _, h, ⟨fun e => .inr ⟨m, rfl, e⟩, fun e => by rcases e with e | ⟨a, e, e2⟩; cases e; cases e; exact e2⟩⟩
  | inr m => obtain ⟨a, b, c⟩ := m; obtain ⟨r, h1, h2⟩ := h; exact ⟨_, _, h1, ⟨fun _ => .inl rfl, fun _ => rfl⟩⟩
def spPartsL (K : PySem.W.Frag) : Sp := fun vs H Q _ => ∃ (a : Addr) (ns : List Int) (c : Nat) (b : Bool), vs = [.ref a, .int c, .bl b] ∧ SqL K H a (ns.map V.int) ∧ 1 ≤ c ∧ c ≤ 6 ∧ ∀ (l : Addr) (rp : List Addr) (ms : List Prt) (H' : Hp), H l = none → Same H H' → H' l = some (.lst (rp.map V.ref)) → Prts H' rp ms → (∀ m ∈ ms, SmP c m) → ms.length ≤ 60 → Q (.ref l) H'
theorem p12 : (0 : Int) < (10 : Int) ^ (12 : Int).toNat := by decide
section
variable {P : Program} {w : World} {K : PySem.W.Frag} {mg : Str → Option Value} {base : Heap} {k : Nat} {h : Heap}
theorem sc_partsl : FnScope ["_law_script", "_law_cells", "_law_any_looks", "_law_found", "_law_looks", "_law_cell"] ["_law_script", "_law_cells", "_law_any_looks"] (defScope (top 43)) := ⟨rfl, rfl, rfl, by decide +kernel, rfl, by decide +kernel, by decide +kernel⟩
theorem ok_partsl (F : FunAt K "_law_parts" (top 43) .none) (X : K.In h) (G : h.Ns mainGlobals mg) (B : Bs mg) (c__law_part : Cal P w K mg base k "_law_part" ["_law_cell", "_law_cells", "_law_looks"] spPart) : Cal P w K mg base (k + 1) "_law_parts" ["_law_script", "_law_cells", "_law_any_looks"] (spPartsL K) := by
  have nd := sc_partsl.nd
  refine F.cal X G sc_partsl (bnd3 fun _ _ _ _ _ _ _ _ _ => rfl) (fun vs H Q E h => ?_) (fun f cdv A outer s H vs Q E hr h => ?_)
  · obtain ⟨a, ns, c, b, rfl, _⟩ := h; rfl
  obtain ⟨a, ns, c, b, rfl, ha, c1, c6, kq⟩ := h
  refine ⟨_, (@pss_cons _ _ _ _ _ (@ps_set _ _ 3 _ _ _ _ nd rfl (Or.inl rfl) (@pe_lst _ _ _ _ pa_nil) rfl (.inl rfl))
    (@pss_cons _ _ _ _ _ (@ps_set _ _ 4 _ _ _ _ nd rfl (Or.inl rfl) pe_int rfl (.inl rfl))
    (@pss_cons _ _ _ _ _ (ps_for PassesOwn.never rfl (pi_list (pe_slice sl_list (pv 0) (po_some pe_int) (po_some pe_int))) (pg_name (i := 5) nd rfl (Or.inl rfl))
      (@pss_cons _ _ _ _ _ (ps_expr (pe_bm PySem.F.plainAttrs_list PySem.F.slot_list_append PySem.F.type_list_append mt_append (pv 3) (pa_cons (pe_cal c__law_part hr rfl (pa_cons (pe_op op_mod (pv 5) (pe_op op_pow pe_int pe_int)) (pa_cons (pv 1) (pa_cons (pe_or (pv 2) (pe_one (pe_cmpR op_lt (pv 4) pe_int (nomark _)))) pa_nil)))) pa_nil)))
      (@pss_one _ _ _ (@ps_set _ _ 4 _ _ _ _ nd rfl (Or.inl rfl) (pe_op op_add (pv 4) (pe_callTy call_int1 rfl B.int boot_int (pa_cons (pe_cmpR op_eq (pe_ix ix_tup (pe_ix ix_list (pv 3) (pe_un un_neg pe_int) (fun _ _ => rfl)) pe_int (fun _ _ => rfl)) pe_str (nomark _)) pa_nil))) rfl (.inl rfl)))))
    (@pss_one _ _ _ (ps_ret (pv 3)))))), ?_⟩
  try dsimp only [cxK]
  refine ⟨Nat.zero_le _, fun lr hlr => ?_⟩
  have s0 := same_new hlr (.lst [])
  have e0 : upd H lr (.lst []) lr = some (.lst []) := upd_same
  generalize upd H lr (.lst []) = H0 at s0 e0 ⊢
  refine ⟨_, rfl, _, rfl, _, rfl, a, _, rfl, s0.seq ha, fun cp hcp => ?_⟩
  obtain ⟨ys, ey, y60⟩ := cut_ints ns 5 65
  have ey : cutV (ns.map V.int) (some 5) (some 65) = ys.map V.int := ey
  rw [ey]
  have s1 := same_new hcp (.lst (ys.map V.int))
  have e1 : upd H0 cp (.lst (ys.map V.int)) cp = some (.lst (ys.map V.int)) := upd_same
  generalize upd H0 cp (.lst (ys.map V.int)) = H1 at s1 e1 ⊢
  have ne : cp ≠ lr := fun e => by rw [e, e0] at hcp; cases hcp
  refine ⟨cp, rfl, ⟨_, SqL.of e1⟩, for_list (K := K) (a := cp) (xs := ys.map V.int) (fun i σ H' => Same H H' ∧ H' cp = some (.lst (ys.map V.int)) ∧ ∃ (rp : List Addr) (ms : List Prt) (lk : Int) (v5 : Option V), H' lr = some (.lst (rp.map V.ref)) ∧ Prts H' rp ms ∧ ms.length = i ∧ (∀ m ∈ ms, SmP c m) ∧ σ = [some (.ref a), some (.int c), some (.bl b), some (.ref lr), some (.int lk), v5])
    ⟨s0.trans s1, e1, [], [], 0, none, s1 _ _ e0, .nil, rfl, (fun m hm => by cases hm), rfl⟩ (fun i σ H' _ e => SqL.of e.2.1) ?_ ?_⟩
  · rintro i x σ H2 hx ⟨S2, l2, rp, ms, lk, v5, a2, R2, ml, sm, rfl⟩
    rw [List.getElem?_map] at hx
    obtain ⟨y, hy, rfl⟩ := Option.map_eq_some_iff.mp hx
    have iy : i < ys.length := (List.getElem?_eq_some_iff.mp hy).1
    have rl : rp.length = i := by rw [Paired.length R2, ml]
    refine ⟨_, rfl, .inl ⟨rfl, _, SqL.of a2⟩, _, rfl, _, _, rfl, rfl, ⟨by decide, by decide, by decide⟩, _, _, rfl, rfl, p12, _, rfl, _, rfl, _, rfl, blI (fun hb => ⟨_, c, true, rfl, c1, c6, ?_⟩) (fun hb => ⟨_, rfl, _, _, rfl, rfl, _, c, _, rfl, c1, c6, ?_⟩)⟩
    all_goals
      intro p m H3 S3 hp sp
      have a3 := S3 _ _ a2
      have R3 := R2.same S3
      refine ⟨lr, _, _, rfl, rfl, a3, (by rw [List.length_map]; exact Nat.lt_of_lt_of_le (show rp.length < 40000 by omega) (by decide)), ?_⟩
      have hp4 := PrtA.upd (ys := rp.map V.ref ++ [V.ref p]) hp a3
      obtain ⟨nm, xs, hd, _⟩ := prt_head hp4
      have a4 : upd H3 lr (.lst (rp.map V.ref ++ [V.ref p])) lr = some (.lst (rp.map V.ref ++ [V.ref p])) := upd_same
      refine ⟨_, rfl, _, rfl, _, rfl, lr, _, _, .ref p, rfl, rfl, SqL.of a4, at_last, p, _, _, .str nm, rfl, rfl, SqT.of hd, at_0 _ _, rfl, .inr ⟨_, rfl, _, _, rfl, rfl, ?_⟩⟩
      refine ⟨same_upd (S2.trans S3) hlr, (by rw [upd_ne ne]; exact S3 _ _ l2), rp ++ [p], ms ++ [m], _, _, (by rw [upd_same, List.map_append]; rfl), Prts.upd (Paired.snoc R3 hp) a3, by simp [ml], fun m' hm => ?_, rfl⟩
      rcases List.mem_append.mp hm with hm | hm
      · exact sm m' hm
      · rw [List.mem_singleton.mp hm]; exact sp
  · rintro σ H2 ⟨S2, l2, rp, ms, lk, v5, a2, R2, ml, sm, rfl⟩
    exact ⟨_, rfl, kq lr rp ms H2 hlr S2 a2 R2 sm (by rw [ml, List.length_map]; omega)⟩
end
end K95

set_option maxHeartbeats 1000000
namespace K95
open PySem PySem.Spec PyProof.Rows L2 Am Pc Ba M35
open Pt hiding kit_tt
open M24
theorem pbig : (0 : Int) < 2147483647 := by decide
theorem ls1 : (Str.ofString " ").length = 1 := by decide
theorem lc1 : (Str.ofString ":").length = 1 := by decide
theorem le1 : (Str.ofString ";").length = 1 := by decide
def spLine : Sp := fun vs H Q _ => ∃ (l : Addr) (rp : List Addr) (ms : List Prt) (c : Nat) (v : Int), vs = [.int c, .ref l, .int v] ∧ H l = some (.lst (rp.map V.ref)) ∧ Prts H rp ms ∧ (∀ m ∈ ms, SmP c m) ∧ ms.length ≤ 60 ∧ c ≤ 6 ∧ ∀ (z : Str) (H' : Hp), z.length ≤ 4000 → Same H H' → Q (.str z) H'
section
variable {P : Program} {w : World} {K : PySem.W.Frag} {mg : Str → Option Value} {base : Heap} {k : Nat} {h : Heap}
theorem sc_line : FnScope ["_law_cells", "_law_parts_here", "_law_cell", "_law_number", "_law_found", "_law_k", "_law_words_here"] ["_law_cells", "_law_parts_here", "_law_cell"] (defScope (top 46)) := ⟨rfl, rfl, rfl, by decide +kernel, rfl, by decide +kernel, by decide +kernel⟩
theorem ok_line (F : FunAt K "_law_line" (top 46) .none) (X : K.In h) (G : h.Ns mainGlobals mg) (B : Bs mg) (c__law_blanks : Cal P w K mg base k "_law_blanks" ["_law_cell"] spBlanks) (c__law_words : Cal P w K mg base k "_law_words" ["_law_part_here", "_law_cells"] spWordsL) : Cal P w K mg base (k + 1) "_law_line" ["_law_cells", "_law_parts_here", "_law_cell"] spLine := by
  have nd := sc_line.nd
  refine F.cal X G sc_line (bnd3 fun _ _ _ _ _ _ _ _ _ => rfl) (fun vs H Q E h => ?_) (fun f cdv A outer s H vs Q E hr h => ?_)
  · obtain ⟨l, rp, ms, c, v, rfl, _⟩ := h; rfl
  obtain ⟨l, rp, ms, c, v, rfl, hl, R, sm, m60, c6, kq⟩ := h
  have lp := Paired.length R
  have lrow : (rp.map V.ref).length = ms.length := by rw [List.length_map, lp]
  have lcc : (Str.ofString (toString (c : Int))).length = 1 := ts_one (a := (c : Int)) ⟨by omega, by omega⟩
  refine ⟨_, (@pss_cons _ _ _ _ _ (@ps_set _ _ 3 _ _ _ _ nd rfl (Or.inl rfl) (pe_op op_mod (pv 2) pe_int) rfl (.inl rfl))
    (@pss_cut _ _ _ _ _ (@ps_set _ _ 4 _ _ _ _ nd rfl (Or.inl rfl) (pe_op op_add_str (pe_op op_add_str (pe_op op_add_str (pe_cal c__law_blanks hr rfl (pa_cons (pv 3) pa_nil)) (pe_callTy call_str_int rfl B.str boot_str (pa_cons (pv 0) pa_nil))) (pe_cal c__law_blanks hr rfl (pa_cons (pe_op op_fdiv (pv 3) pe_int) pa_nil))) pe_str) rfl (.inl rfl))
    (@pss_cons _ _ _ _ _ (ps_for PassesOwn.never rfl (pi_range1 rfl B.range (pa_cons (pe_callB call_len_seq rfl B.len PySem.boot_len (pa_cons (pv 1) pa_nil)) pa_nil)) (pg_name (i := 5) nd rfl (Or.inl rfl))
      (@pss_cut _ _ _ _ _ (@ps_set _ _ 3 _ _ _ _ nd rfl (Or.inl rfl) (pe_op op_add (pe_op op_mod (pe_op op_mul (pv 3) pe_int) pe_int) (pv 5)) rfl (.inl rfl))
      (@pss_cut _ _ _ _ _ (@ps_set _ _ 6 _ _ _ _ nd rfl (Or.inl rfl) (pe_bm PySem.F.plainAttrs_str PySem.F.slot_str_join PySem.F.type_str_join mt_join (pe_op op_add_str pe_str (pe_cal c__law_blanks hr rfl (pa_cons (pv 3) pa_nil))) (pa_cons (pe_cal c__law_words hr rfl (pa_cons (pe_ix ix_list (pv 1) (pv 5) (fun _ _ => rfl)) (pa_cons (pv 0) pa_nil))) pa_nil)) rfl (.inl rfl))
      (@pss_cons _ _ _ _ _ (@ps_set _ _ 4 _ _ _ _ nd rfl (Or.inl rfl) (pe_op op_add_str (pe_op op_add_str (pe_op op_add_str (pv 4) (pe_cal c__law_blanks hr rfl (pa_cons (pe_op op_fdiv (pv 3) pe_int) pa_nil))) (pv 6)) (pe_cal c__law_blanks hr rfl (pa_cons (pe_op op_fdiv (pv 3) pe_int) pa_nil))) rfl (.inl rfl))
      (@pss_one _ _ _ (ps_if (pt_cmpR op_lt (pe_op op_add (pv 5) pe_int) (pe_callB call_len_seq rfl B.len PySem.boot_len (pa_cons (pv 1) pa_nil)) (nomark _))
        (@pss_one _ _ _ (@ps_set _ _ 4 _ _ _ _ nd rfl (Or.inl rfl) (pe_op op_add_str (pv 4) pe_str) rfl (.inl rfl)))
        pss_nil))))))
    (@pss_one _ _ _ (ps_ret (pv 4)))))), ?_⟩
  try dsimp only [cxK]
  refine ⟨_, rfl, _, _, rfl, rfl, pbig, ?_⟩
  refine ⟨fun σ H' => Same H H' ∧ ∃ (n : Int) (z : Str), z.length ≤ 8 ∧ σ = [some (.int c), some (.ref l), some (.int v), some (.int n), some (.str z), none, none], ?_, ?_⟩
  · refine ⟨_, rfl, _, rfl, fun z1 H1 hz1 S1 => ⟨_, rfl, c, rfl, log6 c6, _, _, rfl, rfl, small (by rw [lcc]; omega), _, rfl, _, _, rfl, rfl, ⟨by decide, by decide⟩, _, rfl, fun z2 H2 hz2 S2 => ?_⟩⟩
    have e1 : (z1 ++ Str.ofString (toString (c : Int))).length = z1.length + 1 := by rw [app_len, lcc]
    refine ⟨_, _, rfl, rfl, small (by rw [e1]; omega), ?_⟩
    have e2 : (z1 ++ Str.ofString (toString (c : Int)) ++ z2).length = z1.length + 1 + z2.length := by rw [app_len, e1]
    refine ⟨_, _, rfl, rfl, small (by rw [e2, lc1]; omega), S1.trans S2, _, _, ?_, rfl⟩
    rw [app_len, e2, lc1]
    omega
  rintro σ1 H1 ⟨S1, n, z, hz, rfl⟩
  refine ⟨_, rfl, l, _, rfl, .inl (SqL.of (S1 _ _ hl)), ms.length, (by rw [lrow]), by omega, by omega, for_range (n := ms.length) (fun i σ H' => Same H H' ∧ ∃ (n : Int) (z : Str) (v5 v6 : Option V), z.length ≤ 8 + 51 * i ∧ σ = [some (.int c), some (.ref l), some (.int v), some (.int n), some (.str z), v5, v6])
    ⟨S1, n, z, none, none, by omega, rfl⟩ ?_ ?_⟩
  · rintro i σ H2 hi ⟨S2, n, z, v5, v6, hz, rfl⟩
    have em := List.getElem?_eq_getElem hi
    obtain ⟨p, ip, hp⟩ := prts_get R em
    have smi := sm _ (List.getElem_mem hi)
    generalize ms[i] = m at *
    have atp : atI (rp.map V.ref) (0 + (i : Int)) = some (.ref p) := by rw [Int.zero_add]; exact atI_nat (by rw [List.getElem?_map, ip]; rfl)
    refine ⟨fun σ H' => H' = H2 ∧ ∃ n : Int, σ = [some (.int c), some (.ref l), some (.int v), some (.int n), some (.str z), some (.int (0 + (i : Int))), v6], ⟨_, rfl, _, _, rfl, rfl, .inr ⟨by decide, by decide⟩, _, _, rfl, rfl, pbig, _, rfl, _, _, rfl, rfl, rfl, _, rfl⟩, ?_⟩
    rintro σ3 H3 ⟨rfl, n3, rfl⟩
    refine ⟨fun σ H' => Same H H' ∧ ∃ (y : Str), y.length ≤ 44 ∧ σ = [some (.int c), some (.ref l), some (.int v), some (.int n3), some (.str z), some (.int (0 + (i : Int))), some (.str y)], ?_, ?_⟩
    · refine ⟨_, rfl, _, rfl, fun z1 H4 hz1 S4 => ⟨_, _, rfl, rfl, small (by rw [ls1]; omega), rfl, ?_⟩⟩
      have S24 := S2.trans S4
      refine ⟨_, rfl, _, rfl, l, _, _, .ref p, rfl, rfl, SqL.of (S24 _ _ hl), atp, _, rfl, p, m, c, rfl, hp.same S24, smi, c6, fun lw ts H5 tl t7 S5 hw => ?_⟩
      have e1 : (Str.ofString " " ++ z1).length = 1 + z1.length := by rw [app_len, ls1]
      have bd : ts.length * (Str.ofString " " ++ z1).length ≤ 4 * 4 := Nat.mul_le_mul tl (by omega)
      have js := join_small (sep := Str.ofString " " ++ z1) t7 (by omega)
      refine ⟨_, lw, ts, rfl, rfl, SqL.of hw, js.1, S24.trans S5, _, Nat.le_trans js.2 (by omega), rfl⟩
    rintro σ4 H4 ⟨S4, y, hy, rfl⟩
    refine ⟨_, rfl, _, rfl, _, _, rfl, rfl, ⟨by decide, by decide⟩, _, rfl, fun z1 H5 hz1 S5 => ⟨_, _, rfl, rfl, small (by omega), _, rfl, ?_⟩⟩
    have e1 : (z ++ z1).length = z.length + z1.length := app_len _ _
    refine ⟨_, _, rfl, rfl, small (by rw [e1]; omega), _, rfl, _, _, rfl, rfl, ⟨by decide, by decide⟩, _, rfl, fun z2 H6 hz2 S6 => ?_⟩
    have e2 : (z ++ z1 ++ y).length = z.length + z1.length + y.length := by rw [app_len, e1]
    refine ⟨_, _, rfl, rfl, small (by rw [e2]; omega), ?_⟩
    have e3 : (z ++ z1 ++ y ++ z2).length = z.length + z1.length + y.length + z2.length := by rw [app_len, e2]
    have S46 := S4.trans (S5.trans S6)
    generalize z ++ z1 ++ y ++ z2 = zz at *
    refine ⟨_, rfl, _, _, rfl, rfl, _, rfl, l, _, rfl, .inl (SqL.of (S46 _ _ hl)), _, _, rfl, rfl, _, rfl, decI (fun _ => ?_) (fun _ => ?_)⟩
    · refine ⟨_, rfl, _, _, rfl, rfl, small (by rw [le1]; omega), S46, _, _, _, _, ?_, rfl⟩
      rw [app_len, le1]
      omega
    · exact ⟨S46, _, _, _, _, by omega, rfl⟩
  · rintro σ H2 ⟨S2, n, z, v5, v6, hz, rfl⟩
    exact ⟨_, rfl, kq z H2 (by omega) S2⟩
end
end K95

set_option maxHeartbeats 1000000
namespace K95
open PySem PySem.Spec PyProof.Rows L2 Am Pc Ba M35
open Pt hiding kit_tt
open M24
def MkV (H : Hp) (v : V) : Option (Nat × Nat × Nat) → Prop
  | none => v = .non
  | some (q, f, s) => ∃ p, v = .ref p ∧ H p = some (M3 q f s)
def spRdMark : Sp := fun vs H Q _ => ∃ (z : Str) (c : Nat), vs = [.str z, .int c] ∧ Fine z ∧ 1 ≤ c ∧ c ≤ 6 ∧ ∀ (v : V) (H' : Hp), Same H H' → MkV H' v (lookOf c z) → Q v H'
theorem look_len {c : Nat} {z : Str} (h : z.length ≠ c + 1) : lookOf c z = none := by
  unfold lookOf
  cases e : z.cps.toList with
  | nil => unfold due; rw [e]
  | cons c0 cs =>
    have ln : z.length = cs.length + 1 := by
      have : z.cps.toList.length = z.length := by simp [Str.length]
      rw [← this, e]; rfl
    rw [due_of e]
    split
    · rename_i q f s n h2
      split at h2
      · split at h2
        · injection h2 with h2
          injection h2 with _ h2
          injection h2 with _ h2
          injection h2 with _ h2
          exact if_neg (by omega)
        · cases h2
      · cases h2
    · rfl
theorem look_of {c : Nat} {z : Str} {c0 : Nat} {cs : List Nat} (e : z.cps.toList = c0 :: cs) (hc : cs.length = c) (h1 : 1 ≤ c) (h6 : c ≤ 6) : lookOf c z = if c0 = 43 ∨ c0 = 45 then (rd cs).map (fun x => ((pc (x.1 &&& x.2) + (if c0 = 45 then 2 else 0)) % 4, x.1, x.2)) else none := by
  unfold lookOf
  rw [due_of e]
  by_cases hp : c0 = 43 ∨ c0 = 45
  · rw [if_pos ⟨by omega, hp⟩, if_pos hp]
    cases hr : rd cs with
    | none => rfl
    | some x => obtain ⟨f, s⟩ := x; exact if_pos hc
  · rw [if_neg (fun h => hp h.2), if_neg hp]
section
variable {P : Program} {w : World} {K : PySem.W.Frag} {mg : Str → Option Value} {base : Heap} {k : Nat} {h : Heap}
theorem sc_rdmark : FnScope ["_law_text", "_law_cells", "_law_q", "_law_f", "_law_s", "_law_k", "_law_letter"] ["_law_text", "_law_cells"] (defScope (top 48)) := ⟨rfl, rfl, rfl, by decide +kernel, rfl, by decide +kernel, by decide +kernel⟩
theorem ok_rdmark (F : FunAt K "_law_read_mark" (top 48) .none) (X : K.In h) (G : h.Ns mainGlobals mg) (B : Bs mg) : Cal P w K mg base (k + 1) "_law_read_mark" ["_law_text", "_law_cells"] spRdMark := by
  have nd := sc_rdmark.nd
  refine F.cal X G sc_rdmark (bnd2 fun _ _ _ _ _ _ _ _ => rfl) (fun vs H Q E h => ?_) (fun f cdv A outer s H vs Q E hr h => ?_)
  · obtain ⟨z, c, rfl, _⟩ := h; rfl
  obtain ⟨z, c, rfl, fz, c1, c6, kq⟩ := h
  have hz' := fine_sz fz
  refine ⟨_, (@pss_cons _ _ _ _ _ (ps_if (PW.pt (pw_or (pt_cmpR op_ne (pe_callB call_len_str rfl B.len PySem.boot_len (pa_cons (pv 0) pa_nil)) (pe_op op_add (pv 1) pe_int) (nomark _)) (pw_or1 (pt_cmpR op_notIn_str (pe_ix ix_str (pv 0) pe_int (fun _ _ => rfl)) pe_str rfl))))
      (@pss_one _ _ _ (ps_ret pe_non))
      pss_nil)
    (@pss_cons _ _ _ _ _ (@ps_set _ _ 2 _ _ _ _ nd rfl (Or.inl rfl) (pe_op op_mul pe_int (pe_callTy call_int1 rfl B.int boot_int (pa_cons (pe_cmpR op_eq (pe_ix ix_str (pv 0) pe_int (fun _ _ => rfl)) pe_str (nomark _)) pa_nil))) rfl (.inl rfl))
    (@pss_cons _ _ _ _ _ (@ps_set _ _ 3 _ _ _ _ nd rfl (Or.inl rfl) pe_int rfl (.inl rfl))
    (@pss_cons _ _ _ _ _ (@ps_set _ _ 4 _ _ _ _ nd rfl (Or.inl rfl) pe_int rfl (.inl rfl))
    (@pss_cons _ _ _ _ _ (ps_for PassesOwn.never rfl (pi_range1 rfl B.range (pa_cons (pv 1) pa_nil)) (pg_name (i := 5) nd rfl (Or.inl rfl))
      (@pss_cons _ _ _ _ _ (ps_if (pt_cmpR op_notIn_str (pe_ix ix_str (pv 0) (pe_op op_add pe_int (pv 5)) (fun _ _ => rfl)) pe_str rfl)
        (@pss_one _ _ _ (ps_ret pe_non))
        pss_nil)
      (@pss_cons _ _ _ _ _ (@ps_set _ _ 6 _ _ _ _ nd rfl (Or.inl rfl) (pe_bm PySem.F.plainAttrs_str PySem.F.slot_str_find PySem.F.type_str_find mt_find pe_str (pa_cons (pe_ix ix_str (pv 0) (pe_op op_add pe_int (pv 5)) (fun _ _ => rfl)) pa_nil)) rfl (.inl rfl))
      (@pss_cons _ _ _ _ _ (@ps_set _ _ 3 _ _ _ _ nd rfl (Or.inl rfl) (pe_op op_add (pv 3) (pe_op op_mulG (pe_op op_mod (pv 6) pe_int) (@pe_ix _ _ _ _ _ _ _ ix_list (@pe_lst _ _ _ _ (@pa_cons _ _ _ _ _ pe_int (@pa_cons _ _ _ _ _ pe_int (@pa_cons _ _ _ _ _ pe_int (@pa_cons _ _ _ _ _ pe_int (@pa_cons _ _ _ _ _ pe_int (@pa_cons _ _ _ _ _ pe_int pa_nil rfl) rfl) rfl) rfl) rfl) rfl)) (pv 5) (fun _ _ => rfl)))) rfl (.inl rfl))
      (@pss_cons _ _ _ _ _ (@ps_set _ _ 4 _ _ _ _ nd rfl (Or.inl rfl) (pe_op op_add (pv 4) (pe_op op_mulG (pe_op op_fdiv (pv 6) pe_int) (@pe_ix _ _ _ _ _ _ _ ix_list (@pe_lst _ _ _ _ (@pa_cons _ _ _ _ _ pe_int (@pa_cons _ _ _ _ _ pe_int (@pa_cons _ _ _ _ _ pe_int (@pa_cons _ _ _ _ _ pe_int (@pa_cons _ _ _ _ _ pe_int (@pa_cons _ _ _ _ _ pe_int pa_nil rfl) rfl) rfl) rfl) rfl) rfl)) (pv 5) (fun _ _ => rfl)))) rfl (.inl rfl))
      (@pss_one _ _ _ (@ps_set _ _ 2 _ _ _ _ nd rfl (Or.inl rfl) (pe_op op_add (pv 2) (pe_op op_fdiv (pv 6) pe_int)) rfl (.inl rfl))))))))
    (@pss_one _ _ _ (ps_ret (@pe_tup _ _ _ _ _ (pa_cons (pe_op op_mod (pv 2) pe_int) (pa_cons (pv 3) (pa_cons (pv 4) pa_nil))))))))))), ?_⟩
  try dsimp only [cxK]
  refine ⟨_, rfl, z, rfl, hz', _, rfl, _, _, rfl, rfl, rfl, _, rfl, neI (fun e => ?_) (fun e => ?_)⟩
  · exact kq .non H (Same.refl _) (by rw [look_len (fun q => e (by rw [q]; rfl))]; rfl)
  have zl : z.length = c + 1 := by omega
  obtain ⟨c0, cs, ez, ln⟩ := parts (z := z) (by omega)
  have cl : cs.length = c := by omega
  have lk := look_of ez cl c1 c6
  have at0 : atI z.cps.toList 0 = some c0 := at_nat (i := 0) (by rw [ez]; rfl)
  refine ⟨_, rfl, z, 0, c0, rfl, rfl, hz', at0, _, _, rfl, rfl, _, rfl, nblI (fun e => ?_) (fun e => ?_)⟩
  · have e' := (in_pm c0).symm.trans e
    exact kq .non H (Same.refl _) (by rw [lk, if_neg (of_decide_eq_false e')]; rfl)
  have pm : c0 = 43 ∨ c0 = 45 := of_decide_eq_true ((in_pm c0).symm.trans e)
  rw [if_pos pm] at lk
  refine ⟨_, rfl, z, 0, c0, rfl, rfl, hz', at0, rfl, .inr ⟨_, rfl, _, _, rfl, rfl, .inl ⟨by decide, by decide⟩, ?_⟩⟩
  have eab : (2 : Int) * (if decide (V.str ⟨#[c0]⟩ = V.str (Str.ofString "-")) = true then 1 else 0) = ((2 * (if c0 = 45 then 1 else 0) : Nat) : Int) := by
    have dd : decide (V.str ⟨#[c0]⟩ = V.str (Str.ofString "-")) = decide (c0 = 45) := dash c0
    rw [dd]
    by_cases h : c0 = 45
    · rw [decide_eq_true h, if_pos h]; rfl
    · rw [decide_eq_false h, if_neg h]; rfl
  obtain ⟨ab, hab⟩ : ∃ ab : Nat, ab = if c0 = 45 then 1 else 0 := ⟨_, rfl⟩
  rw [← hab] at eab
  refine ⟨_, rfl, c, rfl, by omega, by omega, for_range (n := c) (fun i σ H' => Same H H' ∧ ∃ (f s : Nat) (q' F S : Int) (v5 v6 : Option V), rd (cs.take i) = some (f, s) ∧ q' = ((pc (f &&& s) + 2 * ab : Nat) : Int) ∧ F = f ∧ S = s ∧ σ = [some (.str z), some (.int c), some (.int q'), some (.int F), some (.int S), v5, v6])
    ⟨Same.refl _, 0, 0, _, 0, 0, none, none, rfl, (by rw [eab]; have : pc (0 &&& 0) = 0 := by decide +kernel
                                                      rw [this, Nat.zero_add]), rfl, rfl, rfl⟩ ?_ ?_⟩
  · rintro i σ H1 hi ⟨S1, f, g, q', F, S, v5, v6, er, eq, rfl, rfl, rfl⟩
    have hc : cs[i]? = some cs[i] := List.getElem?_eq_getElem (by omega)
    generalize cs[i] = ch at hc
    have ata : atI z.cps.toList (1 + (0 + (i : Int))) = some ch := by
      rw [show (1 : Int) + (0 + (i : Int)) = ((i + 1 : Nat) : Int) by omega]
      exact at_nat (by rw [ez]; exact hc)
    refine ⟨_, rfl, _, rfl, _, _, rfl, rfl, z, _, ch, rfl, rfl, hz', ata, _, _, rfl, rfl, _, rfl, nblI (fun e => ?_) (fun e => ?_)⟩
    · have e' := (in_four ch).symm.trans e
      have hs : sgn ch = none := by cases q : sgn ch with | none => rfl | some d => rw [q] at e'; cases e'
      exact kq .non H1 S1 (by rw [lk, rd_cut hc hs]; rfl)
    have e' := (in_four ch).symm.trans e
    obtain ⟨d, hs⟩ := Option.isSome_iff_exists.mp e'
    have fs := find_sgn ch
    rw [hs] at fs
    have fs' : Txt.find (Str.ofString ".fsb") ⟨#[ch]⟩ = (d : Int) := fs
    have d4 := sgn_lt hs
    have e2 := rd_next hc hs er
    obtain ⟨bf, bs⟩ := rd_lt er
    rw [List.length_take, Nat.min_eq_left (by omega)] at bf bs
    have hp := pow_at (i := i) (by omega)
    have i6 : i < 6 := by omega
    have sp : Sz 7 ((2 ^ i : Nat) : Int) := by
      have : i = 0 ∨ i = 1 ∨ i = 2 ∨ i = 3 ∨ i = 4 ∨ i = 5 := by omega
      rcases this with rfl | rfl | rfl | rfl | rfl | rfl <;> decide
    have sa : Sz 3 ((d : Int) % 2) := Sz.of_bound (b := 4) (by omega) (by omega) (by decide)
    have sb : Sz 3 ((d : Int) / 2) := Sz.of_bound (b := 4) (by omega) (by omega) (by decide)
    refine ⟨rfl, _, rfl, _, rfl, _, _, rfl, rfl, z, _, ch, rfl, rfl, hz', ata, _, _, rfl, rfl, ?_⟩
    rw [fs']
    refine ⟨_, rfl, _, rfl, _, _, rfl, rfl, p2, (show 6 ≤ sizeLine by decide), fun l1 h1 => ⟨_, rfl, l1, _, _, _, rfl, rfl, SqL.of upd_same, hp, _, _, rfl, rfl, ⟨_, _, sa, sp, by decide⟩, _, _, rfl, rfl, ?_⟩⟩
    have s1 := same_new h1 (.lst ([1, 2, 4, 8, 16, 32].map V.int))
    refine ⟨_, rfl, _, rfl, _, _, rfl, rfl, ⟨by decide, by decide⟩, (show 6 ≤ sizeLine by decide), fun l2 h2 => ⟨_, rfl, l2, _, _, _, rfl, rfl, SqL.of upd_same, hp, _, _, rfl, rfl, ⟨_, _, sb, sp, by decide⟩, _, _, rfl, rfl, ?_⟩⟩
    have s2 := same_new h2 (.lst ([1, 2, 4, 8, 16, 32].map V.int))
    refine ⟨_, rfl, _, rfl, _, _, rfl, rfl, ⟨by decide, by decide⟩, _, _, rfl, rfl, S1.trans (s1.trans s2), f + d % 2 * 2 ^ i, g + d / 2 * 2 ^ i, _, _, _, _, _, e2, ?_, ?_, ?_, rfl⟩
    · rw [pc_and_top i bf bs (by omega) (by omega), eq]
      show ((pc (f &&& g) + 2 * ab : Nat) : Int) + (d : Int) / 3 = _
      have : d = 0 ∨ d = 1 ∨ d = 2 ∨ d = 3 := by omega
      rcases this with rfl | rfl | rfl | rfl <;> simp <;> omega
    · show (f : Int) + (d : Int) % 2 * ((2 ^ i : Nat) : Int) = _
      push_cast
      rfl
    · show (g : Int) + (d : Int) / 2 * ((2 ^ i : Nat) : Int) = _
      push_cast
      rfl
  · rintro σ H1 ⟨S1, f, g, q', F, S, v5, v6, er, eq, rfl, rfl, rfl⟩
    rw [← cl, List.take_length] at er
    refine ⟨_, rfl, _, _, rfl, rfl, p4, _, rfl, _, rfl, (show 3 ≤ sizeLine by decide), fun p hp => ?_⟩
    refine kq (.ref p) _ (S1.trans (same_new hp _)) ?_
    rw [lk, er]
    refine ⟨p, rfl, ?_⟩
    rw [upd_same, eq]
    have : (pc (f &&& g) + 2 * ab) % 4 = (pc (f &&& g) + (if c0 = 45 then 2 else 0)) % 4 := by rw [hab]; split <;> rfl
    rw [← this]
    rfl
end
end K95

/-! a text stripped of blanks against its words -/
namespace M95
open PySem PySem.Builtin.Str L2 M35
abbrev isb (c : Nat) : Bool := c == 32
abbrev nb (l : List Nat) : List Nat := l.filter fun c => !isb c
theorem nb_drop : ∀ l : List Nat, nb (l.dropWhile isb) = nb l
  | [] => rfl
  | a :: l => by
    cases h : isb a with
    | true => rw [List.dropWhile_cons_of_pos h, nb_drop l]; show nb l = List.filter _ (a :: l); rw [List.filter_cons_of_neg (by rw [h]; decide)]
    | false => rw [List.dropWhile_cons_of_neg (by rw [h]; decide)]
theorem nb_rev (l : List Nat) : nb l.reverse = (nb l).reverse := List.filter_reverse ..
def core (l : List Nat) : List Nat := ((l.dropWhile isb).reverse.dropWhile isb).reverse
theorem nb_core (l : List Nat) : nb (core l) = nb l := by
  unfold core
  rw [nb_rev, nb_drop, nb_rev, List.reverse_reverse, nb_drop]
theorem drop_head {l r : List Nat} {a : Nat} (h : l.dropWhile isb = a :: r) : isb a = false := by
  cases e : isb a with
  | false => rfl
  | true =>
    have := List.head_dropWhile_not (p := isb) (l := l) (by rw [h]; simp)
    simp only [h, List.head_cons] at this
    rw [e] at this
    cases this
theorem core_one {l : List Nat} {c : Nat} (h : nb l = [c]) : core l = [c] := by
  rw [← nb_drop] at h
  unfold core
  cases hD : l.dropWhile isb with
  | nil => rw [hD] at h; cases h
  | cons d D =>
    rw [hD] at h
    have hd := drop_head hD
    have e0 : nb (d :: D) = d :: nb D := List.filter_cons_of_pos (by rw [hd]; rfl)
    rw [e0] at h
    injection h with h1 h2
    subst h1
    have all : ∀ x ∈ D, isb x = true := fun x hx => by
      cases e : isb x with
      | true => rfl
      | false =>
        have : x ∈ nb D := List.mem_filter.mpr ⟨hx, by rw [e]; rfl⟩
        rw [h2] at this
        cases this
    rw [List.reverse_cons]
    have e1 : (D.reverse ++ [d]).dropWhile isb = [d] := by
      have : ∀ (l : List Nat), (∀ x ∈ l, isb x = true) → (l ++ [d]).dropWhile isb = [d] := by
        intro l
        induction l with
        | nil => intro _; exact List.dropWhile_cons_of_neg (by rw [hd]; decide)
        | cons a l ih =>
          intro h
          rw [List.cons_append, List.dropWhile_cons_of_pos (h a (by simp))]
          exact ih fun x hx => h x (List.mem_cons_of_mem _ hx)
      exact this _ fun x hx => all x (List.mem_reverse.mp hx)
    rw [e1]
    rfl
theorem dw_len {p : Nat → Bool} : ∀ l : List Nat, l.drop (l.takeWhile p).length = l.dropWhile p
  | [] => rfl
  | a :: l => by
    by_cases h : p a = true
    · rw [List.takeWhile_cons_of_pos h, List.dropWhile_cons_of_pos h, List.length_cons, List.drop_succ_cons, dw_len l]
    · rw [List.takeWhile_cons_of_neg h, List.dropWhile_cons_of_neg h]; rfl
theorem take_rev (l : List Nat) (t : Nat) : l.take (l.length - t) = (l.reverse.drop t).reverse := by
  rw [List.drop_reverse, List.reverse_reverse]
theorem strip_core (z : Str) : cl (Txt.stripChars z " ") = core (cl z) := by
  have g : (Str.ofString " ").cps.contains = isb := by
    funext c
    rw [sp_eq]
    show (#[32] : Array Nat).contains c = (c == 32)
    rw [Bool.eq_iff_iff]
    simp
  have ln : (cl z).length = z.length := by simp [Str.length]
  have key : (cl z).dropWhile isb = (cl z).drop ((cl z).takeWhile isb).length := (dw_len _).symm
  have form : List.take (z.length - (((cl z).dropWhile isb).reverse.takeWhile isb).length - ((cl z).takeWhile isb).length) ((cl z).dropWhile isb) = core (cl z) := by
    have el : z.length - (((cl z).dropWhile isb).reverse.takeWhile isb).length - ((cl z).takeWhile isb).length = ((cl z).dropWhile isb).length - (((cl z).dropWhile isb).reverse.takeWhile isb).length := by
      rw [key, List.length_drop, ln]
      omega
    rw [el, take_rev]
    unfold core
    rw [dw_len]
  unfold Txt.stripChars Txt.stripBy
  rw [g]
  split
  · rename_i hs
    unfold stripSame at hs
    simp only [stripLo, stripHi, if_true, Bool.and_eq_true, beq_iff_eq] at hs
    obtain ⟨h1, h2⟩ := hs
    have h1 : ((cl z).takeWhile isb).length = 0 := h1
    have e0 : (cl z).dropWhile isb = cl z := by rw [key, h1]; rfl
    rw [e0, h1] at form
    have h2 : z.length - (((cl z).drop ((cl z).takeWhile isb).length).reverse.takeWhile isb).length = z.length := h2
    rw [h1] at h2
    have h2 : z.length - ((cl z).reverse.takeWhile isb).length = z.length := h2
    rw [h2, Nat.sub_zero, ← ln, List.take_length] at form
    exact form
  · show (stripped isb true true z).cps.toList = _
    unfold stripped
    rw [StrLaws.strSub_toList]
    simp only [stripLo, stripHi, if_true]
    rw [← form, key]
theorem nb_free {l : List Nat} (h : 32 ∉ l) : nb l = l := List.filter_eq_self.mpr fun x hx => by
  have : x ≠ 32 := fun e => h (e ▸ hx)
  simp [isb, this]
theorem nb_jn : ∀ ps : List (List Nat), (∀ p ∈ ps, 32 ∉ p) → nb (jn 32 ps) = ps.flatMap id
  | [], _ => rfl
  | [p], h => by
    show nb p = p ++ []
    rw [nb_free (h p (by simp)), List.append_nil]
  | p :: q :: r, h => by
    show nb (p ++ 32 :: jn 32 (q :: r)) = p ++ (q :: r).flatMap id
    have e : nb (p ++ 32 :: jn 32 (q :: r)) = nb p ++ nb (32 :: jn 32 (q :: r)) := List.filter_append ..
    have e2 : nb (32 :: jn 32 (q :: r)) = nb (jn 32 (q :: r)) := List.filter_cons_of_neg (by decide)
    rw [e, e2, nb_free (h p (by simp)), nb_jn (q :: r) fun x hx => h x (List.mem_cons_of_mem _ hx)]
theorem words_nb (z : Str) : (wds z).flatMap cl = nb (cl z) := by
  have fr : ∀ p ∈ Txt.split z ⟨#[32]⟩, 32 ∉ cl p := fun p hp => StrLaws.split_free z 32 p hp
  have e : cl z = jn 32 ((Txt.split z ⟨#[32]⟩).map cl) := by rw [← cl_join, StrLaws.join_split]
  rw [e, nb_jn _ (fun p hp => by obtain ⟨q, hq, rfl⟩ := List.mem_map.mp hp; exact fr q hq)]
  unfold wds
  rw [sp_eq]
  generalize Txt.split z ⟨#[32]⟩ = ps
  induction ps with
  | nil => rfl
  | cons p r ih =>
    rw [List.map_cons, List.flatMap_cons, ← ih]
    cases hn : ne0 p with
    | true => rw [List.filter_cons_of_pos hn, List.flatMap_cons]; rfl
    | false =>
      rw [List.filter_cons_of_neg (by rw [hn]; decide)]
      show _ = cl p ++ _
      rw [show cl p = [] from ne0_nil hn, List.nil_append]
theorem strip_one {z : Str} {c : Nat} (hc : c ≠ 32) : Txt.stripChars z " " = ⟨#[c]⟩ ↔ wds z = [⟨#[c]⟩] := by
  constructor
  · intro h
    have e := strip_core z
    rw [h] at e
    have e2 := words_nb z
    rw [← nb_core, ← e] at e2
    have e3 : nb (cl (⟨#[c]⟩ : Str)) = [c] := by
      show nb [c] = [c]
      exact List.filter_cons_of_pos (by simp [isb, hc])
    rw [e3] at e2
    have ne : ∀ w ∈ wds z, cl w ≠ [] := fun w hw he => by
      have := (List.mem_filter.mp hw).2
      rw [ne0_of he] at this
      cases this
    generalize wds z = ws at e2 ne
    match ws, e2, ne with
    | [], e2, _ => cases e2
    | w :: r, e2, ne =>
      rw [List.flatMap_cons] at e2
      have w0 := ne w (by simp)
      match hw : cl w, w0 with
      | a :: t, _ =>
        rw [hw] at e2
        injection e2 with h1 h2
        have ht := List.append_eq_nil_iff.mp h2
        have hr : r = [] := by
          match r, ne, ht.2 with
          | [], _, _ => rfl
          | x :: r, ne, h => rw [List.flatMap_cons] at h; exact absurd (List.append_eq_nil_iff.mp h).1 (ne x (by simp))
        rw [hr, show w = ⟨#[c]⟩ from cl_inj (by rw [hw, ht.1, h1])]
  · intro h
    have e2 := words_nb z
    rw [h] at e2
    have e2 : [c] = nb (cl z) := e2
    apply cl_inj
    rw [strip_core, core_one e2.symm]
end M95

set_option maxHeartbeats 1000000
namespace K95
open PySem PySem.Spec PyProof.Rows L2 Am Pc Ba M35
open Pt hiding kit_tt
open M24
theorem head_strip (a : Str) : figC (Txt.stripChars a " ") = match wds a with | [w] => figC w | _ => none := by
  cases h : figC (Txt.stripChars a " ") with
  | some n =>
    have e := fig_of (figC_some h).1
    have hw := (M95.strip_one (z := a) (c := n + 48) (by omega)).mp e
    rw [hw]
    show some n = figC _
    rw [← e, h]
  | none =>
    split
    · rename_i w hw
      cases h2 : figC w with
      | none => rfl
      | some n =>
        have e := fig_of (figC_some h2).1
        rw [e] at hw
        have := (M95.strip_one (z := a) (c := n + 48) (by omega)).mpr hw
        rw [this, ← e, h2] at h
        exact h.symm
    · rfl
theorem in_cells {w : Str} (h : w.length = 1) : inS "123456" w = (figC w).isSome := by
  obtain ⟨c, rfl⟩ := one_of h
  unfold inS
  rw [StrLaws.found_one]
  have e : (Str.ofString "123456").cps.toList = [49, 50, 51, 52, 53, 54] := by decide
  rw [e]
  have ef : fig ⟨#[c]⟩ = if 48 ≤ c ∧ c ≤ 57 then some (c - 48) else none := rfl
  unfold figC
  rw [ef, Bool.eq_iff_iff]
  by_cases q : 48 ≤ c ∧ c ≤ 57
  · rw [if_pos q]
    by_cases q2 : 1 ≤ c - 48 ∧ c - 48 ≤ 6
    · simp only [if_pos q2]; simp; omega
    · simp only [if_neg q2]; simp; omega
  · rw [if_neg q]
    simp
    omega
theorem fig_len {w : Str} (h : w.length ≠ 1) : figC w = none := by unfold figC; rw [fig_none h]
def spRdPart : Sp := fun vs H Q _ => ∃ z c, vs = [.str z, .int ((c : Nat) : Int)] ∧ Fine z ∧ 1 ≤ c ∧ c ≤ 6 ∧ ∀ (v : V) (H' : Hp), Same H H' → PrtV H' v (ptOf c z) → Q v H'
def spDueL (K : PySem.W.Frag) : Sp := fun vs H Q _ => ∃ v : V, vs = [v] ∧
  ((∃ t, TyOf K H v t ∧ PySem.W.kitOne K t (.type "str") = some false ∧ ∀ (p : Addr) (H' : Hp), Same H H' → H' p = some (.tup [.non, .int 0]) → Q (.ref p) H') ∨
   ∃ z, v = .str z ∧ Fine z ∧ (∀ (p : Addr) (v' : V) (c : Nat) (ms : List Prt) (H' : Hp), playOf z = .ok (c, ms) → Same H H' → H' p = some (.tup [v', .int 0]) → Play H' v' c ms → Q (.ref p) H') ∧
     (∀ (p : Addr) (i : Nat) (H' : Hp), playOf z = .error i → Same H H' → H' p = some (.tup [.non, .int ((i : Nat) : Int)]) → Q (.ref p) H'))
section
variable {P : Program} {w : World} {K : PySem.W.Frag} {mg : Str → Option Value} {base : Heap} {k : Nat} {h : Heap}
theorem sc_duel : FnScope ["_law_line_here", "_law_head", "_law_colon", "_law_tail", "_law_found", "_law_looks", "_law_parts_here", "_law_k", "_law_part_here"] ["_law_line_here"] (defScope (top 50)) := ⟨rfl, rfl, rfl, by decide +kernel, rfl, by decide +kernel, by decide +kernel⟩
theorem ok_duel (F : FunAt K "_law_due" (top 50) .none) (X : K.In h) (G : h.Ns mainGlobals mg) (B : Bs mg) (c__law_read_part : Cal P w K mg base k "_law_read_part" ["_law_part_here", "_law_cells"] spRdPart) : Cal P w K mg base (k + 1) "_law_due" ["_law_line_here"] (spDueL K) := by
  have nd := sc_duel.nd
  refine F.cal X G sc_duel (bnd1 fun _ _ _ _ _ _ _ => rfl) (fun vs H Q E h => ?_) (fun f cdv A outer s H vs Q E hr h => ?_)
  · obtain ⟨v, rfl, _⟩ := h; rfl
  obtain ⟨v, rfl, hv⟩ := h
  refine ⟨_, (@pss_cons _ _ _ _ _ (ps_if (pt_not (pt_val (pe_callB call_isinst rfl B.isinstance boot_isinstance (pa_cons (pv 0) (pa_cons (pe_bltn (v := .ty "str") rfl B.str boot_str rfl) pa_nil)))))
      (@pss_one _ _ _ (ps_ret (@pe_tup _ _ _ _ _ (pa_cons pe_non (pa_cons pe_int pa_nil)))))
      pss_nil)
    (@pss_cons _ _ _ _ _ (ps_asg (pe_bm PySem.F.plainAttrs_str PySem.F.slot_str_partition PySem.F.type_str_partition mt_part (pv 0) (pa_cons pe_str pa_nil)) (pg_tup rfl (pgs_cons (pg_name (i := 1) nd rfl (Or.inl rfl)) (pgs_cons (pg_name (i := 2) nd rfl (Or.inl rfl)) (pgs_cons (pg_name (i := 3) nd rfl (Or.inl rfl)) pgs_nil)))))
    (@pss_cons _ _ _ _ _ (@ps_set _ _ 1 _ _ _ _ nd rfl (Or.inl rfl) (pe_bm PySem.F.plainAttrs_str PySem.F.slot_str_strip PySem.F.type_str_strip mt_strip (pv 1) (pa_cons pe_str pa_nil)) rfl (.inl rfl))
    (@pss_cons _ _ _ _ _ (ps_if (PW.pt (pw_or (pt_cmpR op_eq (pv 2) pe_str (nomark _)) (pw_or (pt_cmpR op_ne (pe_callB call_len_str rfl B.len PySem.boot_len (pa_cons (pv 1) pa_nil)) pe_int (nomark _)) (pw_or1 (pt_cmpR op_notIn_str (pv 1) pe_str rfl)))))
      (@pss_one _ _ _ (ps_ret (@pe_tup _ _ _ _ _ (pa_cons pe_non (pa_cons pe_int pa_nil)))))
      pss_nil)
    (@pss_cons _ _ _ _ _ (@ps_set _ _ 4 _ _ _ _ nd rfl (Or.inl rfl) (@pe_lst _ _ _ _ pa_nil) rfl (.inl rfl))
    (@pss_cons _ _ _ _ _ (@ps_set _ _ 5 _ _ _ _ nd rfl (Or.inl rfl) pe_int rfl (.inl rfl))
    (@pss_cons _ _ _ _ _ (ps_if (pt_cmpR op_eq (pe_bm PySem.F.plainAttrs_str PySem.F.slot_str_strip PySem.F.type_str_strip mt_strip (pv 3) (pa_cons pe_str pa_nil)) pe_str (nomark _))
      (@pss_one _ _ _ (ps_ret (@pe_tup _ _ _ _ _ (pa_cons (@pe_tup _ _ _ _ _ (pa_cons (pe_callTy call_int_txt rfl B.int boot_int (pa_cons (pv 1) pa_nil)) (pa_cons (@pe_lst _ _ _ _ pa_nil) pa_nil))) (pa_cons pe_int pa_nil)))))
      pss_nil)
    (@pss_cons _ _ _ _ _ (@ps_set _ _ 6 _ _ _ _ nd rfl (Or.inl rfl) (pe_bm PySem.F.plainAttrs_str PySem.F.slot_str_split PySem.F.type_str_split mt_split (pv 3) (pa_cons pe_str pa_nil)) rfl (.inl rfl))
    (@pss_cons _ _ _ _ _ (ps_for PassesOwn.never rfl (pi_range1 rfl B.range (pa_cons (pe_callB call_len_seq rfl B.len PySem.boot_len (pa_cons (pv 6) pa_nil)) pa_nil)) (pg_name (i := 7) nd rfl (Or.inl rfl))
      (@pss_cons _ _ _ _ _ (@ps_set _ _ 8 _ _ _ _ nd rfl (Or.inl rfl) (pe_cal c__law_read_part hr rfl (pa_cons (pe_ix ix_list (pv 6) (pv 7) (fun _ _ => rfl)) (pa_cons (pe_callTy call_int_txt rfl B.int boot_int (pa_cons (pv 1) pa_nil)) pa_nil))) rfl (.inl rfl))
      (@pss_cons _ _ _ _ _ (ps_if (pt_cmpR op_isN (pv 8) pe_non (nomark _))
        (@pss_one _ _ _ (ps_ret (@pe_tup _ _ _ _ _ (pa_cons pe_non (pa_cons (pe_op op_add (pv 7) pe_int) pa_nil)))))
        pss_nil)
      (@pss_cut _ _ _ _ _ (@ps_set _ _ 5 _ _ _ _ nd rfl (Or.inl rfl) (pe_op op_add (pv 5) (pe_callTy call_int1 rfl B.int boot_int (pa_cons (pe_cmpR op_eq (pe_ix ix_tup (pv 8) pe_int (fun _ _ => rfl)) pe_str (nomark _)) pa_nil))) rfl (.inl rfl))
      (@pss_cons _ _ _ _ _ (ps_if (pt_cmpR op_gt (pv 5) pe_int (nomark _))
        (@pss_one _ _ _ (ps_ret (@pe_tup _ _ _ _ _ (pa_cons pe_non (pa_cons (pe_op op_add (pv 7) pe_int) pa_nil)))))
        pss_nil)
      (@pss_one _ _ _ (ps_expr (pe_bm PySem.F.plainAttrs_list PySem.F.slot_list_append PySem.F.type_list_append mt_append (pv 4) (pa_cons (pv 8) pa_nil)))))))))
    (@pss_one _ _ _ (ps_ret (@pe_tup _ _ _ _ _ (pa_cons (@pe_tup _ _ _ _ _ (pa_cons (pe_callTy call_int_txt rfl B.int boot_int (pa_cons (pv 1) pa_nil)) (pa_cons (pv 4) pa_nil))) (pa_cons pe_int pa_nil)))))))))))))), ?_⟩
  try dsimp only [cxK]
  rcases hv with ⟨t, ty, kt, kx⟩ | ⟨z, rfl, fz, kq, kx⟩
  · exact ⟨_, rfl, _, _, _, false, rfl, ty, kt, _, rfl, iteT ⟨t2, fun p hp => kx p _ (same_new hp _) upd_same⟩⟩
  refine ⟨_, rfl, _, _, _, true, rfl, TyOf.str z, kit_ss K, _, rfl, iteF ?_⟩
  have fp := PyProof.Rows.fact_partition z (Str.ofString ":")
  have f1 : Fine (Txt.partition z ":").1 := Nat.le_trans fp.1 fz
  have f3 : Fine (Txt.partition z ":").2.2 := Nat.le_trans fp.2.2 fz
  refine ⟨_, rfl, rfl, z, _, rfl, rfl, by decide, fine_sz fz, fun t ht => ?_⟩
  have S1 := same_new ht (.tup [.str (Txt.partition z ":").1, .str (Txt.partition z ":").2.1, .str (Txt.partition z ":").2.2])
  refine ⟨t, _, rfl, SqT.of upd_same, rfl, _, _, rfl, _, _, rfl, _, _, rfl, rfl, ?_⟩
  generalize upd H t (.tup [.str (Txt.partition z ":").1, .str (Txt.partition z ":").2.1, .str (Txt.partition z ":").2.2]) = H1 at S1 ⊢
  refine ⟨_, rfl, rfl, _, _, rfl, rfl, fine_sz f1, ?_⟩
  have hd0 : (Txt.partition z ":").2.1 ≠ Str.ofString "" → headOf z = figC (Txt.stripChars (Txt.partition z ":").1 " ") := fun nc => by
    rw [head_strip]
    unfold headOf
    rw [if_neg nc] <;> rfl
  have sl : (Txt.stripChars (Txt.partition z ":").1 " ").length ≤ sizeLine := Nat.le_trans (len_stripChars _ _) (fine_sz f1)
  have no : headOf z = none → playOf z = .error 0 := fun e => by unfold playOf; rw [e]
  refine ⟨_, rfl, rfl, _, rfl, decI (fun e => ?_) (fun e => ?_)⟩
  · exact ⟨t2, fun p hp => kx p 0 _ (no (by unfold headOf; rw [if_pos (V.str.inj e)])) (S1.trans (same_new hp _)) upd_same⟩
  have nc : (Txt.partition z ":").2.1 ≠ Str.ofString "" := fun q => e (congrArg V.str q)
  have hd0 := hd0 nc
  generalize Txt.stripChars (Txt.partition z ":").1 " " = hd at *
  refine ⟨_, rfl, hd, rfl, sl, rfl, _, rfl, neI (fun e1 => ?_) (fun e1 => ?_)⟩
  · exact ⟨t2, fun p hp => kx p 0 _ (no (by rw [hd0, fig_len (fun q => e1 (by rw [q]; rfl))])) (S1.trans (same_new hp _)) upd_same⟩
  have l1 : hd.length = 1 := by omega
  have ic := in_cells l1
  unfold inS at ic
  refine ⟨_, rfl, _, _, rfl, rfl, _, rfl, nblI (fun e2 => ?_) (fun e2 => ?_)⟩
  · have e3 := ic.symm.trans e2
    exact ⟨t2, fun p hp => kx p 0 _ (no (by rw [hd0]; cases q : figC hd <;> rw [q] at e3 <;> first | rfl | cases e3)) (S1.trans (same_new hp _)) upd_same⟩
  have e3 := ic.symm.trans e2
  obtain ⟨c, hc⟩ := Option.isSome_iff_exists.mp e3
  rw [hc] at hd0
  obtain ⟨cf, c1, c6⟩ := figC_some hc
  obtain ⟨_, wl, wi⟩ := fig_int cf
  have po : playOf z = match badAt c (partsOf (Txt.partition z ":").2.2) with
    | some i => .error (i + 1)
    | none => .ok (c, plOf c (partsOf (Txt.partition z ":").2.2)) := by unfold playOf; rw [hd0] <;> rfl
  generalize (Txt.partition z ":").2.2 = tl at *
  refine ⟨Nat.zero_le _, fun lr hlr => ?_⟩
  have s0 := same_new hlr (.lst [])
  have e0 : upd H1 lr (.lst []) lr = some (.lst []) := upd_same
  generalize upd H1 lr (.lst []) = H2 at s0 e0 ⊢
  have S02 := S1.trans s0
  have hlr0 : H lr = none := S1.free hlr
  refine ⟨_, rfl, rfl, _, _, rfl, rfl, fine_sz f3, rfl, _, rfl, decI (fun e4 => ?_) (fun e4 => ?_)⟩
  · have en : partsOf tl = [] := if_pos ((words_nil tl).mpr ((strip_nil tl).mp e4))
    refine ⟨_, rfl, hd, c, rfl, wi, by omega, Nat.zero_le _, fun l0 h0 => ⟨t2, fun p1 h1 => ⟨t2, fun p2 h2 => ?_⟩⟩⟩
    have sA := same_new h1 (.tup [.int (c : Int), .ref l0])
    have sB := same_new h2 (.tup [.ref p1, .int 0])
    refine kq p2 (.ref p1) c [] _ (by rw [po, en]; rfl) (S02.trans ((same_new h0 _).trans (sA.trans sB))) upd_same ⟨p1, l0, [], rfl, sB _ _ upd_same, sB _ _ (sA _ _ upd_same), .nil⟩
  have en : partsOf tl = Txt.split tl ";" := if_neg fun q => e4 ((strip_nil tl).mpr ((words_nil tl).mp q))
  have pl := parts_len f3
  have pf := fun p => parts_fine (p := p) f3
  refine ⟨_, rfl, rfl, tl, _, rfl, rfl, by decide, fine_sz2 f3, fun l hl => ?_⟩
  rw [← en]
  generalize partsOf tl = ps at *
  have s1 := same_new hl (.lst (ps.map V.str))
  have l1' : upd H2 l (.lst (ps.map V.str)) l = some (.lst (ps.map V.str)) := upd_same
  have ne : l ≠ lr := fun e => by rw [e, e0] at hl; cases hl
  generalize upd H2 l (.lst (ps.map V.str)) = H3 at s1 l1' ⊢
  have S03 := S02.trans s1
  refine ⟨_, rfl, l, _, rfl, .inl (SqL.of l1'), ps.length, (by rw [List.length_map]), by omega, by omega, for_range (n := ps.length) (fun i σ H' => Same H H' ∧ H' l = some (.lst (ps.map V.str)) ∧ (∀ j, j < i → bd c ps j = false) ∧ ∃ (rp : List Addr) (v7 v8 : Option V), H' lr = some (.lst (rp.map V.ref)) ∧ Prts H' rp (plOf c (ps.take i)) ∧ σ = [some (.str z), some (.str hd), some (.str (Txt.partition z ":").2.1), some (.str tl), some (.ref lr), some (.int (lks c (ps.take i))), some (.ref l), v7, v8])
    ⟨S03, l1', (fun j hj => absurd hj (Nat.not_lt_zero _)), [], none, none, s1 _ _ e0, (by rw [List.take_zero]; exact .nil), (by rw [List.take_zero]; rfl)⟩ ?_ ?_⟩
  · rintro i σ H4 ip ⟨S4, l4, al, rp, v7, v8, a4, R4, rfl⟩
    have hp : ps[i]? = some ps[i] := List.getElem?_eq_getElem ip
    generalize ps[i] = p at hp
    have atp : atI (ps.map V.str) (0 + (i : Int)) = some (.str p) := by rw [Int.zero_add]; exact atI_nat (by rw [List.getElem?_map, hp]; rfl)
    refine ⟨_, rfl, _, rfl, l, _, _, .str p, rfl, rfl, SqL.of l4, atp, _, rfl, hd, c, rfl, wi, by omega, p, c, rfl, pf p (List.mem_of_getElem? hp), c1, c6, fun v H5 S5 mv => ?_⟩
    have a5 := S5 _ _ a4
    have R5 := R4.same S5
    cases em : ptOf c p with
    | none =>
      rw [em] at mv
      have mv : v = .non := mv
      subst mv
      have hb : bd c ps i = true := by unfold bd; rw [hp]; show ((ptOf c p).isNone || _) = true; rw [em]; rfl
      refine ⟨_, rfl, rfl, _, rfl, decI (fun _ => ?_) (fun q => absurd rfl q)⟩
      refine ⟨_, rfl, _, _, rfl, rfl, t2, fun tp htp => kx tp (i + 1) _ (by rw [po, bad_some ip hb al]) ((S4.trans S5).trans (same_new htp _)) ?_⟩
      rw [upd_same]
      show some (HO.tup [V.non, V.int (0 + (i : Int) + 1)]) = _
      rw [show (0 : Int) + (i : Int) + 1 = ((i + 1 : Nat) : Int) by omega]
    | some m =>
      rw [em] at mv
      obtain ⟨q, rfl, hq⟩ : ∃ q, v = .ref q ∧ PrtA H5 q m := mv
      have lk := lks_snoc hp em
      have pn : (ps[i]?.bind (ptOf c)).isNone = false := by rw [hp]; show (ptOf c p).isNone = false; rw [em]; rfl
      refine ⟨_, rfl, rfl, _, rfl, decI (fun q => by cases q) (fun _ => ?_)⟩
      have rl : rp.length ≤ 30002 := by
        have := Paired.length R4
        have h2 := pl_le c (ps.take i)
        rw [List.length_take] at h2
        omega
      have hn : ∃ (nm : Str) (xs : List V), H5 q = some (.tup (.str nm :: xs)) ∧ ((lks c (ps.take i) : Nat) : Int) + (if decide (V.str nm = V.str (Str.ofString "look")) = true then 1 else 0) = ((lks c (ps.take (i + 1)) : Nat) : Int) := by
        rw [lk]
        cases m with
        | inl m =>
          have nl := no_look (pt_fits em)
          exact ⟨m.1, _, hq, by rw [decide_eq_false (fun e => nl (V.str.inj e))]; rfl⟩
        | inr m =>
          obtain ⟨x1, x2, x3⟩ := m
          obtain ⟨r, hq, _⟩ := hq
          exact ⟨_, _, hq, by rw [decide_eq_true rfl]; rfl⟩
      obtain ⟨nm, xs, hqn, eqn⟩ := hn
      refine ⟨fun σ' H' => H' = H5 ∧ σ' = [some (.str z), some (.str hd), some (.str (Txt.partition z ":").2.1), some (.str tl), some (.ref lr), some (.int (lks c (ps.take (i + 1)))), some (.ref l), some (.int (0 + (i : Int))), some (.ref q)], ⟨_, rfl, _, rfl, q, _, _, .str nm, rfl, rfl, SqT.of hqn, at_0 _ _, rfl, .inr ⟨_, rfl, _, _, rfl, rfl, rfl, by rw [← eqn]; rfl⟩⟩, ?_⟩
      rintro σ6 H6 ⟨rfl, rfl⟩
      refine ⟨_, rfl, _, _, rfl, rfl, _, rfl, decI (fun hb => ?_) (fun hb => ?_)⟩
      · have hb : bd c ps i = true := by unfold bd; rw [pn, Bool.false_or, decide_eq_true_iff]; omega
        refine ⟨_, rfl, _, _, rfl, rfl, t2, fun tp htp => kx tp (i + 1) _ (by rw [po, bad_some ip hb al]) ((S4.trans S5).trans (same_new htp _)) ?_⟩
        rw [upd_same]
        show some (HO.tup [V.non, V.int (0 + (i : Int) + 1)]) = _
        rw [show (0 : Int) + (i : Int) + 1 = ((i + 1 : Nat) : Int) by omega]
      have hb : bd c ps i = false := by unfold bd; rw [pn, Bool.false_or, decide_eq_false_iff_not]; omega
      refine ⟨_, rfl, .inl ⟨rfl, _, SqL.of a5⟩, _, rfl, lr, _, _, rfl, rfl, a5, (by rw [List.length_map]; exact Nat.lt_of_lt_of_le (show rp.length < 40000 by omega) (by decide)), ?_⟩
      refine ⟨same_upd (S4.trans S5) hlr0, (by rw [upd_ne ne]; exact S5 _ _ l4), fun j hj => ?_, rp ++ [q], _, _, (by rw [upd_same, List.map_append]; rfl), ?_, rfl⟩
      · by_cases e : j = i
        · rw [e]; exact hb
        · exact al j (by omega)
      · rw [pl_snoc hp em]
        exact Prts.upd (Paired.snoc R5 hq) a5
  · rintro σ H4 ⟨S4, l4, al, rp, v7, v8, a4, R4, rfl⟩
    rw [List.take_length] at R4
    refine ⟨_, rfl, hd, c, rfl, wi, by omega, _, rfl, t2, fun p1 h1 => ⟨t2, fun p2 h2 => ?_⟩⟩
    have sA := same_new h1 (.tup [.int (c : Int), .ref lr])
    have sB := same_new h2 (.tup [.ref p1, .int 0])
    exact kq p2 (.ref p1) c _ _ (by rw [po, bad_none al]) (S4.trans (sA.trans sB)) upd_same ⟨p1, lr, rp, rfl, sB _ _ upd_same, sB _ _ (sA _ _ a4), (R4.same sA).same sB⟩
end
end K95

set_option maxHeartbeats 1000000
/-! a list's index of a flat thing -/
namespace L2
open PySem PySem.Spec PyProof.Rows
section
variable {X : Cx}
def rIndex (K : PySem.W.Frag) : V → List V → Hp → VK → Prop := fun x ys H Q => ∃ l xs y j, x = .ref l ∧ ys = [y] ∧ SqL K H l xs ∧ flatV y = true ∧ xs.all flatV = true ∧ (∃ a, xs[j]? = some a ∧ eqV a y = true) ∧ (∀ m b, m < j → xs[m]? = some b → eqV b y = false) ∧ j < 1000000 ∧ Q (.int ((j : Nat) : Int)) H
theorem mt_index : MtR X "list.index" (rIndex X.K) := by
  intro pins s σ H x ys v us Q I rx rs h
  obtain ⟨l, xs, y, j, rfl, rfl, hl, fy, fs, ⟨a, ha, ea⟩, no, j6, q⟩ := h
  cases rx
  obtain ⟨u, rfl, ru⟩ := vals1 rs
  obtain ⟨its, r, ⟨o, n, ho, hc, hd, hdt⟩, hz⟩ := I.list hl
  obtain ⟨va, hva, ra⟩ := r.get ha
  have hj : j < its.length := (List.getElem?_eq_some_iff.mp hva).1
  have all : ∀ z ∈ xs, flatV z = true := by simpa using fs
  obtain ⟨cls, dct, dt, sl⟩ := o
  have hc : cls = .type "list" := hc
  have hdt : dt = .seq its.toArray n := hdt
  subst hc hdt
  refine call_meets F.slot_list_index ⟨_, ho, rfl⟩ F.entry_list_index (F.args_list_index_2 _ _) (SeqAt.list_indexAt l its.toArray n dct sl u (eqU y) j (by simpa using hj) (by omega) ?_ (fun m hm lt => ?_)) ⟨ho, fun w hw => mem_eqAt ru fy r fs w (by simpa using hw), ⟨.int j, H, I.tok _, ⟨_, rfl⟩, q⟩⟩
  · have e : its.toArray[j]'(by simpa using hj) = va := by
      have := (List.getElem?_eq_some_iff.mp hva).2
      simpa using this
    rw [e, eqU_of ra (all a (List.mem_of_getElem? ha))]
    exact ea
  · have hm' : m < its.length := by simpa using hm
    have hx : m < xs.length := by rw [r.length]; exact hm'
    have hxm := List.getElem?_eq_getElem hx
    obtain ⟨vb, hvb, rb⟩ := r.get hxm
    have e : its.toArray[m]'hm = vb := by
      have := (List.getElem?_eq_some_iff.mp hvb).2
      simpa using this
    rw [e, eqU_of rb (all _ (List.getElem_mem hx))]
    exact no m _ lt hxm
end
end L2

set_option maxHeartbeats 4000000
/-! set(a list of ints) -/
namespace L2
open PySem PySem.Spec PyProof.Rows
theorem call_setL {X : Cx} (hc : X.calm = true) : CallR X (.type "set") (fun xs H Q => ∃ (p : Addr) (ns : List Int), xs = [.ref p] ∧ SqL X.K H p (ns.map V.int) ∧ ns.length < 64 ∧ ∀ (l : Addr) (S : Int → Bool), H l = none → Q (.ref l) (upd H l (.set S (unlike ns)))) := by
  intro pins s σ H xs us Q I r h
  obtain ⟨p, ns, rfl, hS, h64, q⟩ := h
  obtain ⟨u, rfl, rx⟩ := vals1 r
  cases rx
  obtain ⟨its, rv, pl, _⟩ := I.list hS
  have el : its.toArray.size = ns.length := by rw [List.size_toArray, ← rv.length, List.length_map]
  refine call_set_list (I.ok.hd hc) pl.isList (ns := ns) (by simpa using ints_vals rv) (by unfold scanBound; omega) fun h' tk hs hk => ?_
  rw [el] at hs
  exact ⟨.ref s.heap.objs.size, _, I.laid (o := .set _ (unlike ns)) (t' := tk) (fun b o e => hk b o (Heap.lt_size e) e) (Nat.le_refl _) hs, rfl, q _ _ (I.hok.fresh (Nat.le_refl _))⟩
end L2

set_option maxHeartbeats 4000000
/-! the greatest of a list -/
namespace L2
open PySem PySem.Spec PyProof.Rows
theorem call_maxL {X : Cx} (hc : X.calm = true) : CallR X (.builtin "max") (fun xs H Q => ∃ (p : Addr) (ns : List Int), xs = [.ref p] ∧ SqL X.K H p (ns.map V.int) ∧ 0 < ns.length ∧ ∀ M, M ∈ ns → (∀ a, a ∈ ns → a ≤ M) → Q (.int M) H) := by
  intro pins s σ H xs us Q I r h
  obtain ⟨p, ns, rfl, hq, hn, q⟩ := h
  obtain ⟨u, rfl, ru⟩ := r.one
  cases ru
  obtain ⟨its, rv, pl, hz⟩ := I.list hq
  have hi := intsAre_of rv
  have hl := pl.isList
  obtain ⟨xs, e⟩ := hi.allInts.items
  have hns : ns = xs.toList.map (·.1) := by
    rw [← hi.numsOf, ← nums_intItems, ← e]
  have hsz : 0 < xs.size := by
    have h3 := hn; rw [hns, List.length_map, Array.length_toList] at h3; exact h3
  rw [e] at hl
  refine max_intList (show X.A.handled = none from I.ok.hd hc) hl hsz fun v h' tk hv hk => ?_
  obtain ⟨t, rfl⟩ := intItems_at hv
  obtain ⟨h1, h2⟩ := argBest_gt (PySem.numAt xs) (xs.size - 1)
  refine ⟨.int (PySem.numAt xs (argBest (fun i j => decide (PySem.numAt xs i > PySem.numAt xs j)) (xs.size - 1))), H, I.kept (t' := tk) hk, ⟨_, rfl⟩, q _ ?_ fun a ha => ?_⟩
  · rw [hns, numAt_eq]; exact getD_mem (by rw [List.length_map, Array.length_toList]; omega)
  · rw [hns] at ha
    obtain ⟨j, hj, rfl⟩ := mem_getD ha
    rw [List.length_map, Array.length_toList] at hj
    rw [← numAt_eq]; exact h2 j (by omega)
end L2

set_option maxHeartbeats 4000000
/-! == of two lists that hold the very same things, whatever they are -/
namespace L2
open PySem PySem.Spec PyProof.Rows
def ownV (v : V) : Prop := flatV v = true ∨ ∃ p, v = .ref p
theorem eqAt_own {A : Around} {s : Shared} {v : V} {u w : Value} (o : ownV v) (r1 : RelV v u) (r2 : RelV v w) : SeqAt.EqAt A s u w true := by
  rcases o with o | ⟨p, rfl⟩
  · cases v with
    | int i =>
      obtain ⟨t, rfl⟩ := r1
      obtain ⟨t', rfl⟩ := r2
      have := SeqAt.EqAt.int_int (A := A) (s := s) i t i t'
      simpa using this
    | str x =>
      obtain ⟨t, rfl⟩ := r1
      obtain ⟨t', rfl⟩ := r2
      have := SeqAt.EqAt.str_str (A := A) (s := s) x t x t'
      simpa using this
    | bl b => cases r1; cases r2; exact SeqAt.EqAt.same _
    | non => cases r1; cases r2; exact SeqAt.EqAt.same _
    | _ => cases o
  · cases r1; cases r2; exact SeqAt.EqAt.same _
end L2

set_option maxHeartbeats 1000000
/-! != of two lists with the very same things, of a list and an empty one -/
namespace L2
open PySem PySem.Spec PyProof.Rows
def rNeOwn (K : PySem.W.Frag) : R2 := fun x y H Q => ∃ (a b : Addr) (xs : List V), x = .ref a ∧ y = .ref b ∧ SqL K H a xs ∧ SqL K H b xs ∧ (∀ v ∈ xs, ownV v) ∧ Q (.bl false) H
theorem op_neOwn {X : Cx} (hu : X.A.units + 64 < cLine) : OpR X (compareOp .NotEq) (rNeOwn X.K) := by
  intro pins s σ H x y v u Q I rx ry h
  obtain ⟨a, b, xs, rfl, rfl, h1, h2, ow, q⟩ := h
  cases rx; cases ry
  obtain ⟨its, rv, pl, _⟩ := I.list h1
  obtain ⟨its2, rv2, pl2, _⟩ := I.list h2
  have l1 := rv.length
  have l2 := rv2.length
  have rc := SeqAt.RcNeAt.lists (A := X.A) (e := fun _ => true) pl.isList pl2.isList (by rw [List.size_toArray, List.size_toArray, ← l1, ← l2]) (by omega) fun j j1 j2 => by
    have jx : j < xs.length := by rw [List.size_toArray] at j1; omega
    obtain ⟨u1, e1, r1⟩ := rv.get (List.getElem?_eq_getElem jx)
    obtain ⟨u2, e2, r2⟩ := rv2.get (List.getElem?_eq_getElem jx)
    have q1 : its.toArray[j] = u1 := by
      have := (List.getElem?_eq_some_iff.mp e1).2
      simpa using this
    have q2 : its2.toArray[j] = u2 := by
      have := (List.getElem?_eq_some_iff.mp e2).2
      simpa using this
    rw [q1, q2]
    exact eqAt_own (ow _ (List.getElem_mem jx)) r1 r2
  have al : ((List.range its.toArray.size).all fun _ => true) = true := by simp
  rw [al] at rc
  exact rc X.prog X.w _ _ ⟨.bl false, H, I, rfl, q⟩
def rNeNil (K : PySem.W.Frag) : R2 := fun x y H Q => ∃ (a b : Addr) (xs : List V), x = .ref a ∧ y = .ref b ∧ SqL K H a xs ∧ SqL K H b [] ∧ Q (.bl (!xs.isEmpty)) H
theorem op_neNil {X : Cx} (hu : X.A.units + 64 < cLine) : OpR X (compareOp .NotEq) (rNeNil X.K) := by
  intro pins s σ H x y v u Q I rx ry h
  obtain ⟨a, b, xs, rfl, rfl, h1, h2, q⟩ := h
  cases xs with
  | nil => exact op_neOwn hu pins s σ H _ _ v u Q I rx ry ⟨a, b, [], rfl, rfl, h1, h2, (fun v hv => by cases hv), q⟩
  | cons z zs =>
    cases rx; cases ry
    obtain ⟨its, rv, pl, _⟩ := I.list h1
    obtain ⟨its2, rv2, pl2, _⟩ := I.list h2
    have l1 := rv.length
    have l2 := rv2.length
    have rc := SeqAt.RcNeAt.lists_lengths (A := X.A) (s := s) pl.isList pl2.isList (by
      rw [bne_iff_ne, List.size_toArray, List.size_toArray, ← l1, ← l2]
      simp) (by omega)
    exact rc X.prog X.w _ _ ⟨.bl true, H, I, rfl, q⟩
end L2

set_option maxHeartbeats 1000000
namespace K95
open PySem PySem.Spec PyProof.Rows L2 Am Pc Ba M35
open Pt hiding kit_tt
open M24
abbrev L7 : List V := [.str "flip", .str "mix", .str "turn", .str "if", .str "pair", .str "swap", .str "cross"]
abbrev N7 : List V := [.int 1, .int 1, .int 2, .int 2, .int 2, .int 2, .int 3]
theorem in7_no {nm : Str} (z : L2.numAt NB nm = none) : inV (.str nm) L7 = false := by
  have h : ∀ x : Str, L2.numAt NB x ≠ none → (x == nm) = false := fun x hx => by
    rw [beq_eq_false_iff_ne]
    exact fun e => hx (by rw [e]; exact z)
  simp only [inV, L7, List.any_cons, List.any_nil, eqV, Bool.or_false]
  rw [h "flip" (by decide), h "mix" (by decide), h "turn" (by decide), h "if" (by decide), h "pair" (by decide), h "swap" (by decide), h "cross" (by decide)]
  rfl
theorem name_of (nm : Str) : L2.numAt NB nm = none ∨ ∃ n j : Nat, L2.numAt NB nm = some (.int n) ∧ 1 ≤ n ∧ n ≤ 3 ∧ inV (.str nm) L7 = true ∧ (nm = "turn" → n = 2) ∧ j < 7 ∧ (L7[j]? = some (.str nm) ∧ eqV (.str nm) (.str nm) = true) ∧ ((List.range j).all fun m => (L7[m]?.map fun b => eqV b (.str nm)) == some false) = true ∧ atI N7 (j : Int) = some (.int n) := by
  rcases num_cases nm with h | ⟨rfl, h⟩ | ⟨rfl, h⟩ | ⟨rfl, h⟩ | ⟨rfl, h⟩ | ⟨rfl, h⟩ | ⟨rfl, h⟩ | ⟨rfl, h⟩
  · exact .inl h
  · exact .inr ⟨1, 0, h, by decide, by decide, by decide, by decide, by decide, ⟨rfl, by decide⟩, by decide, rfl⟩
  · exact .inr ⟨1, 1, h, by decide, by decide, by decide, by decide, by decide, ⟨rfl, by decide⟩, by decide, rfl⟩
  · exact .inr ⟨2, 2, h, by decide, by decide, by decide, by decide, by decide, ⟨rfl, by decide⟩, by decide, rfl⟩
  · exact .inr ⟨2, 3, h, by decide, by decide, by decide, by decide, by decide, ⟨rfl, by decide⟩, by decide, rfl⟩
  · exact .inr ⟨2, 4, h, by decide, by decide, by decide, by decide, by decide, ⟨rfl, by decide⟩, by decide, rfl⟩
  · exact .inr ⟨2, 5, h, by decide, by decide, by decide, by decide, by decide, ⟨rfl, by decide⟩, by decide, rfl⟩
  · exact .inr ⟨3, 6, h, by decide, by decide, by decide, by decide, by decide, ⟨rfl, by decide⟩, by decide, rfl⟩
theorem no_before {nm : Str} {j : Nat} (h : ((List.range j).all fun m => (L7[m]?.map fun b => eqV b (.str nm)) == some false) = true) : ∀ m b, m < j → L7[m]? = some b → eqV b (.str nm) = false := fun m b hm hb => by
  have := List.all_eq_true.mp h m (List.mem_range.mpr hm)
  rw [hb] at this
  simpa using this
def noF (w : Str) : Bool := !(fig w).isSome
theorem val_lo {w : Str} (h : (fig w).isSome = true) : 0 ≤ val w ∧ val w ≤ 9 := by
  obtain ⟨n, e⟩ := Option.isSome_iff_exists.mp h
  have := (fig_int e).1
  unfold val
  rw [e]
  simp
  omega
section
variable {P : Program} {w : World} {K : PySem.W.Frag} {mg : Str → Option Value} {base : Heap} {k : Nat} {h : Heap}
theorem sc_rdpart : FnScope ["_law_part_here", "_law_cells", "_law_words_here", "_law_mark_here", "_law_many", "_law_bad", "_law_numbers"] ["_law_part_here", "_law_cells"] (defScope (top 49)) := ⟨rfl, rfl, rfl, by decide +kernel, rfl, by decide +kernel, by decide +kernel⟩
theorem ok_rdpart (F : FunAt K "_law_read_part" (top 49) .none) (X : K.In h) (G : h.Ns mainGlobals mg) (B : Bs mg) (c__law_read_mark : Cal P w K mg base k "_law_read_mark" ["_law_text", "_law_cells"] spRdMark) : Cal P w K mg base (k + 1) "_law_read_part" ["_law_part_here", "_law_cells"] spRdPart := by
  have nd := sc_rdpart.nd
  refine F.cal X G sc_rdpart (bnd2 fun _ _ _ _ _ _ _ _ => rfl) (fun vs H Q E h => ?_) (fun f cdv A outer s H vs Q E hr h => ?_)
  · obtain ⟨z, c, rfl, _⟩ := h; rfl
  obtain ⟨z, c, rfl, fz, c1, c6, kq⟩ := h
  refine ⟨_, (@pss_cons _ _ _ _ _ (ps_setLcF (i := 2) rfl nd rfl rfl (LcOk.of (Nc := ["_law_word"]) (mp := [none]) (by kernel_rfl)) (pi_list (pe_bm PySem.F.plainAttrs_str PySem.F.slot_str_split PySem.F.type_str_split mt_split (pv 0) (pa_cons pe_str pa_nil))) (fun _ _ _ _ => (pg_name (i := 0) (show (["_law_word"] : List Str).Nodup by decide +kernel) rfl (Or.inl rfl))) (fun _ _ _ _ => (pt_cmpR op_ne (pv 0) pe_str (nomark _))) (fun _ _ _ _ => (pv 0)) rfl)
    (@pss_cut _ _ _ _ _ (ps_if (PW.pt (pw_and (pt_cmpR op_eq (pe_callB call_len_seq rfl B.len PySem.boot_len (pa_cons (pv 2) pa_nil)) pe_int (nomark _)) (pw_and1 (pt_cmpR op_eq (pe_ix ix_list (pv 2) pe_int (fun _ _ => rfl)) pe_str (nomark _)))))
      (@pss_cons _ _ _ _ _ (@ps_set _ _ 3 _ _ _ _ nd rfl (Or.inl rfl) (pe_cal c__law_read_mark hr rfl (pa_cons (pe_ix ix_list (pv 2) pe_int (fun _ _ => rfl)) (pa_cons (pv 1) pa_nil))) rfl (.inl rfl))
      (@pss_cut _ _ _ _ _ (ps_if (pt_cmpR op_isN (pv 3) pe_non (nomark _))
        (@pss_one _ _ _ (ps_ret pe_non))
        pss_nil)
      (@pss_one _ _ _ (ps_ret (@pe_tup _ _ _ _ _ (pa_cons pe_str (pa_cons (pv 3) pa_nil)))))))
      pss_nil)
    (@pss_cut _ _ _ _ _ (ps_if (PW.pt (pw_or (pt_cmpR op_eq (pe_callB call_len_seq rfl B.len PySem.boot_len (pa_cons (pv 2) pa_nil)) pe_int (nomark _)) (pw_or1 (pt_cmpR op_notIn_seq (pe_ix ix_list (pv 2) pe_int (fun _ _ => rfl)) (@pe_lst _ _ _ _ (@pa_cons _ _ _ _ _ pe_str (@pa_cons _ _ _ _ _ pe_str (@pa_cons _ _ _ _ _ pe_str (@pa_cons _ _ _ _ _ pe_str (@pa_cons _ _ _ _ _ pe_str (@pa_cons _ _ _ _ _ pe_str (@pa_cons _ _ _ _ _ pe_str pa_nil rfl) rfl) rfl) rfl) rfl) rfl) rfl)) rfl))))
      (@pss_one _ _ _ (ps_ret pe_non))
      pss_nil)
    (@pss_cut _ _ _ _ _ (@ps_set _ _ 4 _ _ _ _ nd rfl (Or.inl rfl) (@pe_ix _ _ _ _ _ _ _ ix_list (@pe_lst _ _ _ _ (@pa_cons _ _ _ _ _ pe_int (@pa_cons _ _ _ _ _ pe_int (@pa_cons _ _ _ _ _ pe_int (@pa_cons _ _ _ _ _ pe_int (@pa_cons _ _ _ _ _ pe_int (@pa_cons _ _ _ _ _ pe_int (@pa_cons _ _ _ _ _ pe_int pa_nil rfl) rfl) rfl) rfl) rfl) rfl) rfl)) (pe_bm PySem.F.plainAttrs_list PySem.F.slot_list_index PySem.F.type_list_index mt_index (@pe_lst _ _ _ _ (@pa_cons _ _ _ _ _ pe_str (@pa_cons _ _ _ _ _ pe_str (@pa_cons _ _ _ _ _ pe_str (@pa_cons _ _ _ _ _ pe_str (@pa_cons _ _ _ _ _ pe_str (@pa_cons _ _ _ _ _ pe_str (@pa_cons _ _ _ _ _ pe_str pa_nil rfl) rfl) rfl) rfl) rfl) rfl) rfl)) (@pa_cons _ _ _ _ _ (@pe_ix _ _ _ _ _ _ _ ix_list (pv 2) pe_int (fun _ _ => rfl)) pa_nil rfl)) (fun _ _ => rfl)) rfl (.inl rfl))
    (@pss_cons _ _ _ _ _ (ps_setLcF (i := 5) rfl nd rfl rfl (LcOk.of (Nc := ["_law_word"]) (mp := [none]) (by kernel_rfl)) (pi_list (pe_slice sl_list (pv 2) (po_some pe_int) po_none)) (fun _ _ _ _ => (pg_name (i := 0) (show (["_law_word"] : List Str).Nodup by decide +kernel) rfl (Or.inl rfl))) (fun _ _ _ _ => (PW.pt (pw_or (pt_cmpR op_ne (pe_callB call_len_str rfl B.len PySem.boot_len (pa_cons (pv 0) pa_nil)) pe_int (nomark _)) (pw_or1 (pt_cmpR op_notIn_str (pv 0) pe_str rfl))))) (fun _ _ _ _ => (pv 0)) rfl)
    (@pss_cut _ _ _ _ _ (ps_if (PW.pt (pw_or (pt_cmpR op_ne (pe_callB call_len_seq rfl B.len PySem.boot_len (pa_cons (pv 2) pa_nil)) (pe_op op_add (pv 4) pe_int) (nomark _)) (pw_or1 (pt_cmpR (op_neNil hr.units) (pv 5) (@pe_lst _ _ _ _ pa_nil) (nomark _)))))
      (@pss_one _ _ _ (ps_ret pe_non))
      pss_nil)
    (@pss_cons _ _ _ _ _ (ps_setLc (i := 6) rfl nd rfl rfl (LcOk.of (Nc := ["_law_word"]) (mp := [none]) (by kernel_rfl)) (pi_list (pe_slice sl_list (pv 2) (po_some pe_int) po_none)) (fun _ _ _ _ => (pg_name (i := 0) (show (["_law_word"] : List Str).Nodup by decide +kernel) rfl (Or.inl rfl))) (fun _ _ _ _ => (pe_callTy call_int_txt rfl B.int boot_int (pa_cons (pv 0) pa_nil))) rfl)
    (@pss_cut _ _ _ _ _ (ps_if (pt_cmpR op_eq (pe_ix ix_list (pv 2) pe_int (fun _ _ => rfl)) pe_str (nomark _))
      (@pss_one _ _ _ (ps_if (PW.pt (pw_or (pt_cmpR op_ge (pe_ix ix_list (pv 6) pe_int (fun _ _ => rfl)) (pv 1) (nomark _)) (pw_or (pt_cmpR op_lt (pe_ix ix_list (pv 6) pe_int (fun _ _ => rfl)) pe_int (nomark _)) (pw_or1 (pt_cmpR op_gt (pe_ix ix_list (pv 6) pe_int (fun _ _ => rfl)) pe_int (nomark _))))))
        (@pss_one _ _ _ (ps_ret pe_non))
        pss_nil))
      (@pss_one _ _ _ (ps_if (PW.pt (pw_or (pt_cmpR op_ge (pe_callB (call_maxL rfl) rfl B.max boot_max (pa_cons (pv 6) pa_nil)) (pv 1) (nomark _)) (pw_or1 (pt_cmpR op_ne (pe_callB call_lenS rfl B.len PySem.boot_len (pa_cons (pe_callTy (call_setL rfl) rfl B.set boot_set (pa_cons (pv 6) pa_nil)) pa_nil)) (pv 4) (nomark _)))))
        (@pss_one _ _ _ (ps_ret pe_non))
        pss_nil)))
    (@pss_one _ _ _ (ps_ret (pe_callTy call_tuple_of rfl B.tuple boot_tuple (pa_cons (pe_op op_cat (@pe_lst _ _ _ _ (pa_cons (pe_ix ix_list (pv 2) pe_int (fun _ _ => rfl)) pa_nil)) (pv 6)) pa_nil)))))))))))), ?_⟩
  try dsimp only [cxK]
  refine ⟨_, rfl, rfl, z, _, rfl, rfl, by decide, fine_sz2 fz, fun lw hlw => ?_⟩
  have s3 := same_new hlw (.lst ((Txt.split z " ").map V.str))
  refine ⟨lw, rfl, ⟨_, SqL.of upd_same⟩, fun l hacc => ?_⟩
  refine lcF_strs (K := K) ne0 hacc (SqL.of upd_same) (Nat.le_trans split_len (fine_sz2 fz)) (fun y H2 N hy S2 kN => ⟨_, rfl, rfl, _, rfl, kN⟩) (fun y H2 N hy py S2 kN => ⟨_, rfl, kN⟩) (fun H2 S2 a2 => ?_)
  have wl : (wds z).length ≤ 30002 := Nat.le_trans words_len (Nat.add_le_add_right fz 2)
  have wf : ∀ y ∈ wds z, Fine y := fun y hy => words_fine fz hy
  have hq : ptOf c z = ptW c (wds z) := rfl
  have a2 : H2 l = some (.lst ((wds z).map V.str)) := a2
  have S02 := s3.trans S2
  rw [hq] at kq
  generalize wds z = ws at *
  have SL : SqL K H2 l (ws.map V.str) := SqL.of a2
  have big : ∀ n : Nat, n ≤ 40000 → n ≤ sizeLine := fun n h => Nat.le_trans h (by decide)
  refine ⟨fun σ H' => H' = H2 ∧ ¬ (ws.length = 2 ∧ ws[0]? = some (Str.ofString "look")) ∧ σ = [some (.str z), some (.int c), some (.ref l), none, none, none, none], ?_, ?_⟩
  · by_cases lk : ws.length = 2 ∧ ws[0]? = some (Str.ofString "look")
    · obtain ⟨b, rfl⟩ : ∃ b, ws = [Str.ofString "look", b] := by
        match ws, lk with
        | [a, b], ⟨_, h⟩ => exact ⟨b, by rw [Option.some.inj h]⟩
      have ep : ptW c [Str.ofString "look", b] = (lookOf c b).map .inr := if_pos ⟨rfl, rfl⟩
      rw [ep] at kq
      refine ⟨_, rfl, l, _, rfl, .inl SL, rfl, _, rfl, eqI (fun _ => ⟨_, rfl, l, _, _, _, rfl, rfl, SL, rfl, rfl, _, rfl, decI (fun _ => ?_) (fun e => absurd rfl e)⟩) (fun e => absurd rfl e)⟩
      refine ⟨_, rfl, l, _, _, _, rfl, rfl, SL, rfl, _, rfl, b, c, rfl, wf b (by simp), c1, c6, fun v H3 S3 mk => ?_⟩
      cases el : lookOf c b with
      | none =>
        rw [el] at mk kq
        have mk : v = .non := mk
        subst mk
        exact ⟨fun σ H' => False, ⟨_, rfl, rfl, _, rfl, decI (fun _ => kq .non _ (S02.trans S3) rfl) (fun e => absurd rfl e)⟩, fun _ _ q => q.elim⟩
      | some m =>
        obtain ⟨x1, x2, x3⟩ := m
        rw [el] at mk kq
        obtain ⟨p, rfl, hp⟩ : ∃ p, v = .ref p ∧ H3 p = some (M3 x1 x2 x3) := mk
        refine ⟨fun σ H' => H' = H3 ∧ σ = [some (.str z), some (.int c), some (.ref l), some (.ref p), none, none, none], ⟨_, rfl, rfl, _, rfl, decI (fun q => by cases q) (fun _ => ⟨rfl, rfl⟩)⟩, ?_⟩
        rintro σ4 H4 ⟨rfl, rfl⟩
        exact ⟨_, rfl, t2, fun r hr => kq (.ref r) _ ((S02.trans S3).trans (same_new hr _)) ⟨r, rfl, p, upd_same, same_new hr _ _ _ hp⟩⟩
    · have nx : H2 = H2 ∧ ¬ (ws.length = 2 ∧ ws[0]? = some (Str.ofString "look")) ∧ [some (V.str z), some (V.int c), some (V.ref l), none, none, none, none] = [some (V.str z), some (V.int c), some (V.ref l), none, none, none, none] := ⟨rfl, lk, rfl⟩
      refine ⟨_, rfl, l, _, rfl, .inl SL, rfl, _, rfl, eqI (fun e => ?_) (fun e => nx)⟩
      have e2 : ws.length = 2 := by rw [List.length_map] at e; omega
      obtain ⟨a, b, rfl⟩ : ∃ a b, ws = [a, b] := by
        match ws, e2 with
        | [a, b], _ => exact ⟨a, b, rfl⟩
      exact ⟨_, rfl, l, _, _, _, rfl, rfl, SL, rfl, rfl, _, rfl, decI (fun ea => absurd (⟨rfl, by rw [V.str.inj ea]; rfl⟩ : _ ∧ _) lk) (fun _ => nx)⟩
  rintro σ1 H1 ⟨rfl, lk, rfl⟩
  have ep : ptW c ws = (mvOf c ws).map .inl := if_neg lk
  rw [ep] at kq
  refine ⟨fun σ H' => Same H1 H' ∧ (∃ nm r, ws = nm :: r ∧ L2.numAt NB nm ≠ none) ∧ σ = [some (.str z), some (.int c), some (.ref l), none, none, none, none], ?_, ?_⟩
  · cases ws with
    | nil => exact ⟨_, rfl, l, _, rfl, .inl SL, rfl, _, rfl, eqI (fun _ => kq .non _ S02 rfl) (fun e => absurd rfl e)⟩
    | cons nm r =>
      have SL' : SqL K H1 l (.str nm :: r.map V.str) := SL
      refine ⟨_, rfl, l, _, rfl, .inl SL, rfl, _, rfl, eqI (fun e => absurd e (by simp; omega)) (fun _ => ?_)⟩
      refine ⟨_, rfl, l, _, _, .str nm, rfl, rfl, SL', at_0 _ _, (show 7 ≤ sizeLine by decide), fun ln hln => ⟨ln, L7, rfl, .inl (SqL.of upd_same), rfl, rfl, _, rfl, ?_⟩⟩
      have s1 := same_new hln (.lst L7)
      generalize upd H1 ln (.lst L7) = H3 at s1 ⊢
      show if (!inV (.str nm) L7) = true then _ else _
      rcases name_of nm with hz | ⟨n, j, nt, n1, n3, i7, _⟩
      · rw [in7_no hz]
        refine iteT (kq .non _ (S02.trans s1) ?_)
        rw [mv_none (fun q => by have := q.2.form.num; rw [hz] at this; cases this)]
        rfl
      · rw [i7]
        exact iteF ⟨s1, ⟨nm, r, rfl, by rw [nt]; intro q; cases q⟩, rfl⟩
  rintro σ3 H3 ⟨S3, ⟨nm, r, rfl, nn⟩, rfl⟩
  rcases name_of nm with hz | ⟨n, j, nt, n1, n3, i7, ist, j7, hit, hno, hat⟩
  · exact absurd hz nn
  have S03 := S02.trans S3
  have SL3 : SqL K H3 l (.str nm :: r.map V.str) := S3.seq SL
  refine ⟨fun σ H' => Same H3 H' ∧ σ = [some (.str z), some (.int c), some (.ref l), none, some (.int n), none, none], ?_, ?_⟩
  · refine ⟨(show 7 ≤ sizeLine by decide), fun lA hA => ⟨(show 7 ≤ sizeLine by decide), fun lB hB => ?_⟩⟩
    have sA := same_new hA (.lst N7)
    have sB := same_new hB (.lst L7)
    refine ⟨.inl ⟨rfl, _, SqL.of upd_same⟩, _, rfl, l, _, _, .str nm, rfl, rfl, (sA.trans sB).seq SL3, at_0 _ _, lB, L7, .str nm, j, rfl, rfl, SqL.of upd_same, rfl, rfl, ⟨_, hit⟩, no_before hno, by omega, lA, _, _, .int n, rfl, rfl, SqL.of (sB _ _ upd_same), hat, sA.trans sB, rfl⟩
  rintro σ4 H4 ⟨S4, rfl⟩
  have S04 := S03.trans S4
  have SL4 : SqL K H4 l (.str nm :: r.map V.str) := S4.seq SL3
  have rl : r.length ≤ 30002 := by rw [List.length_cons] at wl; omega
  -- the words that are no figures
  refine ⟨_, rfl, _, rfl, l, _, rfl, SL4, fun cp hcp => ?_⟩
  rw [cut_one]
  have s5 := same_new hcp (.lst (r.map V.str))
  have e5 : upd H4 cp (.lst (r.map V.str)) cp = some (.lst (r.map V.str)) := upd_same
  generalize upd H4 cp (.lst (r.map V.str)) = H5 at s5 e5 ⊢
  refine ⟨cp, rfl, ⟨_, SqL.of e5⟩, fun lb hlb => ?_⟩
  refine lcF_strs (K := K) noF hlb (SqL.of e5) (big _ (by omega)) (fun y H6 N hy S6 kN => ?_) (fun y H6 N hy py S6 kN => ⟨_, rfl, kN⟩) (fun H6 S6 a6 => ?_)
  · have fy := wf y (List.mem_cons_of_mem _ hy)
    refine ⟨_, rfl, y, rfl, fine_sz fy, rfl, _, rfl, neI (fun e => ?_) (fun e => ?_)⟩
    · have : noF y = true := by unfold noF; rw [fig_none (fun q => e (by rw [q]; rfl))]; rfl
      rw [this] at kN
      exact kN
    · have ly : y.length = 1 := by omega
      refine ⟨_, rfl, _, _, rfl, rfl, _, rfl, ?_⟩
      have := in_fig ly
      unfold inS at this
      rw [this]
      exact kN
  have S46 := s5.trans S6
  have S06 := S04.trans S46
  have SL6 : SqL K H6 l (.str nm :: r.map V.str) := S46.seq SL4
  have no_len : r.length ≠ n → mvOf c (nm :: r) = none := fun q => mv_none fun p => by
    have := p.2.form.num
    rw [nt, List.length_map] at this
    injection this with this
    injection this with this
    omega
  refine ⟨fun σ H' => Same H6 H' ∧ r.length = n ∧ (∀ y ∈ r, (fig y).isSome = true) ∧ σ = [some (.str z), some (.int c), some (.ref l), none, some (.int n), some (.ref lb), none], ?_, ?_⟩
  · refine ⟨_, rfl, l, _, rfl, .inl SL6, _, rfl, _, _, rfl, rfl, rfl, _, rfl, neI (fun q => kq .non _ S06 (by rw [no_len (fun e => q (by rw [← e]; simp))]; rfl)) (fun q => ?_)⟩
    have rn : r.length = n := by simp at q; omega
    refine ⟨_, rfl, Nat.zero_le _, fun l0 h0 => ⟨lb, l0, _, rfl, rfl, SqL.of (same_new h0 _ _ _ a6), SqL.of upd_same, _, rfl, ?_⟩⟩
    have s7 := same_new h0 (.lst [])
    cases hb : (r.filter noF) with
    | nil =>
      have all : ∀ y ∈ r, (fig y).isSome = true := fun y hy => by
        cases e : (fig y).isSome with
        | true => rfl
        | false =>
          have : y ∈ r.filter noF := List.mem_filter.mpr ⟨hy, by unfold noF; rw [e]; rfl⟩
          rw [hb] at this
          cases this
      exact iteF ⟨s7, rn, all, rfl⟩
    | cons y t =>
      refine iteT (kq .non _ (S06.trans s7) ?_)
      have : y ∈ r.filter noF := by rw [hb]; simp
      obtain ⟨hy, e⟩ := List.mem_filter.mp this
      rw [mv_none fun p => by have := p.1 y hy; unfold noF at e; rw [this] at e; cases e]
      rfl
  rintro σ7 H7 ⟨S7, rn, hf, rfl⟩
  have S07 := S06.trans S7
  have SL7 : SqL K H7 l (.str nm :: r.map V.str) := S7.seq SL6
  -- the numbers
  refine ⟨_, rfl, _, rfl, l, _, rfl, SL7, fun c2 hc2 => ?_⟩
  rw [cut_one]
  have s8 := same_new hc2 (.lst (r.map V.str))
  have e8 : upd H7 c2 (.lst (r.map V.str)) c2 = some (.lst (r.map V.str)) := upd_same
  generalize upd H7 c2 (.lst (r.map V.str)) = H8 at s8 e8 ⊢
  refine ⟨c2, rfl, ⟨_, SqL.of e8⟩, fun lnum hlnum => ?_⟩
  refine lc_strs (K := K) (fun w => .int (val w)) (SqL.of e8) (big _ (by omega)) hlnum (fun y H9 N hy S9 kN => ?_) (fun H9 S9 a9 => ?_)
  · obtain ⟨m, en⟩ := Option.isSome_iff_exists.mp (hf y hy)
    obtain ⟨n9, l1, it⟩ := fig_int en
    refine ⟨_, rfl, y, _, rfl, it, by omega, ?_⟩
    have ev : val y = (m : Int) := by unfold val; rw [en]; rfl
    rw [← ev]
    exact kN
  have ea : r.map (fun w => V.int (val w)) = (r.map val).map V.int := by rw [List.map_map]; rfl
  rw [ea] at a9
  have S09 := S07.trans (s8.trans S9)
  have SL9 : SqL K H9 l (.str nm :: r.map V.str) := (s8.trans S9).seq SL7
  have nl : (r.map val).length = n := by rw [List.length_map, rn]
  have vl : ∀ a ∈ r.map val, 0 ≤ a ∧ a ≤ 9 := fun a ha => by
    obtain ⟨y, hy, rfl⟩ := List.mem_map.mp ha
    exact val_lo (hf y hy)
  have mv : Fits nm (r.map val) c → mvOf c (nm :: r) = some (nm, r.map val) := fun f => mv_some hf f
  have mn : ¬ Fits nm (r.map val) c → mvOf c (nm :: r) = none := fun f => mv_none fun p => f p.2
  generalize mvOf c (nm :: r) = mo at *
  generalize r.map val = ns at *
  refine ⟨fun σ H' => Same H9 H' ∧ Fits nm ns c ∧ σ = [some (.str z), some (.int c), some (.ref l), none, some (.int n), some (.ref lb), some (.ref lnum)], ?_, ?_⟩
  · refine ⟨_, rfl, l, _, _, .str nm, rfl, rfl, SL9, at_0 _ _, rfl, _, rfl, decI (fun zt => ?_) (fun zt => ?_)⟩
    · have et := V.str.inj zt
      have n2 := ist et
      match ns, nl.trans n2, a9, vl, mv, mn with
      | [a, b], _, a9, vl, mv, mn =>
        have SN : SqL K H9 lnum [.int a, .int b] := SqL.of a9
        have va := vl a (by simp)
        have vb := vl b (by simp)
        have bad : ¬ Fits nm [a, b] c → Q .non H9 := fun f => kq .non _ S09 (by rw [mn f]; rfl)
        have en : named nm [a, b] = [a] := if_pos et
        refine ⟨_, rfl, lnum, _, _, .int a, rfl, rfl, SN, rfl, _, rfl, _, _, rfl, rfl, _, rfl, decI (fun q => bad fun f => ?_) (fun q1 => ?_)⟩
        · have := f.low a (by rw [en]; simp)
          omega
        refine ⟨_, rfl, lnum, _, _, .int b, rfl, rfl, SN, rfl, _, _, rfl, rfl, _, rfl, decI (fun q => bad fun f => ?_) (fun q2 => ?_)⟩
        · obtain ⟨a', b', e', k1, k7⟩ := f.form.turn et
          simp at e'
          omega
        refine ⟨_, rfl, lnum, _, _, .int b, rfl, rfl, SN, rfl, _, _, rfl, rfl, _, rfl, decI (fun q => bad fun f => ?_) (fun q3 => ?_)⟩
        · obtain ⟨a', b', e', k1, k7⟩ := f.form.turn et
          simp at e'
          omega
        refine ⟨Same.refl _, ⟨⟨by rw [nt, n2]; rfl, by simp, fun _ => ⟨a, b, rfl, by omega, by omega⟩⟩, fun x hx => ?_, by rw [en]; simp⟩, rfl⟩
        rw [en] at hx
        rw [List.mem_singleton.mp hx]
        exact ⟨va.1, by omega⟩
    · have et : nm ≠ "turn" := fun q => zt (by rw [q])
      have en : named nm ns = ns := if_neg et
      refine ⟨_, rfl, lnum, _, rfl, SqL.of a9, by omega, fun mx mx1 mx2 => ⟨_, rfl, _, _, rfl, rfl, _, rfl, decI (fun q => kq .non _ S09 ?_) (fun q2 => ?_)⟩⟩
      · rw [mn fun f => by have := f.low mx (by rw [en]; exact mx1); omega]
        rfl
      refine ⟨_, rfl, lnum, _, rfl, SqL.of a9, by omega, fun sl S hsl => ?_⟩
      have sS := same_new hsl (.set S (unlike ns))
      have ul := unlike_le (ns := ns)
      refine ⟨sl, S, _, rfl, upd_same, by omega, _, rfl, rfl, _, rfl, neI (fun q => kq .non _ (S09.trans sS) ?_) (fun q3 => ?_)⟩
      · rw [mn fun f => q (by rw [unlike_nodup (by have := f.nd; rw [en] at this; exact this), nl])]
        rfl
      refine ⟨sS, ⟨⟨by rw [nt, nl], by omega, fun t => absurd t et⟩, fun a ha => ?_, ?_⟩, rfl⟩
      · rw [en] at ha
        have h1 := vl a ha
        have h2 := mx2 a ha
        exact ⟨h1.1, by omega⟩
      · rw [en]
        apply Classical.byContradiction
        intro q
        have := unlike_lt q (by omega)
        omega
  rintro σA HA ⟨SA, fits, rfl⟩
  have aA := SA _ _ a9
  refine ⟨_, rfl, l, _, _, .str nm, rfl, rfl, SA.seq SL9, at_0 _ _, (show 1 ≤ sizeLine by decide), fun l1 h1 => ?_⟩
  have s10 := same_new h1 (.lst [.str nm])
  have a10 := s10 _ _ aA
  have b10 : upd HA l1 (.lst [.str nm]) l1 = some (.lst [.str nm]) := upd_same
  generalize upd HA l1 (.lst [.str nm]) = H10 at s10 a10 b10 ⊢
  refine ⟨_, rfl, l1, lnum, _, _, rfl, rfl, b10, a10, big _ (by rw [List.length_map]; simp; omega), fun l2 h2 => ⟨l2, _, rfl, .inl ⟨SqL.of upd_same, fun tp htp => kq _ _ ((S09.trans SA).trans (s10.trans ((same_new h2 _).trans (same_new htp _)))) ?_⟩⟩⟩
  rw [mv fits]
  exact ⟨tp, rfl, upd_same⟩
end
end K95

set_option maxHeartbeats 1000000
/-! == and != of data of any shape -/
namespace L2
open PySem PySem.Spec PyProof.Rows
def DatV (H : Hp) (v : V) (d : PyData) : Prop := ∀ (X : Cx) (pins : List (Addr × Obj)) (σ : St) (s : Shared) (u : Value), Inv X pins σ H s → RelV v u → ∃ as, Reads s.heap u d as
theorem DatV.rd {H : Hp} {v : V} {d : PyData} (r : RdV H v d) : DatV H v d := fun X pins σ s u I ru => reads_rd I r ru
theorem dats_reads {H : Hp} {X : Cx} {pins : List (Addr × Obj)} {σ : St} {s : Shared} (I : Inv X pins σ H s) : ∀ {xs : List V} {ds : List PyData} {us : List Value}, Paired (DatV H) xs ds → Vals xs us → ∃ as, ReadsAll s.heap us ds as
  | [], [], us, .nil, r => by cases r; exact ⟨[], .nil⟩
  | _ :: _, _ :: _, us, .cons f t, r => by
    cases r with
    | cons ru rr =>
      obtain ⟨as, h1⟩ := f X pins σ s _ I ru
      obtain ⟨bs, h2⟩ := dats_reads I t rr
      exact ⟨_, .cons h1 h2⟩
theorem DatV.tup {H : Hp} {p : Addr} {xs : List V} {ds : List PyData} (e : H p = some (.tup xs)) (all : Paired (DatV H) xs ds) : DatV H (.ref p) (.tuple ds) := by
  intro X pins σ s u I r
  cases r
  obtain ⟨its, rv, ⟨o, ho, hc, n, hd⟩, _⟩ := I.tuple (SqT.of e)
  obtain ⟨as, h⟩ := dats_reads I all rv
  exact ⟨_, Reads.tuple ho hc hd (by simpa using h)⟩
theorem DatV.lst {H : Hp} {p : Addr} {xs : List V} {ds : List PyData} (e : H p = some (.lst xs)) (all : Paired (DatV H) xs ds) : DatV H (.ref p) (.list ds) := by
  intro X pins σ s u I r
  cases r
  obtain ⟨its, rv, pl, _⟩ := I.list (SqL.of e)
  obtain ⟨o, ho, hc, n, hd⟩ := pl.isList
  obtain ⟨as, h⟩ := dats_reads I all rv
  exact ⟨_, Reads.list ho hc hd (by simpa using h)⟩
def rDat (neg : Bool) : R2 := fun x y H Q => ∃ d e : PyData, DatV H x d ∧ DatV H y e ∧ SeqAt.shaped d = true ∧ SeqAt.shaped e = true ∧ SeqAt.noMix d e = true ∧ Q (.bl (if neg then !PySem.Spec.same d e else PySem.Spec.same d e)) H
theorem op_eqDat {X : Cx} (hu : X.A.units + 64 < cLine) : OpR X (compareOp .Eq) (rDat false) := by
  intro pins s σ H x y v u Q I rx ry h
  obtain ⟨d, e, h1, h2, s1, s2, nm, q⟩ := h
  obtain ⟨as, ra⟩ := h1 X pins σ s _ I rx
  obtain ⟨bs, rb⟩ := h2 X pins σ s _ I ry
  exact eq_dataH_same ra rb s1 s2 hu nm ⟨.bl (PySem.Spec.same d e), H, I, rfl, q⟩
end L2

set_option maxHeartbeats 1000000
namespace L2
open PySem PySem.Spec PyProof.Rows
theorem lcF_tup0 {K : PySem.W.Frag} {l : Addr} {xs : List V} {tc : TT} {te : TE} {fr : St} {H1 : Hp} {acc : Addr} {Q : VK} (hacc : H1 acc = none) (hl : SqT K H1 l xs) (hn : xs.length ≤ sizeLine)
    (hs : ∀ z H (N : Bool → Hp → Prop), z ∈ xs → Same H1 H → N false H → tc (some z :: fr) H N)
    (hd : ∀ H2, Same H1 H2 → H2 acc = some (.lst []) → Q (.ref acc) H2) : LcWF (Itt K l) (gName 0) tc te (none :: fr) H1 acc Q := by
  refine ⟨fun i m ys σ2 H2 => m = xs.length - i ∧ i ≤ xs.length ∧ (∃ v, σ2 = v :: fr) ∧ Same H1 H2 ∧ H2 acc = some (.lst ys) ∧ ys = [], ⟨xs.length, by simp, Nat.zero_le _, ⟨_, rfl⟩, same_new hacc _, upd_same, rfl⟩, ?_⟩
  rintro i m ys σ2 H2 ⟨rfl, hi, ⟨v, rfl⟩, s2, a2, e2⟩
  by_cases hlt : i < xs.length
  · have e1 : xs[i]? = some xs[i] := by simp [hlt]
    have mem : xs[i] ∈ xs := List.getElem_mem hlt
    refine .inr ⟨⟨_, _, s2.tup hl, e1⟩, fun u H3 y3 => ?_⟩
    obtain ⟨rfl, y4⟩ := y3
    have := y4 _ (s2.tup hl)
    rw [e1] at this
    cases this
    exact hs xs[i] _ _ mem s2 ⟨(fun hp => by cases hp), fun hp => ⟨xs.length - (i + 1), by omega, rfl, hlt, ⟨_, rfl⟩, s2, a2, e2⟩⟩
  · have e : i = xs.length := by omega
    subst e
    subst e2
    exact .inl ⟨⟨_, s2.tup hl, Nat.le_refl _⟩, hd H2 s2 a2⟩
end L2
namespace K95
open PySem PySem.Spec PyProof.Rows L2 Am Pc Ba M35
open Pt hiding kit_tt
open M24
def pdat : Prt → PyData
  | .inl m => .tuple (.str m.1 :: m.2.map PyData.int)
  | .inr (q, f, s) => .tuple [.str "look", .tuple [.int q, .int f, .int s]]
def play (c : Nat) (ms : List Prt) : PyData := .tuple [.int c, .list (ms.map pdat)]
def OkP : Prt → Prop
  | .inl m => PyData.strOk m.1 = true ∧ m.2.length ≤ 3 ∧ 1 ≤ m.2.length ∧ m.1 ≠ Str.ofString "look"
  | .inr _ => True
theorem paired_ints {H : Hp} : ∀ ns : List Int, Paired (DatV H) (ns.map V.int) (ns.map PyData.int)
  | [] => .nil
  | n :: ns => .cons (DatV.rd (.flat (.int n))) (paired_ints ns)
theorem lay_str {x : Str} (h : PyData.strOk x = true) : PyData.canLay0 (.str x) = true := by simpa [PyData.canLay0] using h
theorem prt_dat {H : Hp} {p : Addr} {m : Prt} (h : PrtA H p m) (ok : OkP m) : DatV H (.ref p) (pdat m) := by
  cases m with
  | inl m => exact DatV.tup h (.cons (DatV.rd (.flat (.str _ (lay_str ok.1)))) (paired_ints _))
  | inr m =>
    obtain ⟨q, f, s⟩ := m
    obtain ⟨r, h1, h2⟩ := h
    exact DatV.tup h1 (.cons (DatV.rd (.flat (.str _ (lay_str (by decide +kernel))))) (.cons (DatV.tup h2 (paired_ints [(q : Int), f, s])) .nil))
theorem prts_dat {H : Hp} : ∀ {rp : List Addr} {ms : List Prt}, Prts H rp ms → (∀ m ∈ ms, OkP m) → Paired (DatV H) (rp.map V.ref) (ms.map pdat)
  | _, _, .nil, _ => .nil
  | _, _, .cons a t, ok => .cons (prt_dat a (ok _ (by simp))) (prts_dat t fun m hm => ok m (List.mem_cons_of_mem _ hm))
theorem play_dat {H : Hp} {v : V} {c : Nat} {ms : List Prt} (h : Play H v c ms) (ok : ∀ m ∈ ms, OkP m) : DatV H v (play c ms) := by
  obtain ⟨p, l, rp, rfl, h1, h2, R⟩ := h
  exact DatV.tup h1 (.cons (DatV.rd (.flat (.int c))) (.cons (DatV.lst h2 (prts_dat R ok)) .nil))
def fineD (n : Nat) (d : PyData) : Prop := PyData.canLay0 d = true ∧ PyData.depth d ≤ n ∧ SeqAt.noMix d d = true ∧ PySem.Spec.same d d = true
theorem fine_all {n : Nat} : ∀ {ds : List PyData}, (∀ d ∈ ds, fineD n d) → PyData.canLayAll0 ds = true ∧ PyData.depthAll ds ≤ n ∧ SeqAt.noMixAll ds ds = true ∧ PySem.Spec.sameAll ds ds = true
  | [], _ => by simp [PyData.canLayAll0, PyData.depthAll, SeqAt.noMixAll, PySem.Spec.sameAll]
  | d :: ds, h => by
    obtain ⟨a1, a2, a3, a4⟩ := h d (by simp)
    obtain ⟨b1, b2, b3, b4⟩ := fine_all fun x hx => h x (List.mem_cons_of_mem _ hx)
    refine ⟨by simp [PyData.canLayAll0, a1, b1], ?_, by simp [SeqAt.noMixAll, a3, b3], by simp [PySem.Spec.sameAll, a4, b4]⟩
    simp only [PyData.depthAll]
    omega
theorem fine_tup {n : Nat} {ds : List PyData} (h : ∀ d ∈ ds, fineD n d) : fineD (n + 1) (.tuple ds) := by
  obtain ⟨b1, b2, b3, b4⟩ := fine_all h
  exact ⟨by simpa [PyData.canLay0] using b1, by simp [PyData.depth]; omega, by simpa [SeqAt.noMix] using b3, by simpa [PySem.Spec.same] using b4⟩
theorem fine_lst {n : Nat} {ds : List PyData} (h : ∀ d ∈ ds, fineD n d) : fineD (n + 1) (.list ds) := by
  obtain ⟨b1, b2, b3, b4⟩ := fine_all h
  exact ⟨by simpa [PyData.canLay0] using b1, by simp [PyData.depth]; omega, by simpa [SeqAt.noMix] using b3, by simpa [PySem.Spec.same] using b4⟩
theorem fine_int (n : Nat) (i : Int) : fineD n (.int i) := by simp [fineD, PyData.canLay0, PyData.depth, SeqAt.noMix, PySem.Spec.same]
theorem fine_str (n : Nat) {x : Str} (h : PyData.strOk x = true) : fineD n (.str x) := ⟨lay_str h, by simp [PyData.depth], by simp [SeqAt.noMix], by simp [PySem.Spec.same]⟩
theorem fine_pt {m : Prt} (ok : OkP m) : fineD 2 (pdat m) := by
  cases m with
  | inl m =>
    refine fine_tup fun d hd => ?_
    rcases List.mem_cons.mp hd with rfl | hd
    · exact fine_str _ ok.1
    · obtain ⟨i, _, rfl⟩ := List.mem_map.mp hd; exact fine_int _ i
  | inr m =>
    obtain ⟨q, f, s⟩ := m
    refine fine_tup fun d hd => ?_
    simp only [List.mem_cons, List.not_mem_nil, or_false] at hd
    rcases hd with rfl | rfl
    · exact fine_str _ (by decide +kernel)
    · refine fine_tup fun d hd => ?_
      simp only [List.mem_cons, List.not_mem_nil, or_false] at hd
      rcases hd with rfl | rfl | rfl <;> exact fine_int _ _
theorem fine_play (c : Nat) {ms : List Prt} (ok : ∀ m ∈ ms, OkP m) : fineD 4 (play c ms) := by
  refine fine_tup fun d hd => ?_
  simp only [List.mem_cons, List.not_mem_nil, or_false] at hd
  rcases hd with rfl | rfl
  · exact fine_int _ _
  · refine fine_lst fun d hd => ?_
    obtain ⟨m, hm, rfl⟩ := List.mem_map.mp hd
    exact fine_pt (ok m hm)
theorem Play.same {H H' : Hp} {v : V} {c : Nat} {ms : List Prt} (h : Play H v c ms) (s : Same H H') : Play H' v c ms := by
  obtain ⟨p, l, rp, e, h1, h2, R⟩ := h
  exact ⟨p, l, rp, e, s _ _ h1, s _ _ h2, R.same s⟩
def spIsPlay : Sp := fun vs H Q _ => ∃ (v v' : V) (c : Nat) (ms : List Prt), vs = [v, v'] ∧ Play H v c ms ∧ Play H v' c ms ∧ (∀ m ∈ ms, OkP m) ∧ ms.length ≤ 30002 ∧ ∀ H', Same H H' → Q (.bl true) H'
section
variable {P : Program} {w : World} {K : PySem.W.Frag} {mg : Str → Option Value} {base : Heap} {k : Nat} {h : Heap}
theorem sc_isplay : FnScope ["_law_found", "_law_due_here", "_law_part_here", "_law_numbers"] ["_law_found", "_law_due_here"] (defScope (top 51)) := ⟨rfl, rfl, rfl, by decide +kernel, rfl, by decide +kernel, by decide +kernel⟩
theorem ok_isplay (F : FunAt K "_law_is_play" (top 51) .none) (X : K.In h) (G : h.Ns mainGlobals mg) (B : Bs mg) (c__law_whole : Cal P w K mg base k "_law_whole" ["_law_found"] spWhole) : Cal P w K mg base (k + 1) "_law_is_play" ["_law_found", "_law_due_here"] spIsPlay := by
  have nd := sc_isplay.nd
  refine F.cal X G sc_isplay (bnd2 fun _ _ _ _ _ _ _ _ => rfl) (fun vs H Q E h => ?_) (fun f cdv A outer s H vs Q E hr h => ?_)
  · obtain ⟨v, v', c, ms, rfl, _⟩ := h; rfl
  obtain ⟨v, v', c, ms, rfl, P1, P2, ok, ml, kq⟩ := h
  refine ⟨_, (@pss_cons _ _ _ _ _ (ps_if (PW.pt (pw_or (pt_not (pt_val (pe_callB call_isinst rfl B.isinstance boot_isinstance (pa_cons (pv 0) (pa_cons (pe_bltn (v := .ty "tuple") rfl B.tuple boot_tuple rfl) pa_nil))))) (pw_or (pt_cmpR op_ne (pe_callB call_len_seq rfl B.len PySem.boot_len (pa_cons (pv 0) pa_nil)) pe_int (nomark _)) (pw_or (pt_not (pt_val (pe_cal c__law_whole hr rfl (pa_cons (pe_ix ix_tup (pv 0) pe_int (fun _ _ => rfl)) pa_nil)))) (pw_or1 (pt_not (pt_val (pe_callB call_isinst rfl B.isinstance boot_isinstance (pa_cons (pe_ix ix_tup (pv 0) pe_int (fun _ _ => rfl)) (pa_cons (pe_bltn (v := .ty "list") rfl B.list boot_list rfl) pa_nil))))))))))
      (@pss_one _ _ _ (ps_ret pe_bl))
      pss_nil)
    (@pss_cons _ _ _ _ _ (ps_for PassesOwn.never rfl (pi_list (pe_ix ix_tup (pv 0) pe_int (fun _ _ => rfl))) (pg_name (i := 2) nd rfl (Or.inl rfl))
      (@pss_cons _ _ _ _ _ (ps_if (PW.pt (pw_or (pt_not (pt_val (pe_callB call_isinst rfl B.isinstance boot_isinstance (pa_cons (pv 2) (pa_cons (pe_bltn (v := .ty "tuple") rfl B.tuple boot_tuple rfl) pa_nil))))) (pw_or1 (pt_cmpR op_lt (pe_callB call_len_seq rfl B.len PySem.boot_len (pa_cons (pv 2) pa_nil)) pe_int (nomark _)))))
        (@pss_one _ _ _ (ps_ret pe_bl))
        pss_nil)
      (@pss_cons _ _ _ _ _ (@ps_set _ _ 3 _ _ _ _ nd rfl (Or.inl rfl) (pe_slice sl_tupA (pv 2) (po_some pe_int) po_none) rfl (.inl rfl))
      (@pss_cut _ _ _ _ _ (ps_if (pt_cmpR op_eq (pe_ix ix_tup (pv 2) pe_int (fun _ _ => rfl)) pe_str (nomark _))
        (@pss_one _ _ _ (@ps_set _ _ 3 _ _ _ _ nd rfl (Or.inl rfl) (pe_ix ix_tup (pv 2) pe_int (fun _ _ => rfl)) rfl (.inl rfl)))
        pss_nil)
      (@pss_one _ _ _ (ps_if (PW.pt (pw_or (pt_not (pt_val (pe_callB call_isinst rfl B.isinstance boot_isinstance (pa_cons (pv 3) (pa_cons (pe_bltn (v := .ty "tuple") rfl B.tuple boot_tuple rfl) pa_nil))))) (pw_or1 (pt_cmpR (op_neNil hr.units) (pe_lcF rfl (LcOk.of (Nc := ["_law_number"]) (mp := [none]) (by kernel_rfl)) (pi_tup (pv 3)) (fun _ _ _ _ => (pg_name (i := 0) (show (["_law_number"] : List Str).Nodup by decide +kernel) rfl (Or.inl rfl))) (fun _ _ _ _ => (pt_not (pt_val (pe_cal c__law_whole hr rfl (pa_cons (pv 0) pa_nil))))) (fun _ _ _ _ => (pv 0))) (@pe_lst _ _ _ _ pa_nil) (nomark _)))))
        (@pss_one _ _ _ (ps_ret pe_bl))
        pss_nil))))))
    (@pss_one _ _ _ (ps_ret (pe_cmpR (op_eqDat hr.units) (pv 0) (pv 1) (nomark _)))))), ?_⟩
  try dsimp only [cxK]
  obtain ⟨p, l, rp, rfl, hp, hl, R⟩ := id P1
  have SP : SqT K H p [.int c, .ref l] := SqT.of hp
  have lp := Paired.length R
  refine ⟨_, rfl, _, _, _, true, rfl, TyOf.tup hp, kit_tt K, _, rfl, iteF ⟨_, rfl, p, _, rfl, .inr SP, rfl, _, rfl, neI (fun e => absurd rfl e) (fun _ => ?_)⟩⟩
  refine ⟨_, rfl, p, _, _, _, rfl, rfl, SP, rfl, c, rfl, _, rfl, iteF ⟨_, rfl, p, _, _, _, rfl, rfl, SP, rfl, _, _, _, true, rfl, TyOf.lst hl, kit_ll K, _, rfl, iteF ?_⟩⟩
  refine ⟨_, rfl, p, _, _, _, rfl, rfl, SP, rfl, l, rfl, ⟨_, SqL.of hl⟩, for_list (K := K) (a := l) (xs := rp.map V.ref) (fun i σ H' => Same H H' ∧ ∃ v2 v3 : Option V, σ = [some (.ref p), some v', v2, v3]) ⟨Same.refl _, none, none, rfl⟩ (fun i σ H' _ e => SqL.of (e.1 _ _ hl)) ?_ ?_⟩
  · rintro i x σ H1 hx ⟨S1, v2, v3, rfl⟩
    rw [List.getElem?_map] at hx
    obtain ⟨q, iq, rfl⟩ := Option.map_eq_some_iff.mp hx
    have hi : i < ms.length := by have := (List.getElem?_eq_some_iff.mp iq).1; omega
    have em := List.getElem?_eq_getElem hi
    obtain ⟨q', iq', hq⟩ := prts_get R em
    rw [iq] at iq'
    cases iq'
    have okm := ok _ (List.getElem_mem hi)
    generalize ms[i] = m at *
    have hq1 := hq.same S1
    obtain ⟨nm, xs, hqt, xl⟩ : ∃ nm xs, H1 q = some (.tup (.str nm :: xs)) ∧ 1 ≤ xs.length := by
      cases m with
      | inl m => exact ⟨m.1, m.2.map V.int, hq1, by rw [List.length_map]; exact okm.2.2.1⟩
      | inr m => obtain ⟨a, b, c⟩ := m; obtain ⟨r, h1, _⟩ := hq1; exact ⟨_, _, h1, by simp⟩
    refine ⟨_, rfl, _, _, _, true, rfl, TyOf.tup hqt, kit_tt K, _, rfl, iteF ⟨_, rfl, q, _, rfl, .inr (SqT.of hqt), _, _, rfl, rfl, _, rfl, decI (fun e => absurd e (by simp; omega)) (fun _ => ?_)⟩⟩
    refine ⟨_, rfl, _, rfl, q, _, rfl, SqT.of hqt, .inr ⟨fun c => absurd c.1 (by rw [one_ix]; decide), fun r hr => ?_⟩⟩
    rw [cut_one]
    have sR := same_new hr (.tup xs)
    have eR : upd H1 r (.tup xs) r = some (.tup xs) := upd_same
    generalize upd H1 r (.tup xs) = H2 at sR eR ⊢
    have hq2 := hq1.same sR
    refine ⟨fun σ H' => Same H2 H' ∧ ∃ (r : Addr) (ns : List Int), H' r = some (.tup (ns.map V.int)) ∧ ns.length ≤ 3 ∧ σ = [some (.ref p), some v', some (.ref q), some (.ref r)], ?_, ?_⟩
    · refine ⟨_, rfl, q, _, _, .str nm, rfl, rfl, SqT.of (sR _ _ hqt), at_0 _ _, rfl, _, rfl, ?_⟩
      cases m with
      | inl m =>
        have e : H1 q = some (.tup (.str m.1 :: m.2.map V.int)) := hq1
        rw [hqt] at e
        injection e with e
        injection e with e
        injection e with e1 e2
        injection e1 with e1
        subst e1 e2
        exact decI (fun z => absurd (V.str.inj z) okm.2.2.2) (fun _ => ⟨Same.refl _, r, m.2, eR, okm.2.1, rfl⟩)
      | inr m =>
        obtain ⟨a, b, c'⟩ := m
        obtain ⟨r', h1, h2⟩ := hq2
        have e := sR _ _ hqt
        rw [h1] at e
        injection e with e
        injection e with e
        injection e with e1 e2
        injection e1 with e1
        subst e1
        exact decI (fun _ => ⟨_, rfl, q, _, _, .ref r', rfl, rfl, SqT.of h1, rfl, Same.refl _, r', [(a : Int), b, c'], h2, by simp, rfl⟩) (fun z => absurd rfl z)
    rintro σ3 H3 ⟨S3, r3, ns, h3, n3, rfl⟩
    refine ⟨_, rfl, _, _, _, true, rfl, TyOf.tup h3, kit_tt K, _, rfl, iteF ⟨_, rfl, r3, rfl, ⟨_, SqT.of h3⟩, fun acc hacc => ?_⟩⟩
    refine lcF_tup0 (K := K) hacc (SqT.of h3) (small (by rw [List.length_map]; omega)) (fun y H4 N hy S4 kN => ?_) (fun H4 S4 a4 => ?_)
    · obtain ⟨i, _, rfl⟩ := List.mem_map.mp hy
      exact ⟨_, rfl, i, rfl, _, rfl, kN⟩
    · refine ⟨Nat.zero_le _, fun l0 h0 => ⟨acc, l0, [], rfl, rfl, SqL.of (same_new h0 _ _ _ a4), SqL.of upd_same, _, rfl, iteF ⟨S1.trans (sR.trans (S3.trans (S4.trans (same_new h0 _)))), _, _, rfl⟩⟩⟩
  · rintro σ H1 ⟨S1, v2, v3, rfl⟩
    obtain ⟨f1, f2, f3, f4⟩ := fine_play c ok
    have sh : SeqAt.shaped (play c ms) = true := by
      show (PyData.canLay0 _ && decide _) = true
      rw [Bool.and_eq_true]
      exact ⟨f1, decide_eq_true (by omega)⟩
    refine ⟨_, rfl, _, rfl, play c ms, play c ms, play_dat (P1.same S1) ok, play_dat (P2.same S1) ok, sh, sh, f3, ?_⟩
    have e : (if false = true then !PySem.Spec.same (play c ms) (play c ms) else PySem.Spec.same (play c ms) (play c ms)) = true := f4
    rw [e]
    exact kq H1 S1
end
end K95

/-! z.join([str(y) for y in ..]) in any context, also inside a block -/
namespace L2
open PySem PySem.Spec PyProof.Rows
def rJoin (K : PySem.W.Frag) : V → List V → Hp → VK → Prop := fun x xs H Q => ∃ z p texts, x = .str z ∧ xs = [.ref p] ∧ SqL K H p (texts.map V.str) ∧ JoinOk z texts = true ∧ Q (.str (Txt.join z texts)) H
end L2

/-! z.join(a name) -/
namespace L2
open PySem PySem.Spec PyProof.Rows
theorem pe_joinV {X : Cx} {K : PySem.W.Frag} {z x0 : Str} {i : Nat} {j} {p2 p7 apos cpos : Pos} (hK : X.K = K) (h0 : X.N[i]? = some x0) (hv0 : Vis X.env.scope x0) (hl : (apos.endLine == cpos.line) = true) (hx1 : (x0 == ("__debug__" : Str)) = false) (hx2 : (x0 == ("__classdict__" : Str)) = false) :
    PE X (.Call (.Attribute (.Constant (.str z) j p2) "join" apos) [.Name x0 p7] [] cpos) (tBM K "str" (rJoin K) (tC (.str z)) (tCons (tVar i) tNil)) := by
  subst hK
  exact pe_bm PySem.F.plainAttrs_str PySem.F.slot_str_join PySem.F.type_str_join mt_join pe_str (pa_cons (pe_var h0 hv0 hx1 hx2) pa_nil) rfl rfl hl
end L2

set_option maxHeartbeats 1000000
namespace K95
open PySem PySem.Spec PyProof.Rows L2 Am Pc Ba M35
open Pt hiding kit_tt
open M24
theorem cut_all {z : Str} {lo hi : Option Int} : (Txt.slice z lo hi).length ≤ z.length := Txt.slice_le z _ _
theorem sum_set : ∀ (l : List Str) (i : Nat) (y : Str), ((l.set i y).map (·.length)).sum ≤ (l.map (·.length)).sum + y.length
  | [], i, y => by simp
  | a :: l, 0, y => by simp only [List.set_cons_zero, List.map_cons, List.sum_cons]; omega
  | a :: l, i + 1, y => by
    have := sum_set l i y
    simp only [List.set_cons_succ, List.map_cons, List.sum_cons]; omega
abbrev ODD : List Str := ["", " ", "flip", "flip 6", "flip 00", "Flip 0", "flip 0 1", "turn 0 8", "turn 0 0", "if 0 0", "cross 0 1", "look", "look +", "look + s", "look +sssssss", "flop 0", "flip 5", "pair 4 0", "look +s", "look -.f"]
theorem odd_len : ∀ m ∈ ODD, m.length ≤ 14 := by decide
theorem pickS {l : List Str} {B : Nat} (hB : ∀ m ∈ l, m.length ≤ B) {i : Int} (h0 : 0 ≤ i) (h1 : i < l.length) : ∃ x : Str, x.length ≤ B ∧ atI (l.map V.str) i = some (.str x) := by
  obtain ⟨v, hv, e⟩ := pickV (l := l.map V.str) h0 (by rw [List.length_map]; exact h1)
  obtain ⟨x, hx, rfl⟩ := List.mem_map.mp hv
  exact ⟨x, hB x hx, e⟩
def spSpoil : Sp := fun vs H Q _ => ∃ (z : Str) (way cell sign : Int), vs = [.str z, .int way, .int cell, .int sign] ∧ z.length ≤ 4000 ∧ ∀ (z' : Str) (H' : Hp), Fine z' → Same H H' → Q (.str z') H'
theorem l64 : (Str.ofString " !\"#$&'()*+,-./0123456789:;<=>?@ABCDEFGHIJKLMNOPQRSTUVWXYZ[\\]^_`").length = 64 := by decide +kernel
theorem l30 : (Str.ofString "abcdefghijklmnopqrstuvwxyz{|}~").length = 30 := by decide +kernel
section
variable {P : Program} {w : World} {K : PySem.W.Frag} {mg : Str → Option Value} {base : Heap} {k : Nat} {h : Heap}
theorem sc_spoil : FnScope ["_law_line_here", "_law_way", "_law_cell", "_law_sign", "_law_at", "_law_signs", "_law_odd", "_law_some", "_law_place", "_law_first", "_law_tail"] ["_law_line_here", "_law_way", "_law_cell", "_law_sign"] (defScope (top 47)) := ⟨rfl, rfl, rfl, by decide +kernel, rfl, by decide +kernel, by decide +kernel⟩
theorem ok_spoil (F : FunAt K "_law_spoiled" (top 47) .none) (X : K.In h) (G : h.Ns mainGlobals mg) (B : Bs mg) : Cal P w K mg base (k + 1) "_law_spoiled" ["_law_line_here", "_law_way", "_law_cell", "_law_sign"] spSpoil := by
  have nd := sc_spoil.nd
  refine F.cal X G sc_spoil (bnd4 fun _ _ _ _ _ _ _ _ _ _ => rfl) (fun vs H Q E h => ?_) (fun f cdv A outer s H vs Q E hr h => ?_)
  · obtain ⟨z, way, cell, sign, rfl, _⟩ := h; rfl
  obtain ⟨z, way, cell, sign, rfl, hz, q⟩ := h
  have zs : z.length ≤ sizeLine := small (by omega)
  have sl : ∀ lo hi, (Txt.slice z lo hi).length ≤ 4000 := fun lo hi => Nat.le_trans cut_all hz
  refine ⟨_, (@pss_cons _ _ _ _ _ (@ps_set _ _ 4 _ _ _ _ nd rfl (Or.inl rfl) (pe_op op_mod (pv 2) (pe_op op_add (pe_callB call_len_str rfl B.len PySem.boot_len (pa_cons (pv 0) pa_nil)) pe_int)) rfl (.inl rfl))
    (@pss_cons _ _ _ _ _ (@ps_set _ _ 5 _ _ _ _ nd rfl (Or.inl rfl) pe_str rfl (.inl rfl))
    (@pss_cons _ _ _ _ _ (@ps_set _ _ 5 _ _ _ _ nd rfl (Or.inl rfl) (@pe_op _ _ _ _ _ _ _ _ op_add_str (pv 5) pe_str) rfl (.inl rfl))
    (@pss_cons _ _ _ _ _ (ps_if (pt_cmpR op_eq (pv 1) pe_int (nomark _))
      (@pss_one _ _ _ (@ps_ret _ _ _ _ (@pe_op _ _ _ _ _ _ _ _ op_add_str (@pe_op _ _ _ _ _ _ _ _ op_add_str (pe_slice sl_str (pv 0) po_none (po_some (pv 4))) (pe_ix ix_str (pv 5) (pe_op op_mod (pv 3) pe_int) (fun _ _ => rfl))) (pe_slice sl_str (pv 0) (po_some (pv 4)) po_none))))
      pss_nil)
    (@pss_cons _ _ _ _ _ (ps_if (pt_cmpR op_eq (pv 1) pe_int (nomark _))
      (@pss_one _ _ _ (@ps_ret _ _ _ _ (@pe_op _ _ _ _ _ _ _ _ op_add_str (pe_slice sl_str (pv 0) po_none (po_some (pv 4))) (pe_slice sl_str (pv 0) (po_some (pe_op op_add (pv 4) pe_int)) po_none))))
      pss_nil)
    (@pss_cons _ _ _ _ _ (ps_if (pt_cmpR op_eq (pv 1) pe_int (nomark _))
      (@pss_cons _ _ _ _ _ (@ps_set _ _ 6 _ _ _ _ nd rfl (Or.inl rfl) (@pe_lst _ _ _ _ (@pa_cons _ _ _ _ _ pe_str (@pa_cons _ _ _ _ _ pe_str (@pa_cons _ _ _ _ _ pe_str (@pa_cons _ _ _ _ _ pe_str (@pa_cons _ _ _ _ _ pe_str (@pa_cons _ _ _ _ _ pe_str (@pa_cons _ _ _ _ _ pe_str (@pa_cons _ _ _ _ _ pe_str pa_nil rfl) rfl) rfl) rfl) rfl) rfl) rfl) rfl)) rfl (.inl rfl))
      (@pss_cons _ _ _ _ _ (@ps_set _ _ 6 _ _ _ _ nd rfl (Or.inl rfl) (pe_op op_cat (pv 6) (@pe_lst _ _ _ _ (@pa_cons _ _ _ _ _ pe_str (@pa_cons _ _ _ _ _ pe_str (@pa_cons _ _ _ _ _ pe_str (@pa_cons _ _ _ _ _ pe_str (@pa_cons _ _ _ _ _ pe_str (@pa_cons _ _ _ _ _ pe_str pa_nil rfl) rfl) rfl) rfl) rfl) rfl))) rfl (.inl rfl))
      (@pss_cons _ _ _ _ _ (@ps_set _ _ 6 _ _ _ _ nd rfl (Or.inl rfl) (pe_op op_cat (pv 6) (@pe_lst _ _ _ _ (@pa_cons _ _ _ _ _ pe_str (@pa_cons _ _ _ _ _ pe_str (@pa_cons _ _ _ _ _ pe_str (@pa_cons _ _ _ _ _ pe_str (@pa_cons _ _ _ _ _ pe_str (@pa_cons _ _ _ _ _ pe_str pa_nil rfl) rfl) rfl) rfl) rfl) rfl))) rfl (.inl rfl))
      (@pss_cut _ _ _ _ _ (@ps_set _ _ 7 _ _ _ _ nd rfl (Or.inl rfl) (pe_bm PySem.F.plainAttrs_str PySem.F.slot_str_split PySem.F.type_str_split mt_split (pv 0) (pa_cons pe_str pa_nil)) rfl (.inl rfl))
      (@pss_cons _ _ _ _ _ (@ps_set _ _ 8 _ _ _ _ nd rfl (Or.inl rfl) (pe_op op_mod (pv 2) (pe_callB call_len_seq rfl B.len PySem.boot_len (pa_cons (pv 7) pa_nil))) rfl (.inl rfl))
      (@pss_cons _ _ _ _ _ (@ps_set _ _ 9 _ _ _ _ nd rfl (Or.inl rfl) pe_str rfl (.inl rfl))
      (@pss_cut _ _ _ _ _ (ps_if (pt_cmpR op_eq (pv 8) pe_int (nomark _))
        (@pss_one _ _ _ (@ps_set _ _ 9 _ _ _ _ nd rfl (Or.inl rfl) (@pe_op _ _ _ _ _ _ _ _ op_add_str (@pe_ix _ _ _ _ _ _ _ ix_tup (pe_bm PySem.F.plainAttrs_str PySem.F.slot_str_partition PySem.F.type_str_partition mt_part (pv 0) (pa_cons pe_str pa_nil)) pe_int (fun _ _ => rfl)) pe_str) rfl (.inl rfl)))
        pss_nil)
      (@pss_cons _ _ _ _ _ (ps_asg (@pe_op _ _ _ _ _ _ _ _ op_add_str (pv 9) (pe_ix ix_list (pv 6) (pe_op op_mod (pv 3) pe_int) (fun _ _ => rfl))) (pg_sub (pv 7) (pv 8) set_list))
      (@pss_one _ _ _ (@ps_ret _ _ _ _ (@pe_joinV _ K _ _ 7 _ _ _ _ _ rfl rfl (Or.inl rfl) rfl rfl rfl)))))))))))
      pss_nil)
    (@pss_cons _ _ _ _ _ (@ps_set _ _ 10 _ _ _ _ nd rfl (Or.inl rfl) (@pe_ix _ _ _ _ _ _ _ ix_tup (pe_bm PySem.F.plainAttrs_str PySem.F.slot_str_partition PySem.F.type_str_partition mt_part (pv 0) (pa_cons pe_str pa_nil)) pe_int (fun _ _ => rfl)) rfl (.inl rfl))
    (@pss_one _ _ _ (@ps_ret _ _ _ _ (@pe_op _ _ _ _ _ _ _ _ op_add_str (@pe_op _ _ _ _ _ _ _ _ op_add_str (@pe_ix _ _ _ _ _ _ _ ix_list (@pe_lst _ _ _ _ (@pa_cons _ _ _ _ _ pe_str (@pa_cons _ _ _ _ _ pe_str (@pa_cons _ _ _ _ _ pe_str (@pa_cons _ _ _ _ _ pe_str (@pa_cons _ _ _ _ _ pe_str (@pa_cons _ _ _ _ _ pe_str (@pa_cons _ _ _ _ _ pe_str (@pa_cons _ _ _ _ _ pe_str (@pa_cons _ _ _ _ _ pe_str (@pa_cons _ _ _ _ _ pe_str pa_nil rfl) rfl) rfl) rfl) rfl) rfl) rfl) rfl) rfl) rfl)) (pe_op op_mod (pv 3) pe_int) (fun _ _ => rfl)) (@pe_ix _ _ _ _ _ _ _ ix_list (@pe_lst _ _ _ _ (@pa_cons _ _ _ _ _ pe_str (@pa_cons _ _ _ _ _ pe_str pa_nil rfl) rfl)) (pe_op op_mod (pv 2) pe_int) (fun _ _ => rfl))) (pv 10))))))))))), ?_⟩
  try dsimp only [cxK]
  refine ⟨_, rfl, _, rfl, z, rfl, zs, _, _, rfl, rfl, _, _, rfl, rfl, (by show (0 : Int) < (z.length : Int) + 1; omega), ?_⟩
  refine ⟨_, rfl, _, _, rfl, rfl, small (by rw [l64, l30]; decide), ?_⟩
  have s94 : (Str.ofString " !\"#$&'()*+,-./0123456789:;<=>?@ABCDEFGHIJKLMNOPQRSTUVWXYZ[\\]^_`" ++ Str.ofString "abcdefghijklmnopqrstuvwxyz{|}~").length = 94 := by rw [app_len, l64, l30]
  refine ⟨_, rfl, rfl, _, rfl, eqI (fun _ => ?_) (fun _ => ?_)⟩
  · have b0 := Int.emod_nonneg sign (show (94 : Int) ≠ 0 by decide)
    have b1 := Int.emod_lt_of_pos sign (show (0 : Int) < 94 by decide)
    obtain ⟨ch, ech⟩ := atS (z := Str.ofString " !\"#$&'()*+,-./0123456789:;<=>?@ABCDEFGHIJKLMNOPQRSTUVWXYZ[\\]^_`" ++ Str.ofString "abcdefghijklmnopqrstuvwxyz{|}~") (i := sign % 94) b0 (by rw [s94]; exact b1)
    refine ⟨_, rfl, _, rfl, _, rfl, z, rfl, zs, _, rfl, _, rfl, _, _, rfl, rfl, (by decide : (0 : Int) < 94), _, _, ch, rfl, rfl, small (by rw [s94]; decide), ech, _, _, rfl, rfl, small (by have := sl none (some (cell % ((z.length : Int) + 1))); rw [one_len]; omega), ?_⟩
    refine ⟨_, rfl, _, rfl, _, rfl, z, rfl, zs, _, _, rfl, rfl, small ?_, q _ _ ?_ (Same.refl _)⟩
    all_goals (have h1 := sl none (some (cell % ((z.length : Int) + 1))); have h2 := sl (some (cell % ((z.length : Int) + 1))) none; (try unfold Fine); (try simp only [app_len, one_len]); omega)
  refine ⟨_, rfl, rfl, _, rfl, eqI (fun _ => ?_) (fun _ => ?_)⟩
  · refine ⟨_, rfl, _, rfl, _, rfl, z, rfl, zs, _, rfl, _, rfl, _, _, rfl, rfl, _, rfl, z, rfl, zs, _, _, rfl, rfl, small ?_, q _ _ ?_ (Same.refl _)⟩
    all_goals (have h1 := sl none (some (cell % ((z.length : Int) + 1))); have h2 := sl (some (cell % ((z.length : Int) + 1) + 1)) none; (try unfold Fine); (try simp only [app_len]); omega)
  have fp := PyProof.Rows.fact_partition z (Str.ofString ":")
  refine ⟨_, rfl, rfl, _, rfl, eqI (fun _ => ?_) (fun _ => ?_)⟩
  · refine ⟨(show 8 ≤ sizeLine by decide), fun l1 h1 => ?_⟩
    have s1 := same_new h1 (.lst ((ODD.take 8).map V.str))
    have e1 : upd H l1 (.lst ((ODD.take 8).map V.str)) l1 = some (.lst ((ODD.take 8).map V.str)) := upd_same
    refine ⟨_, rfl, (show 6 ≤ sizeLine by decide), fun l2 h2 => ?_⟩
    have s2 := same_new h2 (.lst (((ODD.drop 8).take 6).map V.str))
    refine ⟨l1, l2, _, _, rfl, rfl, s2 _ _ e1, upd_same, small (by decide), fun l3 h3 => ?_⟩
    have s3 := same_new h3 (.lst ((ODD.take 14).map V.str))
    have e3 : ∀ {H0 : Hp}, upd H0 l3 (.lst ((ODD.take 14).map V.str)) l3 = some (.lst ((ODD.take 14).map V.str)) := upd_same
    refine ⟨_, rfl, (show 6 ≤ sizeLine by decide), fun l4 h4 => ?_⟩
    have s4 := same_new h4 (.lst ((ODD.drop 14).map V.str))
    refine ⟨l3, l4, _, _, rfl, rfl, s4 _ _ e3, upd_same, small (by decide), fun l5 h5 => ?_⟩
    have s5 := same_new h5 (.lst (ODD.map V.str))
    have S5 := s1.trans (s2.trans (s3.trans (s4.trans s5)))
    have e5 : ∀ {H0 : Hp}, upd H0 l5 (.lst (ODD.map V.str)) l5 = some (.lst (ODD.map V.str)) := upd_same
    refine ⟨fun σ H' => ∃ (lo ls : Addr) (v4 v5 : V), Same H H' ∧ H ls = none ∧ H' lo = some (.lst (ODD.map V.str)) ∧ H' ls = some (.lst ((Txt.split z ";").map V.str)) ∧ lo ≠ ls ∧ σ = [some (.str z), some (.int way), some (.int cell), some (.int sign), some v4, some v5, some (.ref lo), some (.ref ls), none, none, none], ?_, ?_⟩
    · refine ⟨_, rfl, rfl, z, _, rfl, rfl, by decide, small (by omega), fun ls hls => ⟨l5, ls, _, _, S5.trans (same_new hls _), S5.free hls, same_new hls _ _ _ e5, upd_same, fun e => ?_, rfl⟩⟩
      rw [← e] at hls
      exact absurd (hls.symm.trans e5) (by intro q; cases q)
    rintro σ6 H6 ⟨lo, ls, v4, v5, S6, fls, o6, a6, nls, rfl⟩
    have sw := split_weight z (Str.ofString ";") (by decide)
    have sn := M95.split_ne z (Str.ofString ";")
    generalize Txt.split z ";" = ps at *
    have pl : 0 < ps.length := List.length_pos_iff.mpr sn
    have d0 := Int.emod_nonneg cell (show ((ps.length : Nat) : Int) ≠ 0 by omega)
    have d1 := Int.emod_lt_of_pos cell (show (0 : Int) < ((ps.length : Nat) : Int) by omega)
    refine ⟨_, rfl, _, rfl, ls, _, rfl, .inl (SqL.of a6), _, _, rfl, rfl, (by rw [List.length_map]; omega), ?_⟩
    refine ⟨fun σ H' => Same H6 H' ∧ ∃ (fi : Str) (i : Int), fi.length ≤ 4001 ∧ i = cell % ((ps.map V.str).length : Nat) ∧ σ = [some (.str z), some (.int way), some (.int cell), some (.int sign), some v4, some v5, some (.ref lo), some (.ref ls), some (.int i), some (.str fi), none], ?_, ?_⟩
    · refine ⟨_, rfl, rfl, _, rfl, eqI (fun _ => ?_) (fun _ => ⟨Same.refl _, _, _, by decide, rfl, rfl⟩)⟩
      refine ⟨_, rfl, rfl, z, _, rfl, rfl, by decide, zs, fun t ht => ⟨t, _, _, _, rfl, rfl, SqT.of upd_same, rfl, _, _, rfl, rfl, small (by rw [lc1]; omega), same_new ht _, _, _, ?_, rfl, rfl⟩⟩
      rw [app_len, lc1]
      omega
    rintro σ7 H7 ⟨S7, fi, i, hfi, ei, rfl⟩
    rw [List.length_map] at ei
    have b0 := Int.emod_nonneg sign (show (20 : Int) ≠ 0 by decide)
    have b1 := Int.emod_lt_of_pos sign (show (0 : Int) < 20 by decide)
    obtain ⟨x, hx, ex⟩ := pickS (l := ODD) (B := 14) odd_len (i := sign % 20) b0 b1
    have a7 := S7 _ _ a6
    have ixj : ixN (ps.map V.str).length i = some i.toNat := by
      unfold ixN
      rw [if_pos (by omega), if_pos (by rw [List.length_map]; omega)]
    refine ⟨_, rfl, _, rfl, _, rfl, _, _, rfl, rfl, (by decide : (0 : Int) < 20), lo, _, _, .str x, rfl, rfl, SqL.of (S7 _ _ o6), ex, _, _, rfl, rfl, small (by omega), _, rfl, _, rfl, ls, _, i, i.toNat, rfl, rfl, a7, ixj, ?_⟩
    have em : (ps.map V.str).set i.toNat (.str (fi ++ x)) = (ps.set i.toNat (fi ++ x)).map V.str := List.map_set.symm
    rw [em]
    have w1 := sum_set ps i.toNat (fi ++ x)
    have w2 : (fi ++ x).length ≤ 4015 := by rw [app_len]; omega
    have e1' : (Str.ofString ";").length = 1 := by decide
    have jo : JoinOk ";" (ps.set i.toNat (fi ++ x)) = true := joinOk_of (by rw [List.length_set, e1']; omega)
    have jl : (Txt.join ";" (ps.set i.toNat (fi ++ x))).length ≤ 30000 := by
      unfold Txt.join
      rw [StrLaws.glued_eq_join]
      have := StrLaws.join_length_le (Str.ofString ";") (ps.set i.toNat (fi ++ x))
      rw [List.length_set, e1'] at this
      omega
    exact ⟨rfl, _, rfl, _, ls, _, rfl, rfl, SqL.of upd_same, jo, q _ _ jl (same_upd (S6.trans S7) fls)⟩
  · refine ⟨_, rfl, rfl, z, _, rfl, rfl, by decide, zs, fun t ht => ⟨t, _, _, _, rfl, rfl, SqT.of upd_same, rfl, ?_⟩⟩
    have s1 := same_new ht (.tup [.str (Txt.partition z ":").1, .str (Txt.partition z ":").2.1, .str (Txt.partition z ":").2.2])
    have b0 := Int.emod_nonneg sign (show (10 : Int) ≠ 0 by decide)
    have b1 := Int.emod_lt_of_pos sign (show (0 : Int) < 10 by decide)
    obtain ⟨x, hx, ex⟩ := pickS (l := ["", "0", "7", "33", "a", "+1", "1 2", "-1", "3:", "01"]) (B := 3) (by decide) (i := sign % 10) b0 b1
    have c0 := Int.emod_nonneg cell (show (2 : Int) ≠ 0 by decide)
    have c1 := Int.emod_lt_of_pos cell (show (0 : Int) < 2 by decide)
    obtain ⟨y, hy, ey⟩ := pickS (l := [":", ""]) (B := 1) (by decide) (i := cell % 2) c0 c1
    refine ⟨(show 10 ≤ sizeLine by decide), fun l1 h1 => ⟨_, rfl, _, _, rfl, rfl, (by decide : (0 : Int) < 10), l1, _, _, .str x, rfl, rfl, SqL.of upd_same, ex, (show 2 ≤ sizeLine by decide), fun l2 h2 => ⟨_, rfl, _, _, rfl, rfl, p2, l2, _, _, .str y, rfl, rfl, SqL.of upd_same, ey, _, _, rfl, rfl, small (by omega), _, rfl, _, _, rfl, rfl, small ?_, q _ _ ?_ ?_⟩⟩⟩
    · rw [app_len]; omega
    · unfold Fine; rw [app_len, app_len]; omega
    · exact s1.trans ((same_new h1 _).trans (same_new h2 _))
end
end K95

/-! isinstance of a caught exception that may have a dict, by a tuple of classes -/
namespace L2
open PySem PySem.Spec PyProof.Rows
section
variable {X : Cx}
end
end L2

set_option maxHeartbeats 4000000
/-! a def called behind an except: an exception is being handled meanwhile -/
namespace L2
open PySem PySem.Spec PyProof.Rows Fx
structure RoomH (g : Addr) (k : Nat) (A : Around) : Prop where
  dp : A.depth + 3 * k + 5 < recursionLimit
  un : A.units + 16 * k + 200 < cLine
  hd : A.handled = some (.ref g)
theorem Room.h {k : Nat} {A : Around} (r : Room k A) (g : Addr) : RoomH g k (A.mark (some (.ref g))) := ⟨r.dp, r.un, rfl⟩
theorem RoomH.deeper {k : Nat} {A : Around} (r : RoomH g (k + 1) A) (env : Env) : RoomH g k (A.deeper env) :=
  ⟨by have := r.dp; show A.depth + 1 + 3 * k + 5 < _; omega, by have := r.un; show A.units + 3 + 16 * k + 200 < _; omega, r.hd⟩
def cxH (P : Program) (w : World) (K : PySem.W.Frag) (mg : Str → Option Value) (base : Heap) (N : List Str) (qual : Str) (scope : Scope) (f : Addr) (cd : Value) (A : Around) (outer : List Env) (s : Shared) (H : Hp) : Cx :=
  { (cxOf CX0 P w K mg base N qual scope f cd A outer s H E0).nox with calm := false }
structure FnOkH (g : Addr) (P : Program) (w : World) (K : PySem.W.Frag) (mg : Str → Option Value) (base : Heap) (k : Nat) (f : Addr) (fd : FuncData) (ps : List Str) (sp : Sp) : Prop where
  len : ∀ vs H Q E, sp vs H Q E → vs.length = ps.length
  run : ∀ (A : Around) (outer : List Env) (s : Shared) (H : Hp) (args : Args) (us : List Value) (vs : List V) (Q : VK) (E : XK), RoomH g k A → Env0 P w K mg base A outer s H → BindsTo s fd args (ps.zip us) → Vals vs us → sp vs H Q E →
    codeAny (model P w) A (.call (.ref f) args) (CR CX0 outer P w H s Q E) s
theorem startH {P : Program} {w : World} {K : PySem.W.Frag} {mg : Str → Option Value} {base : Heap} {N ps : List Str} {qual : Str} {scope : Scope} {f : Addr} {cd : Value} {A : Around} {outer : List Env} {s s1 : Shared} {H : Hp} {us : List Value} {vs : List V}
    (S : FnScope N ps scope) (en : Env0 P w K mg base A outer s H) (hl : vs.length = ps.length) (r : Vals vs us)
    (x : InCallC s s.heap.objs.size (bindL (envOfC qual scope s.heap.objs.size f cd).kindOf (ps.zip us) fun _ => none) (cellsFrom (s.heap.objs.size + 1) scope.names []) (bindC (envOfC qual scope s.heap.objs.size f cd).kindOf (ps.zip us) fun _ => none) s1) :
    Inv (cxH P w K mg base N qual scope f cd A outer s H) [] (start N vs) H s1 := by
  have en1 : Env0 P w K mg base { A with handled := none } outer s H := ⟨en.frames, en.mod, en.bs, en.bsz, en.funs, en.frf, en.hok, en.bare⟩
  have I0 : Inv (cxOf CX0 P w K mg base N qual scope f cd { A with handled := none } outer s H E0) [] (start N vs) H s1 := inv_start S rfl en1 hl r x
  exact ⟨⟨I0.ok.mod, I0.ok.kind, I0.ok.glob, I0.ok.blt, I0.ok.above, I0.ok.inj, I0.ok.has, I0.ok.cab, (fun z => by cases z), I0.ok.frames, I0.ok.stk, I0.ok.exf, I0.ok.bs, I0.ok.bsz, I0.ok.noex, I0.ok.exfs, I0.ok.funs, I0.ok.frf⟩,
    I0.os, I0.bare, I0.base, I0.loc, I0.cell, I0.free, I0.freeC, I0.pin, I0.hok, I0.len⟩
theorem fnH_of {P : Program} {w : World} {K : PySem.W.Frag} {mg : Str → Option Value} {base : Heap} {k : Nat} {f : Addr} {name qual : Str} {params : Arguments} {body : List Stmt} {scope : Scope} {dV kV doc pm cdv ct oc : Value} {an od : Option Addr}
    {osl : Array (Option Value)} {N ps : List Str} {sp : Sp} (lk : K.lookup f = some ⟨oc, od, .func (PySem.W.fnOf name qual params body scope dV kV doc pm an cdv ct), osl⟩) (hcd : PySem.W.codeIn K cdv qual = true) (S : FnScope N ps scope)
    (len : ∀ vs H Q E, sp vs H Q E → vs.length = ps.length)
    (hbody : ∀ (A : Around) (outer : List Env) (s : Shared) (H : Hp) (vs : List V) (Q : VK) (E : XK), RoomH g k (A.deeper (envOfC qual scope s.heap.objs.size f cdv)) → sp vs H Q E →
      ∃ t, PSs (cxH P w K mg base N qual scope f cdv A outer s H) body t ∧ t { nx := fun _ H' => Q .non H', rt := Q } (start N vs) H) :
    FnOkH g P w K mg base (k + 1) f (PySem.W.fnOf name qual params body scope dV kV doc pm an cdv ct) ps sp := by
  refine ⟨len, fun A outer s H args us vs Q E hr e0 hb r hsp => ?_⟩
  have hl := len _ _ _ _ hsp
  have KX : K.In s.heap := e0.mod.kin.keeps fun b o e => (e0.bs b o e).1
  have lim : s.heap.NoLimit := e0.mod.nolimit.keeps fun b o e => (e0.bs b o e).1
  have hkind : ∀ y ∈ ps.zip us, scope.names.lookup y.1 = some .local ∨ (scope.names.lookup y.1 = some .cell ∧ ((cellsFrom (s.heap.objs.size + 1) scope.names []).lookup y.1).isSome = true) := fun ⟨n, v⟩ hy => by
    rcases S.par n (List.of_mem_zip hy).1 with q | q
    · exact .inl q
    · exact .inr ⟨q, PySem.W.cellsFrom_some _ _ _ (.inl q)⟩
  refine codeAny_call_function (by have := hr.dp; omega) (KX _ _ lk) rfl S.co S.gen rfl (PySem.W.codeRec_of KX hcd) (hb _ _ _ _ ?_)
  refine wpAny_newFunctionEnv_cells S.kind hkind fun env he s1 x => ?_
  subst he
  refine ⟨lim.keeps x.toInCall.keep, codeAny_func ?_⟩
  obtain ⟨t, ht, hq⟩ := hbody A outer s H vs Q E (hr.deeper _) hsp
  have I : Inv (cxH P w K mg base N qual scope f cdv A outer s H) [] (start N vs) H s1 := startH S e0 hl r x
  refine wpAny_mono (ht [] s1 (start N vs) H _ I hq) (fun fl s' hs => ?_) fun e s' hs => False.elim hs
  have fin : ∀ {σ' : St} {H' : Hp} {v : V} {u : Value}, Inv (cxH P w K mg base N qual scope f cdv A outer s H) [] σ' H' s' → RelV v u → Q v H' → CE outer P w H s Q u s' :=
    fun {σ' H' v u} J rv q => ⟨v, H', J.os, J.bare, J.base, J.hok, rv, q⟩
  cases fl with
  | ret u =>
    obtain ⟨v, σ', H', J, rv, q⟩ := hs
    exact fin J rv q
  | next =>
    obtain ⟨σ', H', J, q⟩ := hs
    exact fin (v := V.non) (u := Value.none) J rfl q
  | brk =>
    obtain ⟨_, _, _, q⟩ := hs
    exact False.elim q
  | cont =>
    obtain ⟨_, _, _, q⟩ := hs
    exact False.elim q
structure CalH (g : Addr) (P : Program) (w : World) (K : PySem.W.Frag) (mg : Str → Option Value) (base : Heap) (k : Nat) (x : Str) (ps : List Str) (sp : Sp) : Prop where
  ex : ∃ f fd, FnOkH g P w K mg base k f fd ps sp ∧ Binds K fd ps [] ∧ PySem.W.keepIn K (.ref f) = true ∧ mg x = some (.ref f)
section
variable {X : Cx} {k : Nat} {x : Str} {ps : List Str} {sp : Sp} {p pos : Pos} {e : Expr} {es : List Expr} {t : TA} {E : XK}
theorem pe_calH (c : CalH g X.prog X.w X.K X.mg X.base k x ps sp) (hr : RoomH g k X.A) (hg : Gl X x) (ha : PA X (e :: es) t) (hdb : (x == ("__debug__" : Str)) = false := by decide)
    (he : starEach (e :: es) X.env = (false, eval e X.env) :: starEach es X.env := by rfl) (hpl : (backTo pos (starEach es X.env)).any (·.1) = false := by rfl) : PE X (.Call (.Name x p) (e :: es) [] pos) (tCall sp [] E0 t) := by
  obtain ⟨f, fd, F, b, kp, m⟩ := c.ex
  intro p2 s σ H Q I h
  refine wpAny_Call_Name_kw (ld_glob I hg m ?_ hdb)
  refine PySem.W.callWith_K (h₀ := X.base) I.ok.mod.kin kp (thn (ha pos p2 s σ H _ I h) fun us s1 ⟨vs, H1, I1, r, q⟩ => ⟨I1.kIn, ?_⟩) he hpl
  have q' : sp vs H1 Q E0 := by have q2 : sp (vs ++ []) H1 Q E0 := q; rw [List.append_nil] at q2; exact q2
  have hl : us.length = ps.length := by rw [← r.length]; exact F.len _ _ _ _ q'
  have b2 := b s1 us I1.kIn (by rw [List.append_nil]; exact hl)
  rw [List.append_nil] at b2
  refine wpAny_call (codeAny_mono (F.run X.A X.stack s1 H1 ⟨us, []⟩ us vs Q E0 hr I1.env0 b2 r q') fun r s' hq => ?_)
  cases r with
  | error e => exact False.elim hq
  | ok fl =>
    cases fl with
    | ret u => exact I1.after hq
    | next => exact False.elim hq
    | brk => exact False.elim hq
    | cont => exact False.elim hq
end
theorem FunAt.calH {P : Program} {w : World} {K : PySem.W.Frag} {mg : Str → Option Value} {base : Heap} {x : Str} {st : Stmt} {dV : Value} {N ps : List Str} {k : Nat} {sp : Sp} (F : FunAt K x st dV) {h : Heap} (X : K.In h) (G : h.Ns mainGlobals mg) (S : FnScope N ps (defScope st)) (bi : BindsAll K x st dV ps) (len : ∀ vs H Q E, sp vs H Q E → vs.length = ps.length)
    (hbody : ∀ (f : Addr) (cdv : Value) (A : Around) (outer : List Env) (s : Shared) (H : Hp) (vs : List V) (Q : VK) (E : XK), RoomH g k (A.deeper (envOfC x (defScope st) s.heap.objs.size f cdv)) → sp vs H Q E →
      ∃ t, PSs (cxH P w K mg base N x (defScope st) f cdv A outer s H) (defBody st) t ∧ t { nx := fun _ H' => Q .non H', rt := Q } (start N vs) H) : CalH g P w K mg base (k + 1) x ps sp := by
  obtain ⟨f, oc, od, kV, doc, pm, an, cdv, ct, osl, lk, hcd, kp, ns⟩ := F.ex
  exact ⟨f, _, fnH_of lk hcd S len fun A outer s H vs Q E hr hsp => hbody f cdv A outer s H vs Q E hr hsp, bi kV doc pm an cdv ct, kp, PySem.W.mg_of X G ns⟩
end L2

set_option maxHeartbeats 4000000
/-! except C as n, C a class of ours, with or without an __init__ -/
namespace L2
open PySem PySem.Spec PyProof.Rows Fx
structure CatAt (K : PySem.W.Frag) (C : Addr) (bm : List Value) : Prop where
  cls : ClsAt K C bm
  tail : PySem.W.tailIn K bmVE bm = true
section
variable {X : Cx} {E : XK}
theorem ps_tryC {st b₀ : Stmt} {suite : List Stmt} {cx n : Str} {C D : Addr} {i : Nat} {np hpos pos : Pos} {tb : St → TS} {th : Addr → TS} {bm bm' : List Value} (hst : X.stack = X.env :: X.outer ∧ X.env.frame = some X.env.locals) (hN : X.N.Nodup) (hi : X.N[i]? = some n) (hloc : X.env.scope.names.lookup n = some .local)
    (hg : Gl X cx) (hm : X.mg cx = some (.ref D)) (hC : ClsAt X.K C bm) (hD : CatAt X.K D bm') (hsub : (Value.ref C :: bm).contains (.ref D) = true) (hE : ∀ cls di H', E cls di H' → cls = .ref C)
    (hb : ∀ pins σ, PSs (Xt X pins σ E) [st] (tb σ)) (hh : ∀ a, PSs (Xh X a) (b₀ :: suite) (th a)) (hdb : (cx == ("__debug__" : Str)) = false := by decide) :
    PS X (.Try [st] [.ExceptHandler (some (.Name cx np)) (some n) (b₀ :: suite) hpos] [] [] pos) (tTryN E tb th i) := by
  intro pins s σ H D' I h
  obtain ⟨h1, h2⟩ := h
  refine wpAny_Try_except (wpAny_mono (hb pins σ [] s σ H D' I.toXt h1) (fun f s1 q => ?_) (fun e s1 q => ?_))
  · cases f with
    | next => obtain ⟨σ', H', I', q⟩ := q; exact wpAny_execs_nil ⟨σ', H', I'.ofXt, q⟩
    | brk => obtain ⟨σ', H', I', q⟩ := q; exact ⟨σ', H', I'.ofXt, q⟩
    | cont => obtain ⟨σ', H', I', q⟩ := q; exact ⟨σ', H', I'.ofXt, q⟩
    | ret u => obtain ⟨v, σ', H', I', r, q⟩ := q; exact ⟨v, σ', H', I'.ofXt, r, q⟩
  obtain ⟨H1, s0, I0, a, T, cls, di, H', rfl, os, bare, un, nsOk, tr, na, nT, ha, hT, q⟩ := q
  obtain rfl := hE cls di H' q
  have I1 : Inv X pins σ H' s1 := I0.call' (ch := []) os un nsOk bare (fun b hb => by cases hb)
  have hcls : X.env.kindOf n = some .local := hloc
  refine note_next (base := X.base) (outer := X.outer) (by rw [I.ok.frames, hst.1]) (by rw [← hst.1]; exact I1.stack) hst.2 tr fun h' T' nT' tr' kp => ?_
  have kp' : Kp (frs X.stack) [a, T] s1.heap h' := by rw [hst.1]; exact kp
  have I2 : Inv X pins σ (upd H' a (ExcO di a (.ref C))) { s1 with heap := h' } := I0.landed os bare un nsOk kp' na nT ha hT tr'
  obtain ⟨_, _, _, _, _, _, _, _, _, _, _, _, _, _, _, lC⟩ := hC
  obtain ⟨_, _, _, _, _, _, _, _, _, _, _, _, _, _, _, lD⟩ := hD.cls
  have TD := PySem.W.tail_of_in I2.kIn hD.tail
  obtain ⟨oe, vs, oT, ts, he, ⟨hc, _⟩, _⟩ := id tr'
  refine wpAny_handleBy_cons (codeAny_handlers_test (ld_glob (X := Xh X a) (I2.toXh (a := a)) hg hm ?_ hdb)) (by intro q; cases q)
  refine excMatches_base (I2.kIn _ _ lC) (I2.kIn _ _ lD) he hc (TD.hasType PySem.F.excBase_ValueError.hasBase) hsub ?_
  refine codeAny_handlers_suite_as ?_
  refine flight (s := { s1 with heap := h' }) tr' fun h3 tr3 same => ?_
  have kp3 : Kp (frs X.stack) [a, T] s1.heap h3 := by
    have ne : ∀ b o, s1.heap.get? b = some o → b ≠ T' := fun b o hb z => by rw [z, nT'] at hb; cases hb
    exact ⟨fun b o hb hf hx => (same b (ne b o hb)).trans (kp'.keep b o hb hf hx), fun b o hb hx => let ⟨slo, e⟩ := kp'.slot b o hb hx; ⟨slo, (same b (ne b o hb)).trans e⟩, fun b o hb => let ⟨o', e⟩ := kp'.there b o hb; ⟨o', (same b (ne b o hb)).trans e⟩⟩
  have I3 : Inv X pins σ (upd H' a (ExcO di a (.ref C))) { s1 with heap := h3 } := I0.landed os bare un nsOk kp3 na nT ha hT tr3
  refine store_ok (X := Xh X a) (v := .ref a) (I3.toXh (a := a)) hN hi (.inl hloc) rfl (fun s4 I4 => ?_) (.inr hloc)
  refine wpAny_mono (hh a pins s4 _ _ _ I4 (h2 a _ di H' q ha)) (fun f s5 q5 => ?_) (fun x s5 z => z.elim)
  cases f with
  | next =>
    obtain ⟨σ', H5, I5, q6⟩ := q5
    obtain ⟨m, hn, hl⟩ := id I5.loc
    refine wpAny_nameGoes_keeps hcls hn (by rw [I.ok.kind]; rfl) fun h6 v6 hn6 hs6 => ?_
    exact ⟨_, H5, (I5.ofXh I.ok).unset hN hi hn hl hn6 hs6, q6⟩
  | brk => obtain ⟨_, _, _, z⟩ := q5; exact z.elim
  | cont => obtain ⟨_, _, _, z⟩ := q5; exact z.elim
  | ret u =>
    obtain ⟨v, σ', H5, I5, r, q6⟩ := q5
    obtain ⟨m, hn, _⟩ := id I5.loc
    refine wpAny_nameGoes hcls hn (by rw [I.ok.kind]; rfl) fun h6 m6 hn6 hs6 => ?_
    exact ⟨v, _, H5, (I5.ofXh I.ok).blank hn6 hs6, r, q6⟩
end
end L2

set_option maxHeartbeats 1200000
namespace K95
open PySem PySem.Spec PyProof.Rows L2 Am Pc Ba M35
open Pt hiding kit_tt
open M24
theorem boot_VE : bootBuiltins "ValueError" = some (.type "ValueError") := by decide +kernel
set_option genInjectivity false in
set_option genSizeOf false in
structure Exs (K : PySem.W.Frag) (mg : Str → Option Value) (C : Addr) (bm : List Value) where
  mV : mg "ValueError" = none
  mC : mg "NoText" = some (.ref C)
  hC : ClsAt K C bm
  xC : CatAt K C bm
  gC : PySem.W.ExcG K C
  na : NoAttr K C "place"
  ve : PySem.W.kitOne K (.ref C) (.type "ValueError") = some true
  a_NoMove : Addr
  mo_NoMove : mg "NoMove" = some (.ref a_NoMove)
  k_NoMove : PySem.W.kitOne K (.ref C) (.ref a_NoMove) = some false
  a_NoCell : Addr
  mo_NoCell : mg "NoCell" = some (.ref a_NoCell)
  k_NoCell : PySem.W.kitOne K (.ref C) (.ref a_NoCell) = some false
  a_NoMark : Addr
  mo_NoMark : mg "NoMark" = some (.ref a_NoMark)
  k_NoMark : PySem.W.kitOne K (.ref C) (.ref a_NoMark) = some false
  a_NoBoard : Addr
  mo_NoBoard : mg "NoBoard" = some (.ref a_NoBoard)
  k_NoBoard : PySem.W.kitOne K (.ref C) (.ref a_NoBoard) = some false
  a_NotBorne : Addr
  mo_NotBorne : mg "NotBorne" = some (.ref a_NotBorne)
  k_NotBorne : PySem.W.kitOne K (.ref C) (.ref a_NotBorne) = some false
  a_BoardError : Addr
  mo_BoardError : mg "BoardError" = some (.ref a_BoardError)
  k_BoardError : PySem.W.kitOne K (.ref C) (.ref a_BoardError) = some true
def DueOf (K : PySem.W.Frag) (H : Hp) (v : V) (a b : V) : Prop :=
  (∃ t, TyOf K H v t ∧ PySem.W.kitOne K t (.type "str") = some false ∧ a = .non ∧ b = .int 0) ∨
  ∃ z, v = .str z ∧ Fine z ∧ ((∃ i : Nat, playOf z = .error i ∧ a = .non ∧ b = .int i) ∨ ∃ c ms, playOf z = .ok (c, ms) ∧ Play H a c ms ∧ (∀ m ∈ ms, OkP m) ∧ ms.length ≤ 30002)
def spReads (K : PySem.W.Frag) : Sp := fun vs H Q _ => ∃ v a b : V, vs = [v, a, b] ∧ DueOf K H v a b ∧ ∀ H', Same H H' → Q (.bl true) H'
section
variable {P : Program} {w : World} {K : PySem.W.Frag} {mg : Str → Option Value} {base : Heap} {k : Nat} {h : Heap} {C : Addr} {bm : List Value}
theorem ok_wholeH (g : Addr) (F : FunAt K "_law_whole" (top 39) .none) (X : K.In h) (G : h.Ns mainGlobals mg) (B : Bs mg) : CalH g P w K mg base (k + 1) "_law_whole" ["_law_found"] spWhole := by
  have nd := sc_whole.nd
  refine F.calH X G sc_whole (bnd1 fun _ _ _ _ _ _ _ => rfl) (fun vs H Q E h => ?_) (fun f cdv A outer s H vs Q E hr h => ?_)
  · obtain ⟨i, rfl, _⟩ := h; rfl
  obtain ⟨i, rfl, q⟩ := h
  refine ⟨_, (@pss_one _ _ _ (ps_ret (pe_and (pe_callB call_isinst rfl B.isinstance boot_isinstance (pa_cons (pv 0) (pa_cons (pe_bltn (v := .ty "int") rfl B.int boot_int rfl) pa_nil))) (pe_one (pe_not (pe_callB call_isinst rfl B.isinstance boot_isinstance (pa_cons (pv 0) (pa_cons (pe_bltn (v := .ty "bool") rfl B.bool boot_bool rfl) pa_nil)))))))), ?_⟩
  try dsimp only [cxK]
  exact ⟨_, rfl, _, _, _, true, rfl, TyOf.int i, kit_ii K, _, rfl, iteT ⟨_, rfl, _, _, _, false, rfl, TyOf.int i, kit_ib K, _, rfl, q⟩⟩
theorem sc_reads : FnScope ["_law_line_here", "_law_due_here", "_law_place", "_law_found", "e"] ["_law_line_here", "_law_due_here", "_law_place"] (defScope (top 52)) := ⟨rfl, rfl, rfl, by decide +kernel, rfl, by decide +kernel, by decide +kernel⟩
theorem ok_reads (F : FunAt K "_law_reads" (top 52) .none) (X : K.In h) (G : h.Ns mainGlobals mg) (B : Bs mg) (x : Exs K mg C bm) (x_read : CalX P w K mg base k "read_play" ["text"] (spRPlay K C)) (c__law_is_play : Cal P w K mg base k "_law_is_play" ["_law_found", "_law_due_here"] spIsPlay) (h_whole : ∀ g, CalH g P w K mg base k "_law_whole" ["_law_found"] spWhole) :
    Cal P w K mg base (k + 1) "_law_reads" ["_law_line_here", "_law_due_here", "_law_place"] (spReads K) := by
  have nd := sc_reads.nd
  refine F.cal X G sc_reads (bnd3 fun _ _ _ _ _ _ _ _ _ => rfl) (fun vs H Q E h => ?_) (fun f cdv A outer s H vs Q E hr h => ?_)
  · obtain ⟨v, a, b, rfl, _⟩ := h; rfl
  obtain ⟨v, a, b, rfl, hv, kq⟩ := h
  obtain ⟨plc, hp⟩ : ∃ plc : Option Nat, ((∃ t, TyOf K H v t ∧ PySem.W.kitOne K t (.type "str") = some false ∧ plc = some 0) ∧ a = .non ∧ b = .int 0) ∨ ∃ z, v = .str z ∧ Fine z ∧ ((∃ i : Nat, playOf z = .error i ∧ plc = some i ∧ a = .non ∧ b = .int i) ∨ (plc = none ∧ ∃ c ms, playOf z = .ok (c, ms) ∧ Play H a c ms ∧ (∀ m ∈ ms, OkP m) ∧ ms.length ≤ 30002)) := by
    rcases hv with ⟨t, ty, kt, e1, e2⟩ | ⟨z, e, fz, ⟨i, e1, e2, e3⟩ | h⟩
    · exact ⟨some 0, .inl ⟨⟨t, ty, kt, rfl⟩, e1, e2⟩⟩
    · exact ⟨some i, .inr ⟨z, e, fz, .inl ⟨i, e1, rfl, e2, e3⟩⟩⟩
    · exact ⟨none, .inr ⟨z, e, fz, .inr ⟨rfl, h⟩⟩⟩
  refine ⟨_, (@pss_cons _ _ _ _ _ (@ps_set _ _ 3 _ _ _ _ nd rfl (Or.inl rfl) pe_non rfl (.inl rfl))
    (@pss_cons _ _ _ _ _ (ps_tryC (E := fun cls di H1 => cls = .ref C ∧ Same H H1 ∧ ∃ dx i, di = some dx ∧ H1 dx = some (.xd [("place", .int ((i : Nat) : Int))]) ∧ plc = some i) (i := 4) ⟨rfl, rfl⟩ nd rfl rfl rfl x.mC x.hC x.xC (by simp) (fun _ _ _ z => z.1)
      (fun pins σ => @pss_one _ _ _ (@ps_set _ _ 3 _ _ _ _ nd rfl (Or.inl rfl) (pe_calT (σ0 := σ) x_read hr rfl (pa_cons (pv 0) pa_nil)) rfl (.inl rfl)))
      (fun a => @pss_cons _ _ _ _ _ (ps_if (PW.pt (pw_or (pt_val (pe_callB call_isinstEH rfl B.isinstance boot_isinstance (pa_cons (pv 4) (pa_cons (pe_own rfl (x.mo_NoMove)) pa_nil)))) (pw_or (pt_val (pe_callB call_isinstEH rfl B.isinstance boot_isinstance (pa_cons (pv 4) (pa_cons (pe_own rfl (x.mo_NoCell)) pa_nil)))) (pw_or (pt_val (pe_callB call_isinstEH rfl B.isinstance boot_isinstance (pa_cons (pv 4) (pa_cons (pe_own rfl (x.mo_NoMark)) pa_nil)))) (pw_or1 (pt_val (pe_callB call_isinstEH rfl B.isinstance boot_isinstance (pa_cons (pv 4) (pa_cons (pe_own rfl (x.mo_NoBoard)) pa_nil))))))))) (@pss_one _ _ _ (ps_ret pe_bl)) pss_nil)
        (@pss_cons _ _ _ _ _ (ps_if (PW.pt (pw_or (pt_val (pe_callB call_isinstEH rfl B.isinstance boot_isinstance (pa_cons (pv 4) (pa_cons (pe_own rfl (x.mo_NotBorne)) pa_nil)))) (pw_or (pt_not (pt_val (pe_callB call_isinstEH rfl B.isinstance boot_isinstance (pa_cons (pv 4) (pa_cons (pe_own rfl (x.mo_BoardError)) pa_nil))))) (pw_or1 (pt_not (pt_val (pe_callB call_isinstEH rfl B.isinstance boot_isinstance (pa_cons (pv 4) (pa_cons (pe_bltn (v := .ty "ValueError") rfl x.mV boot_VE rfl) pa_nil))))))))) (@pss_one _ _ _ (ps_ret pe_bl)) pss_nil)
        (@pss_one _ _ _ (ps_ret (pe_and (pe_cmpR op_isN (pv 1) pe_non (nomark _)) (pe_and (pe_calH (h_whole a) (hr.h a) rfl (pa_cons (pe_fldEH (pv 4) rfl) pa_nil)) (pe_one (pe_cmpR op_eq (pe_fldEH (pv 4) rfl) (pv 2) (nomark _))))))))))
    (@pss_one _ _ _ (ps_ret (pe_and (pe_cmpR op_notN (pv 1) pe_non (nomark _)) (pe_one (pe_cal c__law_is_play hr rfl (pa_cons (pv 3) (pa_cons (pv 1) pa_nil))))))))), ?_⟩
  try dsimp only [cxK]
  refine ⟨?_, ?_⟩
  · rcases hp with ⟨⟨t, ty, kt, e0⟩, _, _⟩ | ⟨z, rfl, fz, ⟨i, ep, e0, _⟩ | ⟨_, c, ms, ep, P1, ok, ml⟩⟩
    · exact ⟨_, rfl, rfl, v, rfl, .inl ⟨t, ty, kt, fun H' dx S hd => ⟨rfl, S, dx, 0, rfl, hd, e0⟩⟩⟩
    · refine ⟨_, rfl, rfl, _, rfl, .inr ⟨z, rfl, fz, fun v' c ms H' e _ _ => ?_, fun j H' dx e S hd => ⟨rfl, S, dx, j, rfl, hd, ?_⟩⟩⟩
      · rw [ep] at e; cases e
      · rw [ep] at e; cases e; exact e0
    · refine ⟨_, rfl, rfl, _, rfl, .inr ⟨z, rfl, fz, fun v' c' ms' H' e S P2 => ?_, fun j H' dx e => ?_⟩⟩
      · rw [ep] at e
        cases e
        obtain ⟨pa, la, ra, rfl, _⟩ := id P1
        refine ⟨_, rfl, rfl, _, rfl, nblI (fun _ => ?_) (fun q => absurd (of_decide_eq_true q) (by intro q; cases q))⟩
        exact ⟨_, rfl, _, rfl, v', _, c, ms, rfl, P2, P1.same S, ok, ml, fun H3 S3 => kq _ (S.trans S3)⟩
      · rw [ep] at e; cases e
  · rintro ea cls di H2 ⟨rfl, S2, dx, i, rfl, hd, ep⟩ hea
    have hab : a = .non ∧ b = .int i := by
      rcases hp with ⟨⟨t, ty, kt, e0⟩, e1, e2⟩ | ⟨z, rfl, fz, ⟨j, _, e0, e1, e2⟩ | ⟨e0, _⟩⟩
      · rw [ep] at e0; cases e0; exact ⟨e1, e2⟩
      · rw [ep] at e0; cases e0; exact ⟨e1, e2⟩
      · rw [ep] at e0; cases e0
    obtain ⟨rfl, rfl⟩ := hab
    have e0 : upd H2 ea (ExcO (some dx) ea (.ref C)) ea = some (ExcO (some dx) ea (.ref C)) := upd_same
    have S3 := S2.trans (same_new hea (ExcO (some dx) ea (.ref C)))
    have d0 : upd H2 ea (ExcO (some dx) ea (.ref C)) dx = some (.xd [("place", .int i)]) := same_new hea _ _ _ hd
    generalize upd H2 ea (ExcO (some dx) ea (.ref C)) = H3 at e0 S3 d0 ⊢
    have dxx : Dx H3 (some dx) := fun d e => by cases e; exact ⟨_, d0⟩
    refine ⟨_, rfl, ea, some dx, C, _, _, false, rfl, e0, dxx, x.gC, rfl, x.k_NoMove, _, rfl, iteF ?_⟩
    refine ⟨_, rfl, ea, some dx, C, _, _, false, rfl, e0, dxx, x.gC, rfl, x.k_NoCell, _, rfl, iteF ?_⟩
    refine ⟨_, rfl, ea, some dx, C, _, _, false, rfl, e0, dxx, x.gC, rfl, x.k_NoMark, _, rfl, iteF ?_⟩
    refine ⟨_, rfl, ea, some dx, C, _, _, false, rfl, e0, dxx, x.gC, rfl, x.k_NoBoard, _, rfl, iteF ?_⟩
    refine ⟨_, rfl, ea, some dx, C, _, _, false, rfl, e0, dxx, x.gC, rfl, x.k_NotBorne, _, rfl, iteF ?_⟩
    refine ⟨_, rfl, ea, some dx, C, _, _, true, rfl, e0, dxx, x.gC, rfl, x.k_BoardError, _, rfl, iteF ?_⟩
    refine ⟨_, rfl, ea, some dx, C, _, _, true, rfl, e0, dxx, x.gC, rfl, x.ve, _, rfl, iteF ?_⟩
    refine ⟨_, rfl, rfl, _, rfl, decI (fun _ => ?_) (fun q => absurd rfl q)⟩
    refine ⟨_, rfl, ea, dx, C, _, _, rfl, e0, d0, x.gC, x.na, rfl, i, rfl, _, rfl, iteT ?_⟩
    refine ⟨_, rfl, ea, dx, C, _, _, rfl, e0, d0, x.gC, x.na, rfl, _, rfl, rfl, ?_⟩
    show Q (.bl (decide (V.int (i : Nat) = V.int (i : Nat)))) _
    rw [decide_eq_true rfl]
    exact kq _ S3
end
end K95

set_option maxHeartbeats 1200000
namespace K95
open PySem PySem.Spec PyProof.Rows L2 Am Pc Ba M35
open Pt hiding kit_tt
open M24
theorem ks_n (K : PySem.W.Frag) : PySem.W.kitOne K (.type "NoneType") (.type "str") = some false := by with_unfolding_all rfl
theorem ks_b (K : PySem.W.Frag) : PySem.W.kitOne K (.type "bool") (.type "str") = some false := by with_unfolding_all rfl
theorem ks_i (K : PySem.W.Frag) : PySem.W.kitOne K (.type "int") (.type "str") = some false := by with_unfolding_all rfl
theorem ks_l (K : PySem.W.Frag) : PySem.W.kitOne K (.type "list") (.type "str") = some false := by with_unfolding_all rfl
theorem ks_t (K : PySem.W.Frag) : PySem.W.kitOne K (.type "tuple") (.type "str") = some false := by with_unfolding_all rfl
theorem ks_d (K : PySem.W.Frag) : PySem.W.kitOne K (.type "dict") (.type "str") = some false := by with_unfolding_all rfl
theorem ok_fits {nm : Str} {ns : List Int} {c : Nat} (f : Fits nm ns c) : OkP (.inl (nm, ns)) := by
  refine ⟨(nm_sm f.form.num).2, f.form.len, ?_, no_look f⟩
  have h := f.form.num
  rcases name_of nm with z | ⟨n, j, nt, n1, _⟩
  · rw [z] at h; cases h
  · rw [nt] at h
    injection h with h
    injection h with h
    show 1 ≤ ns.length
    omega
theorem ok_smp {c : Nat} {m : Prt} (h : SmP c m) : OkP m := by
  cases m with
  | inl m => exact ok_fits h.2
  | inr m => trivial
theorem play_ok {z : Str} {c : Nat} {ms : List Prt} (fz : Fine z) (h : playOf z = .ok (c, ms)) : (∀ m ∈ ms, OkP m) ∧ ms.length ≤ 30002 := by
  have fp := PyProof.Rows.fact_partition z (Str.ofString ":")
  have f3 : Fine (Txt.partition z ":").2.2 := Nat.le_trans fp.2.2 fz
  unfold playOf at h
  cases hh : headOf z with
  | none => rw [hh] at h; cases h
  | some c' =>
    rw [hh] at h
    dsimp only at h
    cases hb : badAt c' (partsOf (Txt.partition z ":").2.2) with
    | some i => rw [hb] at h; cases h
    | none =>
      rw [hb] at h
      dsimp only at h
      injection h with h
      injection h with h1 h2
      subst h1 h2
      refine ⟨fun m hm => ?_, Nat.le_trans (pl_le _ _) (parts_len f3)⟩
      obtain ⟨p, _, e⟩ := List.mem_filterMap.mp hm
      cases m with
      | inl m => exact ok_fits (pt_fits e)
      | inr m => trivial
theorem lcF_prt {K : PySem.W.Frag} {l : Addr} {rp : List Addr} {ms : List Prt} {tc : TT} {te : TE} {fr : L2.St} {H1 : Hp} {acc : Addr} {Q : VK} (hacc : H1 acc = none) (hl : SqL K H1 l (rp.map V.ref)) (hn : rp.length = ms.length) (hz : rp.length ≤ sizeLine)
    (hs : ∀ (i : Nat) (p : Addr) (m : Prt) H (N : Bool → Hp → Prop), rp[i]? = some p → ms[i]? = some m → Same H1 H → N (isLk m) H → tc (some (.ref p) :: fr) H N)
    (ht : ∀ p H (N : V → Hp → Prop), Same H1 H → N (.ref p) H → te (some (.ref p) :: fr) H N)
    (hd : ∀ H2 ys, Same H1 H2 → H2 acc = some (.lst ys) → ys.length = (ms.filter isLk).length → Q (.ref acc) H2) : LcWF (Itl K l) (gName 0) tc te (none :: fr) H1 acc Q := by
  refine ⟨fun i m ys σ2 H2 => m = rp.length - i ∧ i ≤ rp.length ∧ (∃ v, σ2 = v :: fr) ∧ Same H1 H2 ∧ H2 acc = some (.lst ys) ∧ ys.length = ((ms.take i).filter isLk).length, ⟨rp.length, by simp, Nat.zero_le _, ⟨_, rfl⟩, same_new hacc _, upd_same, by simp⟩, ?_⟩
  rintro i m ys σ2 H2 ⟨rfl, hi, ⟨v, rfl⟩, s2, a2, e2⟩
  by_cases hlt : i < rp.length
  · have e1 : rp[i]? = some rp[i] := by simp [hlt]
    have hm : ms[i]? = some (ms[i]'(by omega)) := List.getElem?_eq_getElem (by omega)
    have e3 : (rp.map V.ref)[i]? = some (.ref rp[i]) := by rw [List.getElem?_map, e1]; rfl
    have yl : ys.length ≤ i := by
      rw [e2]
      exact Nat.le_trans (List.length_filter_le _ _) (by rw [List.length_take]; omega)
    refine .inr ⟨⟨_, _, s2.seq hl, e3⟩, fun u H3 y3 => ?_⟩
    obtain ⟨rfl, y4⟩ := y3
    have := y4 _ (s2.seq hl)
    rw [e3] at this
    cases this
    generalize ms[i]'(by omega) = mm at hm
    refine hs i _ mm _ _ e1 hm s2 ⟨fun hp => ht _ _ _ s2 ⟨a2, by omega, rp.length - (i + 1), by omega, rfl, hlt, ⟨_, rfl⟩, same_upd s2 hacc, upd_same, ?_⟩, fun hp => ⟨rp.length - (i + 1), by omega, rfl, hlt, ⟨_, rfl⟩, s2, a2, ?_⟩⟩
    · rw [List.take_add_one, hm, Option.toList_some, List.filter_append, List.length_append, List.length_append, e2]
      simp [hp]
    · rw [List.take_add_one, hm, Option.toList_some, List.filter_append, List.length_append, e2]
      simp [hp]
  · have e : i = rp.length := by omega
    subst e
    rw [hn, List.take_length] at e2
    exact .inl ⟨⟨_, s2.seq hl, by simp⟩, hd H2 ys s2 a2 e2⟩
def Line (K : PySem.W.Frag) (H : Hp) (v : V) : Prop := (∃ t, TyOf K H v t ∧ PySem.W.kitOne K t (.type "str") = some false) ∨ ∃ z, v = .str z ∧ Fine z
theorem p10 : (0 : Int) < 10 := by decide
theorem p6 : (0 : Int) < 6 := by decide
theorem p9' : (0 : Int) < (10 : Int) ^ (9 : Int).toNat := by decide
section
variable {P : Program} {w : World} {K : PySem.W.Frag} {mg : Str → Option Value} {base : Heap} {k : Nat} {h : Heap}
theorem sc_law : FnScope ["_law_script", "_law_cells", "_law_parts_here", "_law_looks", "_law_kept", "_law_told", "_law_line_here", "_law_way", "_law_cell", "_law_due_here", "_law_place"] ["_law_script"] (defScope (top 53)) := ⟨rfl, rfl, rfl, by decide +kernel, rfl, by decide +kernel, by decide +kernel⟩
theorem ok_law {n : Nat} {f : Addr} {fd : FuncData} (F : Fun K "law" "law" (top 53) f fd) (B : Bs mg) (c__law_cell_at : Cal P w K mg base k "_law_cell_at" ["_law_script", "_law_k"] (spCell K)) (c__law_parts : Cal P w K mg base k "_law_parts" ["_law_script", "_law_cells", "_law_any_looks"] (spPartsL K)) (c_show_play : Cal P w K mg base k "show_play" ["cells", "parts"] spShowPl) (c__law_reads : Cal P w K mg base k "_law_reads" ["_law_line_here", "_law_due_here", "_law_place"] (spReads K))
    (c__law_line : Cal P w K mg base k "_law_line" ["_law_cells", "_law_parts_here", "_law_cell"] spLine) (c__law_spoiled : Cal P w K mg base k "_law_spoiled" ["_law_line_here", "_law_way", "_law_cell", "_law_sign"] spSpoil) (c__law_due : Cal P w K mg base k "_law_due" ["_law_line_here"] (spDueL K)) :
    FnOk P w K mg base CX0 (k + 1) f fd ["_law_script"] (spLaw K n) := by
  have nd := sc_law.nd
  refine F.ok sc_law (fun vs H Q E h => ?_) (fun cdv A outer s H vs Q E hr h => ?_)
  · obtain ⟨a, ns, rfl, _⟩ := h; rfl
  obtain ⟨sa, ns, rfl, hS, h63, lt, kk⟩ := h
  refine ⟨_, (@pss_cut _ _ _ _ _ (@ps_set _ _ 1 _ _ _ _ nd rfl (Or.inl rfl) (pe_op op_add pe_int (pe_op op_mod (pe_cal c__law_cell_at hr rfl (pa_cons (pv 0) (pa_cons pe_int pa_nil))) pe_int)) rfl (.inl rfl))
    (@pss_cons _ _ _ _ _ (@ps_set _ _ 2 _ _ _ _ nd rfl (Or.inl rfl) (pe_cal c__law_parts hr rfl (pa_cons (pv 0) (pa_cons (pv 1) (pa_cons (pe_cmpR op_eq (pe_op op_mod (pe_op op_fdiv (pe_cal c__law_cell_at hr rfl (pa_cons (pv 0) (pa_cons pe_int pa_nil))) pe_int) pe_int) pe_int (nomark _)) pa_nil)))) rfl (.inl rfl))
    (@pss_cons _ _ _ _ _ (@ps_set _ _ 3 _ _ _ _ nd rfl (Or.inl rfl) (pe_callB call_len_seq rfl B.len PySem.boot_len (pa_cons (pe_lcF rfl (LcOk.of (Nc := ["_law_part_here"]) (mp := [none]) (by kernel_rfl)) (pi_list (pv 2)) (fun _ _ _ _ => (pg_name (i := 0) (show (["_law_part_here"] : List Str).Nodup by decide +kernel) rfl (Or.inl rfl))) (fun _ _ _ _ => (pt_cmpR op_eq (pe_ix ix_tupC (pv 0) pe_int (fun _ _ => rfl)) pe_str (nomark _))) (fun _ _ _ _ => (pv 0))) pa_nil)) rfl (.inl rfl))
    (@pss_cons _ _ _ _ _ (@ps_set _ _ 4 _ _ _ _ nd rfl (Or.inl rfl) (pe_callTy call_list_of rfl B.list boot_list (pa_cons (pv 2) pa_nil)) rfl (.inl rfl))
    (@pss_cut _ _ _ _ _ (ps_if (pt_cmpR op_lt (pv 3) pe_int (nomark _))
      (@pss_cons _ _ _ _ _ (@ps_set _ _ 5 _ _ _ _ nd rfl (Or.inl rfl) (pe_cal c_show_play hr rfl (pa_cons (pv 1) (pa_cons (pv 2) pa_nil))) rfl (.inl rfl))
      (@pss_one _ _ _ (ps_if (PW.pt (pw_or (pt_not (pt_val (pe_callB call_isinst rfl B.isinstance boot_isinstance (pa_cons (pv 5) (pa_cons (pe_bltn (v := .ty "str") rfl B.str boot_str rfl) pa_nil))))) (pw_or (pt_cmpR (op_neOwn hr.units) (pv 2) (pv 4) (nomark _)) (pw_or1 (pt_not (pt_val (pe_cal c__law_reads hr rfl (pa_cons (pv 5) (pa_cons (@pe_tup _ _ _ _ _ (pa_cons (pv 1) (pa_cons (pv 4) pa_nil))) (pa_cons pe_int pa_nil))))))))))
        (@pss_one _ _ _ (@ps_ret _ _ _ _ pe_bl))
        pss_nil)))
      pss_nil)
    (@pss_cons _ _ _ _ _ (@ps_set _ _ 6 _ _ _ _ nd rfl (Or.inl rfl) (pe_cal c__law_line hr rfl (pa_cons (pv 1) (pa_cons (pv 4) (pa_cons (pe_cal c__law_cell_at hr rfl (pa_cons (pv 0) (pa_cons pe_int pa_nil))) pa_nil)))) rfl (.inl rfl))
    (@pss_cons _ _ _ _ _ (@ps_set _ _ 7 _ _ _ _ nd rfl (Or.inl rfl) (pe_op op_mod (pe_cal c__law_cell_at hr rfl (pa_cons (pv 0) (pa_cons pe_int pa_nil))) pe_int) rfl (.inl rfl))
    (@pss_cut _ _ _ _ _ (ps_if (pt_cmpR op_lt (pv 7) pe_int (nomark _))
      (@pss_cons _ _ _ _ _ (@ps_set _ _ 8 _ _ _ _ nd rfl (Or.inl rfl) (pe_op op_mod (pe_cal c__law_cell_at hr rfl (pa_cons (pv 0) (pa_cons pe_int pa_nil))) (pe_op op_pow pe_int pe_int)) rfl (.inl rfl))
      (@pss_one _ _ _ (@ps_set _ _ 6 _ _ _ _ nd rfl (Or.inl rfl) (pe_cal c__law_spoiled hr rfl (pa_cons (pv 6) (pa_cons (pv 7) (pa_cons (pv 8) (pa_cons (pe_cal c__law_cell_at hr rfl (pa_cons (pv 0) (pa_cons pe_int pa_nil))) pa_nil))))) rfl (.inl rfl))))
      pss_nil)
    (@pss_cut _ _ _ _ _ (ps_if (pt_cmpR op_eq (pv 7) pe_int (nomark _))
      (@pss_one _ _ _ (@ps_set _ _ 6 _ _ _ _ nd rfl (Or.inl rfl) (@pe_ix _ _ _ _ _ _ _ ix_list (@pe_lst _ _ _ _ (@pa_cons _ _ _ _ _ pe_non (@pa_cons _ _ _ _ _ pe_int (@pa_cons _ _ _ _ _ (@pe_lst _ _ _ _ (@pa_cons _ _ _ _ _ pe_str pa_nil rfl)) (@pa_cons _ _ _ _ _ (@pe_tup _ _ _ _ _ (@pa_cons _ _ _ _ _ pe_str pa_nil rfl)) (@pa_cons _ _ _ _ _ pe_bl (@pa_cons _ _ _ _ _ pe_dnewK pa_nil rfl) rfl) rfl) rfl) rfl) rfl)) (pe_op op_mod (pe_cal c__law_cell_at hr rfl (@pa_cons _ _ _ _ _ (pv 0) (@pa_cons _ _ _ _ _ pe_int pa_nil rfl) rfl)) pe_int) (fun _ _ => rfl)) rfl (.inl rfl)))
      pss_nil)
    (@pss_cons _ _ _ _ _ (ps_asg (pe_cal c__law_due hr rfl (pa_cons (pv 6) pa_nil)) (pg_tup rfl (pgs_cons (pg_name (i := 9) nd rfl (Or.inl rfl)) (pgs_cons (pg_name (i := 10) nd rfl (Or.inl rfl)) pgs_nil))))
    (@pss_one _ _ _ (@ps_ret _ _ _ _ (pe_cal c__law_reads hr rfl (pa_cons (pv 6) (pa_cons (pv 9) (pa_cons (pv 10) pa_nil)))))))))))))))), ?_⟩
  try dsimp only [cxK]
  refine ⟨fun σ H' => H' = H ∧ ∃ c : Nat, 1 ≤ c ∧ c ≤ 6 ∧ σ = [some (.ref sa), some (.int c), none, none, none, none, none, none, none, none, none], ?_, ?_⟩
  · have e0 := Int.emod_nonneg (cell ns 0) (show (6 : Int) ≠ 0 by decide)
    have e1 := Int.emod_lt_of_pos (cell ns 0) (show (0 : Int) < 6 by decide)
    refine ⟨_, rfl, sa, ns, _, rfl, hS, by omega, _, _, rfl, rfl, p6, _, _, rfl, rfl, rfl, (1 + cell ns 0 % 6).toNat, by omega, by omega, ?_⟩
    rw [show (((1 + cell ns 0 % 6).toNat : Nat) : Int) = 1 + cell ns 0 % 6 by omega]
    rfl
  rintro σ1 H1 ⟨rfl, c, c1, c6, rfl⟩
  refine ⟨_, rfl, _, rfl, _, rfl, sa, ns, 0, rfl, hS, by decide, _, _, rfl, rfl, ⟨by decide, by decide⟩, _, _, rfl, rfl, p4, rfl, sa, ns, c, _, rfl, hS, c1, c6, fun l rp ms H2 fl S2 hl R sm m60 => ?_⟩
  have lp := Paired.length R
  refine ⟨_, rfl, l, rfl, ⟨_, SqL.of hl⟩, fun acc hacc => ?_⟩
  refine lcF_prt (K := K) (ms := ms) hacc (SqL.of hl) lp (small (by omega)) (fun i p m H3 N ip im S3 kN => ?_) (fun p H3 N S3 kN => ⟨_, rfl, kN⟩) (fun H3 ys S3 a3 yl => ?_)
  · obtain ⟨p', ip', hp⟩ := prts_get R im
    rw [ip] at ip'
    cases ip'
    have hp3 := hp.same S3
    have smm := sm m (List.mem_of_getElem? im)
    cases m with
    | inl m =>
      have e : H3 p = some (.tup (.str m.1 :: m.2.map V.int)) := hp3
      refine ⟨_, rfl, p, _, _, .str m.1, rfl, rfl, SqT.of e, at_0 _ _, rfl, _, rfl, ?_⟩
      rw [decide_eq_false (fun q => no_look smm.2 (V.str.inj q))]
      exact kN
    | inr m =>
      obtain ⟨x1, x2, x3⟩ := m
      obtain ⟨r, e, _⟩ := hp3
      refine ⟨_, rfl, p, _, _, _, rfl, rfl, SqT.of e, rfl, rfl, _, rfl, ?_⟩
      rw [decide_eq_true rfl]
      exact kN
  refine ⟨acc, _, rfl, .inl (SqL.of a3), ?_⟩
  have hl3 := S3 _ _ hl
  have R3 := R.same S3
  have S03 := S2.trans S3
  refine ⟨_, rfl, l, _, rfl, .inl (SqL.of hl3), fun lk hlk => ?_⟩
  have s4 := same_new hlk (.lst (rp.map V.ref))
  have k4 : upd H3 lk (.lst (rp.map V.ref)) lk = some (.lst (rp.map V.ref)) := upd_same
  generalize upd H3 lk (.lst (rp.map V.ref)) = H4 at s4 k4 ⊢
  have hl4 := s4 _ _ hl3
  have R4 := R3.same s4
  have S04 := S03.trans s4
  refine ⟨fun σ H' => Same H4 H' ∧ ∃ v5 : Option V, σ = [some (.ref sa), some (.int c), some (.ref l), some (.int ys.length), some (.ref lk), v5, none, none, none, none, none], ?_, ?_⟩
  · refine ⟨_, rfl, _, _, rfl, rfl, _, rfl, decI (fun l7 => ?_) (fun _ => ⟨Same.refl _, _, rfl⟩)⟩
    refine ⟨_, rfl, _, rfl, l, rp, ms, c, rfl, hl4, R4, sm, by omega, c6, fun H5 S5 => ?_⟩
    have lks6 : (ms.filter isLk).length ≤ 6 := by omega
    have fl5 : Fine (playTxt c ms) := by
      have h1 := (play_small c6 sm (by omega)).2
      have h2 : (Str.ofString (toString (c : Int))).length = 1 := ts_one (a := (c : Int)) ⟨by omega, by omega⟩
      have h3 : (Str.ofString ": ").length = 2 := by decide
      unfold Fine playTxt
      rw [app_len, app_len, h2, h3]
      omega
    have own : ∀ v ∈ rp.map V.ref, ownV v := fun v hv => by
      obtain ⟨p, _, rfl⟩ := List.mem_map.mp hv
      exact .inr ⟨p, rfl⟩
    refine ⟨_, rfl, _, _, _, true, rfl, TyOf.str _, kit_ss K, _, rfl, iteF ⟨_, rfl, _, rfl, l, lk, _, rfl, rfl, SqL.of (S5 _ _ hl4), SqL.of (S5 _ _ k4), own, _, rfl, iteF ?_⟩⟩
    refine ⟨_, rfl, _, rfl, _, rfl, t2, fun t ht => ?_⟩
    have s6 := same_new ht (.tup [.int (c : Int), .ref lk])
    have S46 := S5.trans s6
    refine ⟨_, _, _, rfl, .inr ⟨playTxt c ms, rfl, fl5, .inr ⟨c, ms, play_read c1 c6 sm lks6, ⟨t, lk, rp, rfl, upd_same, S46 _ _ k4, R4.same S46⟩, fun m hm => ok_smp (sm m hm), by omega⟩⟩, fun H7 S7 => ⟨_, rfl, iteF ⟨S46.trans S7, _, rfl⟩⟩⟩
  rintro σ5 H5 ⟨S5, v5, rfl⟩
  have S05 := S04.trans S5
  refine ⟨_, rfl, _, rfl, _, rfl, sa, ns, 1, rfl, S05.seq hS, by decide, lk, rp, ms, c, _, rfl, S5 _ _ k4, R4.same S5, sm, m60, c6, fun z H6 hz S6 => ?_⟩
  have S06 := S05.trans S6
  refine ⟨_, rfl, sa, ns, 2, rfl, S06.seq hS, by decide, _, _, rfl, rfl, p10, ?_⟩
  refine ⟨fun σ H' => Same H1 H' ∧ ∃ (z : Str) (way : Int) (v8 : Option V), Fine z ∧ σ = [some (.ref sa), some (.int c), some (.ref l), some (.int ys.length), some (.ref lk), v5, some (.str z), some (.int way), v8, none, none], ?_, ?_⟩
  · refine ⟨_, rfl, _, _, rfl, rfl, _, rfl, decI (fun _ => ?_) (fun _ => ⟨S06, z, _, _, Nat.le_trans hz (by decide), rfl⟩)⟩
    refine ⟨_, rfl, sa, ns, 3, rfl, S06.seq hS, by decide, _, _, rfl, rfl, ⟨by decide, by decide, by decide⟩, _, _, rfl, rfl, p9', ?_⟩
    exact ⟨_, rfl, _, rfl, _, rfl, _, rfl, sa, ns, 4, rfl, S06.seq hS, by decide, z, _, _, _, rfl, hz, fun z' H7 fz' S7 => ⟨S06.trans S7, z', _, _, fz', rfl⟩⟩
  rintro σ7 H7 ⟨S7, z7, way, v8, fz7, rfl⟩
  refine ⟨fun σ H' => Same H1 H' ∧ ∃ v : V, Line K H' v ∧ σ = [some (.ref sa), some (.int c), some (.ref l), some (.int ys.length), some (.ref lk), v5, some v, some (.int way), v8, none, none], ?_, ?_⟩
  · refine ⟨_, rfl, rfl, _, rfl, eqI (fun _ => ?_) (fun _ => ⟨S7, _, .inr ⟨z7, rfl, fz7⟩, rfl⟩)⟩
    have z1l : (1 : Nat) ≤ sizeLine := by decide
    refine ⟨z1l, fun a1 h1 => ⟨z1l, fun a2 h2 => fun a3 h3 => ⟨(show 6 ≤ sizeLine by decide), fun ls hls => ?_⟩⟩⟩
    have q1 := same_new h1 (.lst [V.str "3:"])
    have q2 := same_new h2 (.tup [V.str "3:"])
    have q3 := same_new h3 (.dK [])
    have q4 := same_new hls (.lst [V.non, V.int 3, V.ref a1, V.ref a2, V.bl true, V.ref a3])
    have b0 := Int.emod_nonneg (cell ns 3) (show (6 : Int) ≠ 0 by decide)
    have b1 := Int.emod_lt_of_pos (cell ns 3) (show (0 : Int) < 6 by decide)
    obtain ⟨v, mv, av⟩ := pickV (l := [V.non, V.int 3, V.ref a1, V.ref a2, V.bl true, V.ref a3]) (i := cell ns 3 % 6) b0 b1
    have SQ := q1.trans (q2.trans (q3.trans q4))
    refine ⟨_, rfl, sa, ns, 3, rfl, (S7.trans SQ).seq hS, by decide, _, _, rfl, rfl, p6, ls, _, _, v, rfl, rfl, SqL.of upd_same, av, S7.trans SQ, v, .inl ?_, rfl⟩
    simp only [List.mem_cons, List.not_mem_nil, or_false] at mv
    rcases mv with rfl | rfl | rfl | rfl | rfl | rfl
    · exact ⟨_, .non, ks_n K⟩
    · exact ⟨_, .int _, ks_i K⟩
    · exact ⟨_, .lst (q4 _ _ (q3 _ _ (q2 _ _ upd_same))), ks_l K⟩
    · exact ⟨_, .tup (q4 _ _ (q3 _ _ upd_same)), ks_t K⟩
    · exact ⟨_, .bl _, ks_b K⟩
    · exact ⟨_, .dK (q4 _ _ upd_same), ks_d K⟩
  rintro σ8 H8 ⟨S8, v, lv, rfl⟩
  rcases lv with ⟨t, ty, kt⟩ | ⟨z8, rfl, fz8⟩
  · refine ⟨_, rfl, v, rfl, .inl ⟨t, ty, kt, fun p H9 S9 hp => ?_⟩⟩
    refine ⟨p, _, rfl, SqT.of hp, rfl, _, _, rfl, _, _, rfl, rfl, ?_⟩
    exact ⟨_, rfl, _, rfl, _, rfl, v, _, _, rfl, .inl ⟨t, TyOf.same ty S9, kt, rfl, rfl⟩, fun H' _ => kk _⟩
  · refine ⟨_, rfl, _, rfl, .inr ⟨z8, rfl, fz8, fun p v' c' ms' H9 e S9 hp P1 => ?_, fun p i H9 e S9 hp => ?_⟩⟩
    · refine ⟨p, _, rfl, SqT.of hp, rfl, _, _, rfl, _, _, rfl, rfl, ?_⟩
      obtain ⟨ok, ml⟩ := play_ok fz8 e
      exact ⟨_, rfl, _, rfl, _, rfl, _, _, _, rfl, .inr ⟨z8, rfl, fz8, .inr ⟨c', ms', e, P1, ok, ml⟩⟩, fun H' _ => kk _⟩
    · refine ⟨p, _, rfl, SqT.of hp, rfl, _, _, rfl, _, _, rfl, rfl, ?_⟩
      exact ⟨_, rfl, _, rfl, _, rfl, _, _, _, rfl, .inr ⟨z8, rfl, fz8, .inl ⟨i, e, rfl, rfl⟩⟩, fun H' _ => kk _⟩
end
end K95

set_option maxHeartbeats 1200000
namespace K95
open PySem PySem.Spec PyProof.Rows L2
section
variable {P : Program} {w : World} {K : PySem.W.Frag} {mg : Str → Option Value} {base : Heap} {k : Nat} {h : Heap} {C fi : Addr} {bm : List Value} {qual : Str}
theorem sc_init : FnScope ["self", "place"] ["self", "place"] (defScope (inClass (top 6) 0)) := ⟨rfl, rfl, rfl, by decide +kernel, rfl, by decide +kernel, by decide +kernel⟩
theorem ok_init (x : InitAt K C fi qual (inClass (top 6) 0) bm) (na : NoAttr K C "place") : InitCal P w K mg base (k + 1) C bm "place" := by
  refine x.cal na sc_init (fun _ _ _ _ _ _ _ _ => rfl) fun f' cdv A outer s H vs Q E h => ?_
  obtain ⟨a, y, rfl, ha, q⟩ := h
  refine ⟨_, @pss_one _ _ _ (ps_fld1 (C := C) x.sa x.po x.g.dc na (pv 0) (pv 1) rfl), ?_⟩
  exact ⟨_, rfl, _, rfl, a, rfl, ha, fun dx h1 h2 => q dx h1 h2⟩
end
end K95

noncomputable section
namespace K95
open PySem PySem.Spec PyProof.Rows L2 Ba
theorem all_mk {l : PySem.W.OpenLaw} {w : World} {K : PySem.W.Frag} {h : Heap} {mg : Str → Option Value} {fa f : Addr} (X : K.In h) (G : h.Ns mainGlobals mg) (hfa : mg "law" = some (.ref fa))
    {od an : Option Addr} {sl : Array (Option Value)} {oc kV dc pm cd ct : Value} {C fi aN aF A_NoMove A_NoCell A_NoMark A_NoBoard A_NotBorne A_BoardError : Addr} {bm bm3 bm4 bm5 : List Value} {odF : Option Addr} {slF : Array (Option Value)} {nN nF : Nat} {a1 a2 a3 a4 a5 a6 a7 b1 b2 b3 b4 b5 b6 b7 tL tF tC f1 f2 f3 f4 f5 f6 : Tok}
    (aL : PySem.W.nsIn K mainGlobals "law" = some (some (.ref f))) (lL : K.lookup f = some ⟨oc, od, .func (PySem.W.fnOf "law" "law" (defArgs (top 53)) (defBody (top 53)) (defScope (top 53)) .none kV dc pm an cd ct), sl⟩) (cL : PySem.W.codeIn K cd "law" = true) (kL : PySem.W.keepIn K (.ref f) = true)
    (t9 : FunAt K "is_whole" (top 9) .none)
    (t12 : FunAt K "ones" (top 12) .none)
    (t13 : FunAt K "show_mark" (top 13) .none)
    (t14 : FunAt K "cell_sign" (top 14) .none)
    (t15 : FunAt K "read_mark" (top 15) .none)
    (t18 : FunAt K "check_move" (top 18) .none)
    (t19 : FunAt K "has_move_form" (top 19) .none)
    (t20 : FunAt K "named_cells" (top 20) .none)
    (t23 : FunAt K "show_move" (top 23) .none)
    (t24 : FunAt K "parts_of" (top 24) .none)
    (t25 : FunAt K "words_of" (top 25) .none)
    (t26 : FunAt K "read_move" (top 26) .none)
    (t27 : FunAt K "is_figure" (top 27) .none)
    (t31 : FunAt K "read_play" (top 31) .none)
    (t32 : FunAt K "read_parts" (top 32) .none)
    (t33 : FunAt K "read_part" (top 33) .none)
    (t34 : FunAt K "read_look" (top 34) .none)
    (t35 : FunAt K "show_play" (top 35) .none)
    (t36 : FunAt K "show_part" (top 36) .none)
    (t38 : FunAt K "_law_cell_at" (top 38) .none)
    (t39 : FunAt K "_law_whole" (top 39) .none)
    (t40 : FunAt K "_law_mark" (top 40) .none)
    (t41 : FunAt K "_law_mark_text" (top 41) .none)
    (t42 : FunAt K "_law_part" (top 42) .none)
    (t43 : FunAt K "_law_parts" (top 43) .none)
    (t44 : FunAt K "_law_words" (top 44) .none)
    (t45 : FunAt K "_law_blanks" (top 45) .none)
    (t46 : FunAt K "_law_line" (top 46) .none)
    (t47 : FunAt K "_law_spoiled" (top 47) .none)
    (t48 : FunAt K "_law_read_mark" (top 48) .none)
    (t49 : FunAt K "_law_read_part" (top 49) .none)
    (t50 : FunAt K "_law_due" (top 50) .none)
    (t51 : FunAt K "_law_is_play" (top 51) .none)
    (t52 : FunAt K "_law_reads" (top 52) .none)
    (z0 : PySem.W.nsIn K mainGlobals "isinstance" = some none)
    (z1 : PySem.W.nsIn K mainGlobals "int" = some none)
    (z2 : PySem.W.nsIn K mainGlobals "bool" = some none)
    (z3 : PySem.W.nsIn K mainGlobals "tuple" = some none)
    (z4 : PySem.W.nsIn K mainGlobals "list" = some none)
    (z5 : PySem.W.nsIn K mainGlobals "len" = some none)
    (z6 : PySem.W.nsIn K mainGlobals "range" = some none)
    (z7 : PySem.W.nsIn K mainGlobals "all" = some none)
    (z8 : PySem.W.nsIn K mainGlobals "any" = some none)
    (z9 : PySem.W.nsIn K mainGlobals "max" = some none)
    (z10 : PySem.W.nsIn K mainGlobals "min" = some none)
    (z11 : PySem.W.nsIn K mainGlobals "zip" = some none)
    (z12 : PySem.W.nsIn K mainGlobals "set" = some none)
    (z13 : PySem.W.nsIn K mainGlobals "str" = some none)
    (z14 : PySem.W.nsIn K mainGlobals "enumerate" = some none)
    (z15 : PySem.W.nsIn K mainGlobals "reversed" = some none)
    (gN0 : PySem.W.nsIn K mainGlobals "NUMBERS_BEHIND" = some (some (.ref aN)))
    (tN : K.lookup aN = some ⟨.type "dict", none, .dict #[⟨PyData.keyHash w.params "flip", .str "flip" a1, .int 1 b1⟩, ⟨PyData.keyHash w.params "mix", .str "mix" a2, .int 1 b2⟩, ⟨PyData.keyHash w.params "turn", .str "turn" a3, .int 2 b3⟩, ⟨PyData.keyHash w.params "if", .str "if" a4, .int 2 b4⟩, ⟨PyData.keyHash w.params "pair", .str "pair" a5, .int 2 b5⟩, ⟨PyData.keyHash w.params "swap", .str "swap" a6, .int 2 b6⟩, ⟨PyData.keyHash w.params "cross", .str "cross" a7, .int 3 b7⟩] nN, #[]⟩)
    (nN0 : (aN == sysModules) = false)
    (gL0 : PySem.W.nsIn K mainGlobals "MOST_LOOKS" = some (some (.int 6 tL)))
    (gF0 : PySem.W.nsIn K mainGlobals "FIGURES" = some (some (.str "0123456789" tF)))
    (gC0 : PySem.W.nsIn K mainGlobals "CELL_SIGNS" = some (some (.str ".fsb" tC)))
    (gA0 : PySem.W.nsIn K mainGlobals "FIGURES_OF_CELLS" = some (some (.ref aF)))
    (tA : K.lookup aF = some ⟨.type "tuple", odF, .seq #[.str "1" f1, .str "2" f2, .str "3" f3, .str "4" f4, .str "5" f5, .str "6" f6] nF, slF⟩)
    (aC : PySem.W.nsIn K mainGlobals "NoText" = some (some (.ref C)))
    (zV : PySem.W.nsIn K mainGlobals "ValueError" = some none)
    (ia : InitAt K C fi "NoText.__init__" (inClass (top 6) 0) bm)
    (na : NoAttr K C "place")
    (xMo : ExcAt K A_NoMove bm3)
    (xCe : ExcAt K A_NoCell bm4)
    (xMk : ExcAt K A_NoMark bm5)
    (ve : PySem.W.kitOne K (.ref C) (.type "ValueError") = some true)
    (n_NoMove : PySem.W.nsIn K mainGlobals "NoMove" = some (some (.ref A_NoMove)))
    (n_NoCell : PySem.W.nsIn K mainGlobals "NoCell" = some (some (.ref A_NoCell)))
    (n_NoMark : PySem.W.nsIn K mainGlobals "NoMark" = some (some (.ref A_NoMark)))
    (n_NoBoard : PySem.W.nsIn K mainGlobals "NoBoard" = some (some (.ref A_NoBoard)))
    (n_NotBorne : PySem.W.nsIn K mainGlobals "NotBorne" = some (some (.ref A_NotBorne)))
    (n_BoardError : PySem.W.nsIn K mainGlobals "BoardError" = some (some (.ref A_BoardError)))
    (k_NoMove : PySem.W.kitOne K (.ref C) (.ref A_NoMove) = some false)
    (k_NoCell : PySem.W.kitOne K (.ref C) (.ref A_NoCell) = some false)
    (k_NoMark : PySem.W.kitOne K (.ref C) (.ref A_NoMark) = some false)
    (k_NoBoard : PySem.W.kitOne K (.ref C) (.ref A_NoBoard) = some false)
    (k_NotBorne : PySem.W.kitOne K (.ref C) (.ref A_NotBorne) = some false)
    (k_BoardError : PySem.W.kitOne K (.ref C) (.ref A_BoardError) = some true)
    : ∃ fd : FuncData, (∀ (s : Shared) (v : Value), BindsTo s fd ⟨[v], []⟩ [("_law_script", v)]) ∧ ∀ base : Heap, K.In base → base.Ns mainGlobals mg → FnOk l.prog w K mg base CX0 9 fa fd ["_law_script"] (spLaw K 63) := by
  have e := hfa.symm.trans (PySem.W.mg_of X G aL)
  cases e
  have F := fun_mk (st := top 53) lL cL kL
  have B : Bs mg := ⟨PySem.W.mg_none_of X G z0, PySem.W.mg_none_of X G z1, PySem.W.mg_none_of X G z2, PySem.W.mg_none_of X G z3, PySem.W.mg_none_of X G z4, PySem.W.mg_none_of X G z5, PySem.W.mg_none_of X G z6, PySem.W.mg_none_of X G z7, PySem.W.mg_none_of X G z8, PySem.W.mg_none_of X G z9, PySem.W.mg_none_of X G z10, PySem.W.mg_none_of X G z11, PySem.W.mg_none_of X G z12, PySem.W.mg_none_of X G z13, PySem.W.mg_none_of X G z14, PySem.W.mg_none_of X G z15⟩
  refine ⟨PySem.W.fnOf "law" "law" (defArgs (top 53)) (defBody (top 53)) (defScope (top 53)) .none kV dc pm an cd ct, fun s v => .of_eq rfl, fun base _ _ => ?_⟩
  have gN := PySem.W.mg_of X G gN0
  have DN : KDic K w.params aN NB := ⟨⟨_, _, _, tN, ⟨rfl, rfl, rfl⟩, rfl, .cons ⟨_, _, rfl⟩ (.cons ⟨_, _, rfl⟩ (.cons ⟨_, _, rfl⟩ (.cons ⟨_, _, rfl⟩ (.cons ⟨_, _, rfl⟩ (.cons ⟨_, _, rfl⟩ (.cons ⟨_, _, rfl⟩ .nil))))))⟩, by decide +kernel, nN0⟩
  have ci4 : InitCal l.prog w K mg base 4 C bm "place" := ok_init ia na
  have ci5 : InitCal l.prog w K mg base 5 C bm "place" := ok_init ia na
  have ex : Exs K mg C bm := ⟨PySem.W.mg_none_of X G zV, PySem.W.mg_of X G aC, ci4.cls, ⟨ci4.cls, ia.tail⟩, ci4.g, na, ve, A_NoMove, PySem.W.mg_of X G n_NoMove, k_NoMove, A_NoCell, PySem.W.mg_of X G n_NoCell, k_NoCell, A_NoMark, PySem.W.mg_of X G n_NoMark, k_NoMark, A_NoBoard, PySem.W.mg_of X G n_NoBoard, k_NoBoard, A_NotBorne, PySem.W.mg_of X G n_NotBorne, k_NotBorne, A_BoardError, PySem.W.mg_of X G n_BoardError, k_BoardError⟩
  have hF : ∀ H, SqT K H aF (FIGS.map V.str) := fun H => .inr ⟨_, _, _, tA, rfl, rfl, (show 6 ≤ sizeLine by decide), .cons ⟨_, rfl⟩ (.cons ⟨_, rfl⟩ (.cons ⟨_, rfl⟩ (.cons ⟨_, rfl⟩ (.cons ⟨_, rfl⟩ (.cons ⟨_, rfl⟩ .nil)))))⟩
  have c9 := ok_iswhole (P := l.prog) (w := w) (base := base) (k := 0) t9 X G B
  have wP := ok_iswholeP (P := l.prog) (w := w) (base := base) (k := 0) t9 X G B
  have c20 := ok_named (P := l.prog) (w := w) (base := base) (k := 0) t20 X G B
  have c19 := ok_form t19 X G B gN DN c9
  have nF := ok_noform t19 X G B gN DN wP
  have c18 := ok_check t18 X G B c19 (c20.mono (by decide))
  have xM := okx_checkM t18 X G (PySem.W.mg_of X G n_NoMove) xMo nF
  have xK := okx_checkC t18 X G B (PySem.W.mg_of X G n_NoCell) xCe c19 (c20.mono (by decide))
  have c25 := ok_words (P := l.prog) (w := w) (base := base) (k := 0) t25 X G
  have c24 := ok_parts t24 X G B c25
  have c27 := ok_fig (P := l.prog) (w := w) (base := base) (k := 0) (PySem.W.mg_of X G gF0) t27 X G B
  have c26 := ok_readmv (k := 3) (PySem.W.mg_of X G n_NoMove) (PySem.W.mg_of X G n_NoCell) xMo xCe t26 X G B (c25.mono (by decide)) (c27.mono (by decide)) xM xK c18
  have c12 := ok_ones (P := l.prog) (w := w) (base := base) (k := 0) t12 X G B
  have xMark := okx_rmark (PySem.W.mg_of X G gC0) t15 X G B (PySem.W.mg_of X G n_NoMark) xMk c12
  have c14 := ok_cs (P := l.prog) (w := w) (base := base) (k := 0) (PySem.W.mg_of X G gC0) t14 X G
  have c13 := ok_showm t13 X G B c12 c14
  have c34 := ok_rlook (PySem.W.mg_of X G n_NoMark) xMk t34 X G B xMark
  have c33 := ok_rpart (k := 4) t33 X G B (c25.mono (by decide)) (c34.mono (by decide)) (c26.mono (by decide))
  have xParts := okx_rparts (k := 4) (PySem.W.mg_of X G gL0) (PySem.W.mg_of X G aC) t32 X G B ci4 (c24.mono (by decide)) c33
  have xPlay := okx_rplay (k := 5) (PySem.W.mg_of X G gA0) hF (PySem.W.mg_of X G aC) t31 X G B ci5 (c25.mono (by decide)) xParts
  have c23 := ok_showmv (P := l.prog) (w := w) (base := base) (k := 0) t23 X G B
  have c36 := ok_showpt (k := 2) t36 X G B c13 (c23.mono (by decide))
  have c35 := ok_showpl t35 X G B c36
  have c38 := ok_cell (P := l.prog) (w := w) (base := base) (k := 0) t38 X G B
  have c39 := ok_whole (P := l.prog) (w := w) (base := base) (k := 0) t39 X G B
  have c40 := ok_mark (P := l.prog) (w := w) (base := base) (k := 0) t40 X G B
  have c41 := ok_markt (P := l.prog) (w := w) (base := base) (k := 0) t41 X G B
  have c42 := ok_part t42 X G B c40
  have c43 := ok_partsl t43 X G B c42
  have c44 := ok_wordsl t44 X G B c41
  have c45 := ok_blanks (P := l.prog) (w := w) (base := base) (k := 0) t45 X G
  have c46 := ok_line (k := 2) t46 X G B (c45.mono (by decide)) c44
  have c47 := ok_spoil (P := l.prog) (w := w) (base := base) (k := 0) t47 X G B
  have c48 := ok_rdmark (P := l.prog) (w := w) (base := base) (k := 0) t48 X G B
  have c49 := ok_rdpart t49 X G B c48
  have c50 := ok_duel t50 X G B c49
  have c51 := ok_isplay t51 X G B c39
  have c52 := ok_reads (k := 7) t52 X G B ex xPlay (c51.mono (by decide)) (fun g => ok_wholeH (k := 6) g t39 X G B)
  exact ok_law (k := 8) F B (c38.mono (by decide)) (c43.mono (by decide)) (c35.mono (by decide)) (c52.mono (by decide)) (c46.mono (by decide)) (c47.mono (by decide)) (c50.mono (by decide))
theorem walk {l : PySem.W.OpenLaw} {q : Program} {loose : List Str} {XP : (Str → Option Value) → Heap → Prop} {YP : World → Heap → Prop} {d : DefRec} {K : Params → PySem.W.Frag} (hn : l.most = some 63) (hdf : d.params.defaults = [])
    (hY : ∀ (w : World) (h : Heap), YP w h → (K w.params).In h)
    (F : ∀ (w : World) (mg : Str → Option Value) (fa : Addr) (h : Heap), (K w.params).In h → h.Ns mainGlobals mg → mg d.name = some (.ref fa) →
      ∃ fd : FuncData, (∀ (s : Shared) (u : Value), BindsTo s fd ⟨[u], []⟩ [("_law_script", u)]) ∧ ∀ base : Heap, (K w.params).In base → base.Ns mainGlobals mg → FnOk l.prog w (K w.params) mg base CX0 9 fa fd ["_law_script"] (spLaw (K w.params) 63)) :
    PySem.W.WalkO q loose XP YP l.row.toRowW d [] (fun f vs => PySem.call f vs) :=
  L2.walk_light (n := 63) (k := 9) (x := "_law_script") (CX := fun _ => CX0) (sp := fun w => spLaw (K w.params) 63) hn (by decide) hdf ⟨rfl, by decide, by decide⟩ hY F (fun _ _ a ns hl lt hS => ⟨a, ns, rfl, hS, hl, lt, fun _ => rfl⟩) fun _ _ _ _ _ z => z
/-! ### the top, run piece by piece: what stands in the heap behind each -/
namespace Hd
open PySem.W
set_option maxHeartbeats 0
abbrev pr : Program := PySem.Challenge.pw_spinboard_k95_plays_written
abbrev kh := PyData.keyHash
def dPos (s : Stmt) : Pos := match s with
  | .FunctionDef _ _ _ _ _ _ _ _ _ p => p
  | _ => ⟨0, 0, 0, 0⟩
def life : Life := (Life.mk [] [] [] 0 [] [] false #[] [] 0 false false false 0 [2000, 10, 10] false 0 true [] [] 0 false)
def en : Env := { scope := pr.main.scope, locals := mainNs, globals := mainNs, cells := [], code := (.ref 13), frame := some 14 }
def dn (P : Params) (x : Str) (t : Nat) (v : Value) : DictEntry := DictEntry.mk (kh P x) (.str x t) v
def cob (n : Str) (t1 : Nat) (q : Str) (t2 t3 : Nat) (i1 i2 i3 i4 i5 : Int) (r1 : Addr) (b : Bool) (i6 : Int) (r2 : Addr) (v1 v2 v3 : Value) (i7 i8 : Int) (t4 : Nat) : Obj := Obj.mk (.type "code") none (Data.fields #[.str n t1, .str q t2, .str "/claim/cut.py" t3, .int i1 0, .int i2 0, .int i3 0, .int i4 0, .int i5 0, .ref r1, .bool b, .int i6 0, .ref r2, .none, v1, v2, v3, .int i7 0, .int i8 0, .str "/claim/cut.py" t4]) #[]
def fo1 (n q : Str) (s : Stmt) (k j : Nat) : Obj := Obj.mk .none none (Data.func (FuncData.mk n q (defArgs s) (FuncBody.stmts (defBody s)) (defScope s) k [] .none .none .none .none none .none .none j)) #[]
def fo2 (n q : Str) (s : Stmt) (k : Nat) (m : Str) (t : Nat) (c : Addr) (j : Nat) : Obj := Obj.mk (.type "function") none (Data.func (FuncData.mk n q (defArgs s) (FuncBody.stmts (defBody s)) (defScope s) k [] .none .none .none (.str m t) none (.ref c) .none j)) #[]
def sq0 (T : String) (n : Nat) : Obj := Obj.mk (.type T) none (Data.seq #[] n) #[]
def nf0 : Obj := Obj.mk .none none (Data.fields #[]) #[]
abbrev Pz := Params
def o11_0(P:Pz):=(sq0 "tuple" 0)
def o12_0(P:Pz):=(nf0)
def o13_0(P:Pz):=(cob "<module>" 182 "<module>" 183 184 1 0 0 0 0 11 false 181 12 .none .none .none 185 1 186)
def o14_0(P:Pz):=(Obj.mk (.type "frame") none Data.plain #[(some (.ref 13)), (some (.ref 3)), (some (.ref 3)), none, (some (.str "__main__" 164)), none, (some (.ref 0))])
def Ha (P : Params) : Heap := Heap.mk (Array.mk [(boot_o_0 P), (boot_o_1 P), (boot_o_2 P), (boot_o_3 P), (boot_o_4 P), (boot_o_5 P), (boot_o_6 P), (boot_o_7 P), (boot_o_8 P), (boot_o_9 P), (boot_o_10 P), (o11_0 P), (o12_0 P), (o13_0 P), (o14_0 P)]) life
def T0 (P : Params) : BT := (.node (boot_o_0 P) (.node (boot_o_1 P) (.node (boot_o_3 P) (.node (boot_o_7 P) .nil .nil) (.node (o11_0 P) .nil .nil)) (.node (boot_o_5 P) (.node (boot_o_9 P) .nil .nil) (.node (o13_0 P) .nil .nil))) (.node (boot_o_2 P) (.node (boot_o_4 P) (.node (boot_o_8 P) .nil .nil) (.node (o12_0 P) .nil .nil)) (.node (boot_o_6 P) (.node (boot_o_10 P) .nil .nil) (.node (o14_0 P) .nil .nil))))
def l0 : List Stmt := [top 0, top 1]
def l1 : List Stmt := [top 2]
def l2 : List Stmt := [top 3]
def l3 : List Stmt := [top 4]
def l4 : List Stmt := [top 5]
def l5 : List Stmt := [top 6]
def l6 : List Stmt := [top 7, top 8, top 9, top 10, top 11, top 12, top 13, top 14]
def l7 : List Stmt := [top 15, top 16, top 17, top 18, top 19, top 20, top 21, top 22, top 23, top 24, top 25, top 26, top 27]
def l8 : List Stmt := [top 28, top 29, top 30, top 31, top 32, top 33, top 34, top 35, top 36, top 37, top 38, top 39, top 40, top 41, top 42]
def l9 : List Stmt := [top 43, top 44, top 45, top 46, top 47, top 48, top 49, top 50, top 51, top 52, top 53]
def bE : List Stmt := l0 ++ (l1 ++ (l2 ++ (l3 ++ (l4 ++ (l5 ++ (l6 ++ (l7 ++ (l8 ++ (l9 ++ [])))))))))
abbrev cE : Code := Code.body bE en
abbrev BB : List Frame := [topFrame (Pos.mk 0 0 0 0)]
theorem pre_ (w : World) (os : OsState) : topGo treeTable pr w 11 (some (.ref 6)) 12 (Shared.mk (boot_heap w.params) (Array.mk []) boot_drawn boot_toks os) (topStub pr) = some (Shared.mk (Ha w.params) (Array.mk []) (Drawn.mk 0 0 0 0) 187 os, Thread.mk (denote treeTable cE) cE (Pos.mk 0 0 0 0) BB) := by rw [PySem.W.Fast.te15667345088766844465, PySem.W.Fast.te11892475500146522536, PySem.W.Fast.te14364793385576792824]; kernel_rfl
theorem block_ (w : World) (os : OsState) : segRun treeTable pr w 11 (some (.ref 6)) 1 1 (Shared.mk (Ha w.params) (Array.mk []) (Drawn.mk 0 0 0 0) 187 os) (blockOf bE en cE (Pos.mk 0 0 0 0) BB) = some (Flow.next, (SharedT.mk (T0 w.params) 15 life (Array.mk []) (Drawn.mk 0 0 0 0) 187 os).abs, cE, (Pos.mk 0 0 0 0)) := by rw [PySem.W.Fast.te14374325043358763698, PySem.W.Fast.te14364793385576792824]; kernel_rfl
def o3_2(P:Pz):=(Obj.mk (.type "dict") none (Data.dict #[(dn P "__name__" 165 (.str "spinboard.errors" 187)), (dn P "__doc__" 166 .none), (dn P "__package__" 167 .none), (dn P "__loader__" 168 (.builtin "__main__.__loader__#opaque")), (dn P "__spec__" 169 .none), (dn P "__annotations__" 170 (.ref 6)), (dn P "__builtins__" 171 (.ref 4)), (dn P "__file__" 173 (.str "/claim/cut.py" 172)), (dn P "__cached__" 174 .none), (dn P "BoardError" 206 (.ref 24))] 10) #[])
def o12_2(P:Pz):=(Obj.mk .none none (Data.fields #[(.int 2 0), (.int 0 0), (.ref 20)]) #[])
def o15_2(P:Pz):=(Obj.mk (.type "tuple") none (Data.seq #[(.type "ValueError")] 0) #[])
def o16_2(P:Pz):=(Obj.mk (.type "builtin_function_or_method") none (Data.fields #[(.builtin "type.__prepare__"), (.type "type")]) #[])
def o17_2(P:Pz):=(Obj.mk (.type "dict") none (Data.dict #[(dn P "__module__" 196 (.str "spinboard.errors" 187)), (dn P "__qualname__" 198 (.str "BoardError" 197)), (dn P "__firstlineno__" 200 (.int 2 199)), (dn P "__static_attributes__" 201 (.ref 22))] 4) #[])
def o18_2(P:Pz):=(sq0 "tuple" 0)
def o19_2(P:Pz):=(nf0)
def o20_2(P:Pz):=(cob "BoardError" 191 "BoardError" 192 193 2 0 0 0 0 18 false 181 19 .none .none .none 194 2 195)
def o21_2(P:Pz):=(Obj.mk (.type "frame") none Data.plain #[(some (.ref 20)), (some (.ref 3)), (some (.ref 17)), none, (some (.str "spinboard.errors" 187)), none, (some (.ref 0))])
def o22_2(P:Pz):=(sq0 "tuple" 0)
def o23_2(P:Pz):=(Obj.mk (.type "dict") none (Data.dict #[(dn P "__module__" 196 (.str "spinboard.errors" 187)), (dn P "__firstlineno__" 200 (.int 2 199)), (dn P "__static_attributes__" 201 (.ref 22)), (dn P "__weakref__" 203 (.ref 25)), (dn P "__doc__" 204 .none)] 3) #[])
def o24_2(P:Pz):=(Obj.mk (.type "type") none (Data.cls (ClassData.mk "BoardError" [(.type "ValueError")] [(.ref 24), (.type "ValueError"), (.type "Exception"), (.type "BaseException"), (.type "object")] 23 "BoardError" true [] [] false none false)) #[(some (.ref 15)), none, (some (.str "BoardError" 189)), (some (.str "BoardError" 197)), (some (.builtin "ValueError.__new__")), (some (.bool true))])
def o25_2(P:Pz):=(Obj.mk (.type "getset_descriptor") none (Data.fields #[(.str "__weakref__" 202), (.ref 24), (.builtin "ExceptionGroup.__weakref__"), .none]) #[])
def o26_2(P:Pz):=(Obj.mk (.type "super") none (Data.fields #[(.ref 24), (.ref 24), (.ref 24)]) #[])
def o27_2(P:Pz):=(Obj.mk (.type "builtin_function_or_method") none (Data.fields #[(.builtin "object.__init_subclass__"), (.ref 24)]) #[])
def T1 (P : Params) : BT := ((((((((((((((((T0 P).ins 3 (o3_2 P)).ins 12 (o12_2 P)).ins 15 (o15_2 P)).ins 16 (o16_2 P)).ins 17 (o17_2 P)).ins 18 (o18_2 P)).ins 19 (o19_2 P)).ins 20 (o20_2 P)).ins 21 (o21_2 P)).ins 22 (o22_2 P)).ins 23 (o23_2 P)).ins 24 (o24_2 P)).ins 25 (o25_2 P)).ins 26 (o26_2 P)).ins 27 (o27_2 P))
theorem g0 (p : Program) (b : List Stmt) (w : World) (os : OsState) : segRunT treeTable p w 11 (some (.ref 6)) 1 196 (SharedT.mk (T0 w.params) 15 life (Array.mk []) (Drawn.mk 0 0 0 0) 187 os) (piecesOf l0 en (Code.body b en) (Pos.mk 0 0 0 0) BB) = some (Flow.next, (SharedT.mk (T1 w.params) 28 life (Array.mk []) (Drawn.mk 0 0 0 0) 207 os), Code.body b en, (Pos.mk 2 0 3 8)) := by rw [PySem.W.Fast.te10110043849684766642, PySem.W.Fast.te14364793385576792824]; kernel_rfl
def o3_3(P:Pz):=(Obj.mk (.type "dict") none (Data.dict #[(dn P "__name__" 165 (.str "spinboard.errors" 187)), (dn P "__doc__" 166 .none), (dn P "__package__" 167 .none), (dn P "__loader__" 168 (.builtin "__main__.__loader__#opaque")), (dn P "__spec__" 169 .none), (dn P "__annotations__" 170 (.ref 6)), (dn P "__builtins__" 171 (.ref 4)), (dn P "__file__" 173 (.str "/claim/cut.py" 172)), (dn P "__cached__" 174 .none), (dn P "BoardError" 206 (.ref 24)), (dn P "NoMark" 222 (.ref 37))] 11) #[])
def o12_3(P:Pz):=(Obj.mk .none none (Data.fields #[(.int 2 0), (.int 0 0), (.ref 20), (.int 4 0), (.int 0 0), (.ref 33)]) #[])
def o24_3(P:Pz):=(Obj.mk (.type "type") none (Data.cls (ClassData.mk "BoardError" [(.type "ValueError")] [(.ref 24), (.type "ValueError"), (.type "Exception"), (.type "BaseException"), (.type "object")] 23 "BoardError" true [] [(.ref 37)] false none false)) #[(some (.ref 15)), none, (some (.str "BoardError" 189)), (some (.str "BoardError" 197)), (some (.builtin "ValueError.__new__")), (some (.bool true))])
def o28_3(P:Pz):=(Obj.mk (.type "tuple") none (Data.seq #[(.ref 24)] 0) #[])
def o29_3(P:Pz):=(Obj.mk (.type "builtin_function_or_method") none (Data.fields #[(.builtin "type.__prepare__"), (.type "type")]) #[])
def o30_3(P:Pz):=(Obj.mk (.type "dict") none (Data.dict #[(dn P "__module__" 214 (.str "spinboard.errors" 187)), (dn P "__qualname__" 216 (.str "NoMark" 215)), (dn P "__firstlineno__" 218 (.int 4 217)), (dn P "__static_attributes__" 219 (.ref 35))] 4) #[])
def o31_3(P:Pz):=(sq0 "tuple" 0)
def o32_3(P:Pz):=(nf0)
def o33_3(P:Pz):=(cob "NoMark" 209 "NoMark" 210 211 4 0 0 0 0 31 false 181 32 .none .none .none 212 4 213)
def o34_3(P:Pz):=(Obj.mk (.type "frame") none Data.plain #[(some (.ref 33)), (some (.ref 3)), (some (.ref 30)), none, (some (.str "spinboard.errors" 187)), none, (some (.ref 0))])
def o35_3(P:Pz):=(sq0 "tuple" 0)
def o36_3(P:Pz):=(Obj.mk (.type "dict") none (Data.dict #[(dn P "__module__" 214 (.str "spinboard.errors" 187)), (dn P "__firstlineno__" 218 (.int 4 217)), (dn P "__static_attributes__" 219 (.ref 35)), (dn P "__doc__" 220 .none)] 2) #[])
def o37_3(P:Pz):=(Obj.mk (.type "type") none (Data.cls (ClassData.mk "NoMark" [(.ref 24)] [(.ref 37), (.ref 24), (.type "ValueError"), (.type "Exception"), (.type "BaseException"), (.type "object")] 36 "NoMark" true [] [] false none false)) #[(some (.ref 28)), none, (some (.str "NoMark" 207)), (some (.str "NoMark" 215)), (some (.builtin "ValueError.__new__")), (some (.bool true))])
def o38_3(P:Pz):=(Obj.mk (.type "super") none (Data.fields #[(.ref 37), (.ref 37), (.ref 37)]) #[])
def o39_3(P:Pz):=(Obj.mk (.type "builtin_function_or_method") none (Data.fields #[(.builtin "object.__init_subclass__"), (.ref 37)]) #[])
def T2 (P : Params) : BT := ((((((((((((((((T1 P).ins 3 (o3_3 P)).ins 12 (o12_3 P)).ins 24 (o24_3 P)).ins 28 (o28_3 P)).ins 29 (o29_3 P)).ins 30 (o30_3 P)).ins 31 (o31_3 P)).ins 32 (o32_3 P)).ins 33 (o33_3 P)).ins 34 (o34_3 P)).ins 35 (o35_3 P)).ins 36 (o36_3 P)).ins 37 (o37_3 P)).ins 38 (o38_3 P)).ins 39 (o39_3 P))
theorem g1 (p : Program) (b : List Stmt) (w : World) (os : OsState) : segRunT treeTable p w 11 (some (.ref 6)) 1 214 (SharedT.mk (T1 w.params) 28 life (Array.mk []) (Drawn.mk 0 0 0 0) 207 os) (piecesOf l1 en (Code.body b en) (Pos.mk 2 0 3 8) BB) = some (Flow.next, (SharedT.mk (T2 w.params) 40 life (Array.mk []) (Drawn.mk 0 0 0 0) 223 os), Code.body b en, (Pos.mk 4 0 5 8)) := by rw [PySem.W.Fast.te10110043849684766642, PySem.W.Fast.te14364793385576792824]; kernel_rfl
def o3_4(P:Pz):=(Obj.mk (.type "dict") none (Data.dict #[(dn P "__name__" 165 (.str "spinboard.errors" 187)), (dn P "__doc__" 166 .none), (dn P "__package__" 167 .none), (dn P "__loader__" 168 (.builtin "__main__.__loader__#opaque")), (dn P "__spec__" 169 .none), (dn P "__annotations__" 170 (.ref 6)), (dn P "__builtins__" 171 (.ref 4)), (dn P "__file__" 173 (.str "/claim/cut.py" 172)), (dn P "__cached__" 174 .none), (dn P "BoardError" 206 (.ref 24)), (dn P "NoMark" 222 (.ref 37)), (dn P "NoBoard" 238 (.ref 49))] 12) #[])
def o12_4(P:Pz):=(Obj.mk .none none (Data.fields #[(.int 2 0), (.int 0 0), (.ref 20), (.int 4 0), (.int 0 0), (.ref 33), (.int 6 0), (.int 0 0), (.ref 45)]) #[])
def o24_4(P:Pz):=(Obj.mk (.type "type") none (Data.cls (ClassData.mk "BoardError" [(.type "ValueError")] [(.ref 24), (.type "ValueError"), (.type "Exception"), (.type "BaseException"), (.type "object")] 23 "BoardError" true [] [(.ref 37), (.ref 49)] false none false)) #[(some (.ref 15)), none, (some (.str "BoardError" 189)), (some (.str "BoardError" 197)), (some (.builtin "ValueError.__new__")), (some (.bool true))])
def o40_4(P:Pz):=(Obj.mk (.type "tuple") none (Data.seq #[(.ref 24)] 0) #[])
def o41_4(P:Pz):=(Obj.mk (.type "builtin_function_or_method") none (Data.fields #[(.builtin "type.__prepare__"), (.type "type")]) #[])
def o42_4(P:Pz):=(Obj.mk (.type "dict") none (Data.dict #[(dn P "__module__" 230 (.str "spinboard.errors" 187)), (dn P "__qualname__" 232 (.str "NoBoard" 231)), (dn P "__firstlineno__" 234 (.int 6 233)), (dn P "__static_attributes__" 235 (.ref 47))] 4) #[])
def o43_4(P:Pz):=(sq0 "tuple" 0)
def o44_4(P:Pz):=(nf0)
def o45_4(P:Pz):=(cob "NoBoard" 225 "NoBoard" 226 227 6 0 0 0 0 43 false 181 44 .none .none .none 228 6 229)
def o46_4(P:Pz):=(Obj.mk (.type "frame") none Data.plain #[(some (.ref 45)), (some (.ref 3)), (some (.ref 42)), none, (some (.str "spinboard.errors" 187)), none, (some (.ref 0))])
def o47_4(P:Pz):=(sq0 "tuple" 0)
def o48_4(P:Pz):=(Obj.mk (.type "dict") none (Data.dict #[(dn P "__module__" 230 (.str "spinboard.errors" 187)), (dn P "__firstlineno__" 234 (.int 6 233)), (dn P "__static_attributes__" 235 (.ref 47)), (dn P "__doc__" 236 .none)] 2) #[])
def o49_4(P:Pz):=(Obj.mk (.type "type") none (Data.cls (ClassData.mk "NoBoard" [(.ref 24)] [(.ref 49), (.ref 24), (.type "ValueError"), (.type "Exception"), (.type "BaseException"), (.type "object")] 48 "NoBoard" true [] [] false none false)) #[(some (.ref 40)), none, (some (.str "NoBoard" 223)), (some (.str "NoBoard" 231)), (some (.builtin "ValueError.__new__")), (some (.bool true))])
def o50_4(P:Pz):=(Obj.mk (.type "super") none (Data.fields #[(.ref 49), (.ref 49), (.ref 49)]) #[])
def o51_4(P:Pz):=(Obj.mk (.type "builtin_function_or_method") none (Data.fields #[(.builtin "object.__init_subclass__"), (.ref 49)]) #[])
def T3 (P : Params) : BT := ((((((((((((((((T2 P).ins 3 (o3_4 P)).ins 12 (o12_4 P)).ins 24 (o24_4 P)).ins 40 (o40_4 P)).ins 41 (o41_4 P)).ins 42 (o42_4 P)).ins 43 (o43_4 P)).ins 44 (o44_4 P)).ins 45 (o45_4 P)).ins 46 (o46_4 P)).ins 47 (o47_4 P)).ins 48 (o48_4 P)).ins 49 (o49_4 P)).ins 50 (o50_4 P)).ins 51 (o51_4 P))
theorem g2 (p : Program) (b : List Stmt) (w : World) (os : OsState) : segRunT treeTable p w 11 (some (.ref 6)) 1 214 (SharedT.mk (T2 w.params) 40 life (Array.mk []) (Drawn.mk 0 0 0 0) 223 os) (piecesOf l2 en (Code.body b en) (Pos.mk 4 0 5 8) BB) = some (Flow.next, (SharedT.mk (T3 w.params) 52 life (Array.mk []) (Drawn.mk 0 0 0 0) 239 os), Code.body b en, (Pos.mk 6 0 7 8)) := by rw [PySem.W.Fast.te10110043849684766642, PySem.W.Fast.te14364793385576792824]; kernel_rfl
def o3_5(P:Pz):=Obj.mk (.type "dict") none (Data.dict #[(dn P "__name__" 165 (.str "spinboard.errors" 187)), (dn P "__doc__" 166 .none), (dn P "__package__" 167 .none), (dn P "__loader__" 168 (.builtin "__main__.__loader__#opaque")), (dn P "__spec__" 169 .none), (dn P "__annotations__" 170 (.ref 6)), (dn P "__builtins__" 171 (.ref 4)), (dn P "__file__" 173 (.str "/claim/cut.py" 172)), (dn P "__cached__" 174 .none), (dn P "BoardError" 206 (.ref 24)), (dn P "NoMark" 222 (.ref 37)), (dn P "NoBoard" 238 (.ref 49)), (dn P "NoMove" 254 (.ref 61))] 13) #[]
def o12_5(P:Pz):=(Obj.mk .none none (Data.fields #[(.int 2 0), (.int 0 0), (.ref 20), (.int 4 0), (.int 0 0), (.ref 33), (.int 6 0), (.int 0 0), (.ref 45), (.int 8 0), (.int 0 0), (.ref 57)]) #[])
def o24_5(P:Pz):=(Obj.mk (.type "type") none (Data.cls (ClassData.mk "BoardError" [(.type "ValueError")] [(.ref 24), (.type "ValueError"), (.type "Exception"), (.type "BaseException"), (.type "object")] 23 "BoardError" true [] [(.ref 37), (.ref 49), (.ref 61)] false none false)) #[(some (.ref 15)), none, (some (.str "BoardError" 189)), (some (.str "BoardError" 197)), (some (.builtin "ValueError.__new__")), (some (.bool true))])
def o52_5(P:Pz):=(Obj.mk (.type "tuple") none (Data.seq #[(.ref 24)] 0) #[])
def o53_5(P:Pz):=(Obj.mk (.type "builtin_function_or_method") none (Data.fields #[(.builtin "type.__prepare__"), (.type "type")]) #[])
def o54_5(P:Pz):=(Obj.mk (.type "dict") none (Data.dict #[(dn P "__module__" 246 (.str "spinboard.errors" 187)), (dn P "__qualname__" 248 (.str "NoMove" 247)), (dn P "__firstlineno__" 250 (.int 8 249)), (dn P "__static_attributes__" 251 (.ref 59))] 4) #[])
def o55_5(P:Pz):=(sq0 "tuple" 0)
def o56_5(P:Pz):=(nf0)
def o57_5(P:Pz):=(cob "NoMove" 241 "NoMove" 242 243 8 0 0 0 0 55 false 181 56 .none .none .none 244 8 245)
def o58_5(P:Pz):=(Obj.mk (.type "frame") none Data.plain #[(some (.ref 57)), (some (.ref 3)), (some (.ref 54)), none, (some (.str "spinboard.errors" 187)), none, (some (.ref 0))])
def o59_5(P:Pz):=(sq0 "tuple" 0)
def o60_5(P:Pz):=(Obj.mk (.type "dict") none (Data.dict #[(dn P "__module__" 246 (.str "spinboard.errors" 187)), (dn P "__firstlineno__" 250 (.int 8 249)), (dn P "__static_attributes__" 251 (.ref 59)), (dn P "__doc__" 252 .none)] 2) #[])
def o61_5(P:Pz):=(Obj.mk (.type "type") none (Data.cls (ClassData.mk "NoMove" [(.ref 24)] [(.ref 61), (.ref 24), (.type "ValueError"), (.type "Exception"), (.type "BaseException"), (.type "object")] 60 "NoMove" true [] [] false none false)) #[(some (.ref 52)), none, (some (.str "NoMove" 239)), (some (.str "NoMove" 247)), (some (.builtin "ValueError.__new__")), (some (.bool true))])
def o62_5(P:Pz):=(Obj.mk (.type "super") none (Data.fields #[(.ref 61), (.ref 61), (.ref 61)]) #[])
def o63_5(P:Pz):=(Obj.mk (.type "builtin_function_or_method") none (Data.fields #[(.builtin "object.__init_subclass__"), (.ref 61)]) #[])
def T4 (P : Params) : BT := ((((((((((((((((T3 P).ins 3 (o3_5 P)).ins 12 (o12_5 P)).ins 24 (o24_5 P)).ins 52 (o52_5 P)).ins 53 (o53_5 P)).ins 54 (o54_5 P)).ins 55 (o55_5 P)).ins 56 (o56_5 P)).ins 57 (o57_5 P)).ins 58 (o58_5 P)).ins 59 (o59_5 P)).ins 60 (o60_5 P)).ins 61 (o61_5 P)).ins 62 (o62_5 P)).ins 63 (o63_5 P))
theorem g3 (p : Program) (b : List Stmt) (w : World) (os : OsState) : segRunT treeTable p w 11 (some (.ref 6)) 1 214 (SharedT.mk (T3 w.params) 52 life (Array.mk []) (Drawn.mk 0 0 0 0) 239 os) (piecesOf l3 en (Code.body b en) (Pos.mk 6 0 7 8) BB) = some (Flow.next, (SharedT.mk (T4 w.params) 64 life (Array.mk []) (Drawn.mk 0 0 0 0) 255 os), Code.body b en, (Pos.mk 8 0 9 8)) := by rw [PySem.W.Fast.te10110043849684766642, PySem.W.Fast.te14364793385576792824]; kernel_rfl
def o3_6(P:Pz):=Obj.mk (.type "dict") none (Data.dict #[(dn P "__name__" 165 (.str "spinboard.errors" 187)), (dn P "__doc__" 166 .none), (dn P "__package__" 167 .none), (dn P "__loader__" 168 (.builtin "__main__.__loader__#opaque")), (dn P "__spec__" 169 .none), (dn P "__annotations__" 170 (.ref 6)), (dn P "__builtins__" 171 (.ref 4)), (dn P "__file__" 173 (.str "/claim/cut.py" 172)), (dn P "__cached__" 174 .none), (dn P "BoardError" 206 (.ref 24)), (dn P "NoMark" 222 (.ref 37)), (dn P "NoBoard" 238 (.ref 49)), (dn P "NoMove" 254 (.ref 61)), (dn P "NoCell" 270 (.ref 73))] 14) #[]
def o12_6(P:Pz):=(Obj.mk .none none (Data.fields #[(.int 2 0), (.int 0 0), (.ref 20), (.int 4 0), (.int 0 0), (.ref 33), (.int 6 0), (.int 0 0), (.ref 45), (.int 8 0), (.int 0 0), (.ref 57), (.int 10 0), (.int 0 0), (.ref 69)]) #[])
def o24_6(P:Pz):=(Obj.mk (.type "type") none (Data.cls (ClassData.mk "BoardError" [(.type "ValueError")] [(.ref 24), (.type "ValueError"), (.type "Exception"), (.type "BaseException"), (.type "object")] 23 "BoardError" true [] [(.ref 37), (.ref 49), (.ref 61), (.ref 73)] false none false)) #[(some (.ref 15)), none, (some (.str "BoardError" 189)), (some (.str "BoardError" 197)), (some (.builtin "ValueError.__new__")), (some (.bool true))])
def o64_6(P:Pz):=(Obj.mk (.type "tuple") none (Data.seq #[(.ref 24)] 0) #[])
def o65_6(P:Pz):=(Obj.mk (.type "builtin_function_or_method") none (Data.fields #[(.builtin "type.__prepare__"), (.type "type")]) #[])
def o66_6(P:Pz):=(Obj.mk (.type "dict") none (Data.dict #[(dn P "__module__" 262 (.str "spinboard.errors" 187)), (dn P "__qualname__" 264 (.str "NoCell" 263)), (dn P "__firstlineno__" 266 (.int 10 265)), (dn P "__static_attributes__" 267 (.ref 71))] 4) #[])
def o67_6(P:Pz):=(sq0 "tuple" 0)
def o68_6(P:Pz):=(nf0)
def o69_6(P:Pz):=(cob "NoCell" 257 "NoCell" 258 259 10 0 0 0 0 67 false 181 68 .none .none .none 260 10 261)
def o70_6(P:Pz):=(Obj.mk (.type "frame") none Data.plain #[(some (.ref 69)), (some (.ref 3)), (some (.ref 66)), none, (some (.str "spinboard.errors" 187)), none, (some (.ref 0))])
def o71_6(P:Pz):=(sq0 "tuple" 0)
def o72_6(P:Pz):=(Obj.mk (.type "dict") none (Data.dict #[(dn P "__module__" 262 (.str "spinboard.errors" 187)), (dn P "__firstlineno__" 266 (.int 10 265)), (dn P "__static_attributes__" 267 (.ref 71)), (dn P "__doc__" 268 .none)] 2) #[])
def o73_6(P:Pz):=(Obj.mk (.type "type") none (Data.cls (ClassData.mk "NoCell" [(.ref 24)] [(.ref 73), (.ref 24), (.type "ValueError"), (.type "Exception"), (.type "BaseException"), (.type "object")] 72 "NoCell" true [] [] false none false)) #[(some (.ref 64)), none, (some (.str "NoCell" 255)), (some (.str "NoCell" 263)), (some (.builtin "ValueError.__new__")), (some (.bool true))])
def o74_6(P:Pz):=(Obj.mk (.type "super") none (Data.fields #[(.ref 73), (.ref 73), (.ref 73)]) #[])
def o75_6(P:Pz):=(Obj.mk (.type "builtin_function_or_method") none (Data.fields #[(.builtin "object.__init_subclass__"), (.ref 73)]) #[])
def T5 (P : Params) : BT := ((((((((((((((((T4 P).ins 3 (o3_6 P)).ins 12 (o12_6 P)).ins 24 (o24_6 P)).ins 64 (o64_6 P)).ins 65 (o65_6 P)).ins 66 (o66_6 P)).ins 67 (o67_6 P)).ins 68 (o68_6 P)).ins 69 (o69_6 P)).ins 70 (o70_6 P)).ins 71 (o71_6 P)).ins 72 (o72_6 P)).ins 73 (o73_6 P)).ins 74 (o74_6 P)).ins 75 (o75_6 P))
theorem g4 (p : Program) (b : List Stmt) (w : World) (os : OsState) : segRunT treeTable p w 11 (some (.ref 6)) 1 214 (SharedT.mk (T4 w.params) 64 life (Array.mk []) (Drawn.mk 0 0 0 0) 255 os) (piecesOf l4 en (Code.body b en) (Pos.mk 8 0 9 8) BB) = some (Flow.next, (SharedT.mk (T5 w.params) 76 life (Array.mk []) (Drawn.mk 0 0 0 0) 271 os), Code.body b en, (Pos.mk 10 0 11 8)) := by rw [PySem.W.Fast.te10110043849684766642, PySem.W.Fast.te14364793385576792824]; kernel_rfl
def o3_7(P:Pz):=Obj.mk (.type "dict") none (Data.dict #[(dn P "__name__" 165 (.str "spinboard.errors" 187)), (dn P "__doc__" 166 .none), (dn P "__package__" 167 .none), (dn P "__loader__" 168 (.builtin "__main__.__loader__#opaque")), (dn P "__spec__" 169 .none), (dn P "__annotations__" 170 (.ref 6)), (dn P "__builtins__" 171 (.ref 4)), (dn P "__file__" 173 (.str "/claim/cut.py" 172)), (dn P "__cached__" 174 .none), (dn P "BoardError" 206 (.ref 24)), (dn P "NoMark" 222 (.ref 37)), (dn P "NoBoard" 238 (.ref 49)), (dn P "NoMove" 254 (.ref 61)), (dn P "NoCell" 270 (.ref 73)), (dn P "NoText" 295 (.ref 92))] 15) #[]
def o12_7(P:Pz):=(Obj.mk .none none (Data.fields #[(.int 2 0), (.int 0 0), (.ref 20), (.int 4 0), (.int 0 0), (.ref 33), (.int 6 0), (.int 0 0), (.ref 45), (.int 8 0), (.int 0 0), (.ref 57), (.int 10 0), (.int 0 0), (.ref 69), (.int 12 0), (.int 0 0), (.ref 81)]) #[])
def o24_7(P:Pz):=(Obj.mk (.type "type") none (Data.cls (ClassData.mk "BoardError" [(.type "ValueError")] [(.ref 24), (.type "ValueError"), (.type "Exception"), (.type "BaseException"), (.type "object")] 23 "BoardError" true [] [(.ref 37), (.ref 49), (.ref 61), (.ref 73), (.ref 92)] false none false)) #[(some (.ref 15)), none, (some (.str "BoardError" 189)), (some (.str "BoardError" 197)), (some (.builtin "ValueError.__new__")), (some (.bool true))])
def o76_7(P:Pz):=(Obj.mk (.type "tuple") none (Data.seq #[(.ref 24)] 0) #[])
def o77_7(P:Pz):=(Obj.mk (.type "builtin_function_or_method") none (Data.fields #[(.builtin "type.__prepare__"), (.type "type")]) #[])
def o78_7(P:Pz):=(Obj.mk (.type "dict") none (Data.dict #[(dn P "__module__" 278 (.str "spinboard.errors" 187)), (dn P "__qualname__" 280 (.str "NoText" 279)), (dn P "__firstlineno__" 282 (.int 12 281)), (dn P "__init__" 290 (.ref 89)), (dn P "__static_attributes__" 292 (.ref 90))] 5) #[])
def o79_7(P:Pz):=(sq0 "tuple" 0)
def o80_7(P:Pz):=(Obj.mk .none none (Data.fields #[(.int 14 0), (.int 4 0), (.ref 88)]) #[])
def o81_7(P:Pz):=(cob "NoText" 273 "NoText" 274 275 12 0 0 0 0 79 false 181 80 .none .none .none 276 12 277)
def o82_7(P:Pz):=(Obj.mk (.type "frame") none Data.plain #[(some (.ref 81)), (some (.ref 3)), (some (.ref 78)), none, (some (.str "spinboard.errors" 187)), none, (some (.ref 0))])
def o83_7(P:Pz):=(sq0 "tuple" 0)
def o84_7(P:Pz):=(nf0)
def o85_7(P:Pz):=(Obj.mk (.type "tuple") none (Data.seq #[(.str "self" 286), (.str "place" 287)] 0) #[])
def o86_7(P:Pz):=(sq0 "tuple" 0)
def o87_7(P:Pz):=(Obj.mk .none none (Data.func (FuncData.mk "__init__" "NoText.__init__" (defArgs (inClass (top 6) 0)) (FuncBody.stmts (defBody (inClass (top 6) 0))) (defScope (inClass (top 7) 0)) 0 [] .none .none .none .none none .none .none 0)) #[])
def o88_7(P:Pz):=(cob "__init__" 283 "NoText.__init__" 284 285 14 2 0 0 3 83 true 181 84 (.ref 85) (.ref 86) (.ref 87) 288 14 289)
def o89_7(P:Pz):=(Obj.mk (.type "function") none (Data.func (FuncData.mk "__init__" "NoText.__init__" (defArgs (inClass (top 6) 0)) (FuncBody.stmts (defBody (inClass (top 6) 0))) (defScope (inClass (top 7) 0)) 3 [] .none .none .none (.str "spinboard.errors" 187) none (.ref 88) .none 0)) #[])
def o90_7(P:Pz):=(Obj.mk (.type "tuple") none (Data.seq #[(.str "place" 291)] 0) #[])
def o91_7(P:Pz):=(Obj.mk (.type "dict") none (Data.dict #[(dn P "__module__" 278 (.str "spinboard.errors" 187)), (dn P "__firstlineno__" 282 (.int 12 281)), (dn P "__init__" 290 (.ref 89)), (dn P "__static_attributes__" 292 (.ref 90)), (dn P "__doc__" 293 .none)] 2) #[])
def o92_7(P:Pz):=(Obj.mk (.type "type") none (Data.cls (ClassData.mk "NoText" [(.ref 24)] [(.ref 92), (.ref 24), (.type "ValueError"), (.type "Exception"), (.type "BaseException"), (.type "object")] 91 "NoText" true [] [] false none false)) #[(some (.ref 76)), none, (some (.str "NoText" 271)), (some (.str "NoText" 279)), (some (.builtin "ValueError.__new__")), (some (.bool true))])
def o93_7(P:Pz):=(Obj.mk (.type "super") none (Data.fields #[(.ref 92), (.ref 92), (.ref 92)]) #[])
def o94_7(P:Pz):=(Obj.mk (.type "builtin_function_or_method") none (Data.fields #[(.builtin "object.__init_subclass__"), (.ref 92)]) #[])
def T6 (P : Params) : BT := (((((((((((((((((((((((T5 P).ins 3 (o3_7 P)).ins 12 (o12_7 P)).ins 24 (o24_7 P)).ins 76 (o76_7 P)).ins 77 (o77_7 P)).ins 78 (o78_7 P)).ins 79 (o79_7 P)).ins 80 (o80_7 P)).ins 81 (o81_7 P)).ins 82 (o82_7 P)).ins 83 (o83_7 P)).ins 84 (o84_7 P)).ins 85 (o85_7 P)).ins 86 (o86_7 P)).ins 87 (o87_7 P)).ins 88 (o88_7 P)).ins 89 (o89_7 P)).ins 90 (o90_7 P)).ins 91 (o91_7 P)).ins 92 (o92_7 P)).ins 93 (o93_7 P)).ins 94 (o94_7 P))
theorem g5 (p : Program) (b : List Stmt) (w : World) (os : OsState) : segRunT treeTable p w 11 (some (.ref 6)) 1 246 (SharedT.mk (T5 w.params) 76 life (Array.mk []) (Drawn.mk 0 0 0 0) 271 os) (piecesOf l5 en (Code.body b en) (Pos.mk 10 0 11 8) BB) = some (Flow.next, (SharedT.mk (T6 w.params) 95 life (Array.mk []) (Drawn.mk 0 0 0 0) 296 os), Code.body b en, (Pos.mk 12 0 15 26)) := by rw [PySem.W.Fast.te10110043849684766642, PySem.W.Fast.te14364793385576792824]; kernel_rfl
def o3_8(P:Pz):=Obj.mk (.type "dict") none (Data.dict #[(dn P "__name__" 165 (.str "spinboard.marks" 330)), (dn P "__doc__" 166 .none), (dn P "__package__" 167 .none), (dn P "__loader__" 168 (.builtin "__main__.__loader__#opaque")), (dn P "__spec__" 169 .none), (dn P "__annotations__" 170 (.ref 6)), (dn P "__builtins__" 171 (.ref 4)), (dn P "__file__" 173 (.str "/claim/cut.py" 172)), (dn P "__cached__" 174 .none), (dn P "BoardError" 206 (.ref 24)), (dn P "NoMark" 222 (.ref 37)), (dn P "NoBoard" 238 (.ref 49)), (dn P "NoMove" 254 (.ref 61)), (dn P "NoCell" 270 (.ref 73)), (dn P "NoText" 295 (.ref 92)), (dn P "NotBorne" 320 (.ref 111)), (dn P "is_whole" 329 (.ref 120)), (dn P "CELL_SIGNS" 333 (.str ".fsb" 332)), (dn P "ones" 342 (.ref 127)), (dn P "show_mark" 348 (.ref 132)), (dn P "cell_sign" 358 (.ref 139))] 21) #[]
def o12_8(P:Pz):=(Obj.mk .none none (Data.fields #[(.int 2 0), (.int 0 0), (.ref 20), (.int 4 0), (.int 0 0), (.ref 33), (.int 6 0), (.int 0 0), (.ref 45), (.int 8 0), (.int 0 0), (.ref 57), (.int 10 0), (.int 0 0), (.ref 69), (.int 12 0), (.int 0 0), (.ref 81), (.int 16 0), (.int 0 0), (.ref 100), (.int 21 0), (.int 0 0), (.ref 119), (.int 25 0), (.int 0 0), (.ref 126), (.int 32 0), (.int 0 0), (.ref 131), (.int 35 0), (.int 0 0), (.ref 138)]) #[])
def o24_8(P:Pz):=(Obj.mk (.type "type") none (Data.cls (ClassData.mk "BoardError" [(.type "ValueError")] [(.ref 24), (.type "ValueError"), (.type "Exception"), (.type "BaseException"), (.type "object")] 23 "BoardError" true [] [(.ref 37), (.ref 49), (.ref 61), (.ref 73), (.ref 92), (.ref 111)] false none false)) #[(some (.ref 15)), none, (some (.str "BoardError" 189)), (some (.str "BoardError" 197)), (some (.builtin "ValueError.__new__")), (some (.bool true))])
def o95_8(P:Pz):=(Obj.mk (.type "tuple") none (Data.seq #[(.ref 24)] 0) #[])
def o96_8(P:Pz):=(Obj.mk (.type "builtin_function_or_method") none (Data.fields #[(.builtin "type.__prepare__"), (.type "type")]) #[])
def o97_8(P:Pz):=(Obj.mk (.type "dict") none (Data.dict #[(dn P "__module__" 303 (.str "spinboard.errors" 187)), (dn P "__qualname__" 305 (.str "NotBorne" 304)), (dn P "__firstlineno__" 307 (.int 16 306)), (dn P "__init__" 315 (.ref 108)), (dn P "__static_attributes__" 317 (.ref 109))] 5) #[])
def o98_8(P:Pz):=(sq0 "tuple" 0)
def o99_8(P:Pz):=(Obj.mk .none none (Data.fields #[(.int 18 0), (.int 4 0), (.ref 107)]) #[])
def o100_8(P:Pz):=(cob "NotBorne" 298 "NotBorne" 299 300 16 0 0 0 0 98 false 181 99 .none .none .none 301 16 302)
def o101_8(P:Pz):=(Obj.mk (.type "frame") none Data.plain #[(some (.ref 100)), (some (.ref 3)), (some (.ref 97)), none, (some (.str "spinboard.errors" 187)), none, (some (.ref 0))])
def o102_8(P:Pz):=(sq0 "tuple" 0)
def o103_8(P:Pz):=(nf0)
def o104_8(P:Pz):=(Obj.mk (.type "tuple") none (Data.seq #[(.str "self" 311), (.str "place" 312)] 0) #[])
def o105_8(P:Pz):=(sq0 "tuple" 0)
def o106_8(P:Pz):=(fo1 "__init__" "NotBorne.__init__" (inClass (top 7) 0) 0 0)
def o107_8(P:Pz):=(cob "__init__" 308 "NotBorne.__init__" 309 310 18 2 0 0 3 102 true 181 103 (.ref 104) (.ref 105) (.ref 106) 313 18 314)
def o108_8(P:Pz):=(fo2 "__init__" "NotBorne.__init__" (inClass (top 7) 0) 3 "spinboard.errors" 187 107 0)
def o109_8(P:Pz):=(Obj.mk (.type "tuple") none (Data.seq #[(.str "place" 316)] 0) #[])
def o110_8(P:Pz):=(Obj.mk (.type "dict") none (Data.dict #[(dn P "__module__" 303 (.str "spinboard.errors" 187)), (dn P "__firstlineno__" 307 (.int 16 306)), (dn P "__init__" 315 (.ref 108)), (dn P "__static_attributes__" 317 (.ref 109)), (dn P "__doc__" 318 .none)] 2) #[])
def o111_8(P:Pz):=(Obj.mk (.type "type") none (Data.cls (ClassData.mk "NotBorne" [(.ref 24)] [(.ref 111), (.ref 24), (.type "ValueError"), (.type "Exception"), (.type "BaseException"), (.type "object")] 110 "NotBorne" true [] [] false none false)) #[(some (.ref 95)), none, (some (.str "NotBorne" 296)), (some (.str "NotBorne" 304)), (some (.builtin "ValueError.__new__")), (some (.bool true))])
def o112_8(P:Pz):=(Obj.mk (.type "super") none (Data.fields #[(.ref 111), (.ref 111), (.ref 111)]) #[])
def o113_8(P:Pz):=(Obj.mk (.type "builtin_function_or_method") none (Data.fields #[(.builtin "object.__init_subclass__"), (.ref 111)]) #[])
def o114_8(P:Pz):=(sq0 "tuple" 0)
def o115_8(P:Pz):=(nf0)
def o116_8(P:Pz):=(Obj.mk (.type "tuple") none (Data.seq #[(.str "thing" 326)] 0) #[])
def o117_8(P:Pz):=(sq0 "tuple" 0)
def o118_8(P:Pz):=(fo1 "is_whole" "is_whole" (top 9) 0 0)
def o119_8(P:Pz):=(cob "is_whole" 323 "is_whole" 324 325 21 1 0 0 3 114 true 181 115 (.ref 116) (.ref 117) (.ref 118) 327 21 328)
def o120_8(P:Pz):=(fo2 "is_whole" "is_whole" (top 9) 3 "spinboard.shares" 321 119 0)
def o121_8(P:Pz):=(sq0 "tuple" 0)
def o122_8(P:Pz):=(nf0)
def o123_8(P:Pz):=(Obj.mk (.type "tuple") none (Data.seq #[(.str "number" 337), (.str "many" 338), (.str "rest" 339)] 0) #[])
def o124_8(P:Pz):=(sq0 "tuple" 0)
def o125_8(P:Pz):=(fo1 "ones" "ones" (top 12) 0 0)
def o126_8(P:Pz):=(cob "ones" 334 "ones" 335 336 25 1 0 0 3 121 true 181 122 (.ref 123) (.ref 124) (.ref 125) 340 25 341)
def o127_8(P:Pz):=(fo2 "ones" "ones" (top 12) 3 "spinboard.marks" 330 126 0)
def o128_8(P:Pz):=(sq0 "tuple" 0)
def o129_8(P:Pz):=(nf0)
def o130_8(P:Pz):=(fo1 "show_mark" "show_mark" (top 13) 0 0)
def o131_8(P:Pz):=(cob "show_mark" 343 "show_mark" 344 345 32 2 0 0 3 128 true 181 129 .none .none (.ref 130) 346 32 347)
def o132_8(P:Pz):=(fo2 "show_mark" "show_mark" (top 13) 3 "spinboard.marks" 330 131 0)
def o133_8(P:Pz):=(sq0 "tuple" 0)
def o134_8(P:Pz):=(nf0)
def o135_8(P:Pz):=(Obj.mk (.type "tuple") none (Data.seq #[(.str "mark" 352), (.str "cell" 353), (.str "flip" 354), (.str "sign" 355)] 0) #[])
def o136_8(P:Pz):=(sq0 "tuple" 0)
def o137_8(P:Pz):=(fo1 "cell_sign" "cell_sign" (top 14) 0 0)
def o138_8(P:Pz):=(cob "cell_sign" 349 "cell_sign" 350 351 35 2 0 0 3 133 true 181 134 (.ref 135) (.ref 136) (.ref 137) 356 35 357)
def o139_8(P:Pz):=(fo2 "cell_sign" "cell_sign" (top 14) 3 "spinboard.marks" 330 138 0)
def T7 (P : Params) : BT := (((((((((((((((((((((((((((((((((((((((((((((((((T6 P).ins 3 (o3_8 P)).ins 12 (o12_8 P)).ins 24 (o24_8 P)).ins 95 (o95_8 P)).ins 96 (o96_8 P)).ins 97 (o97_8 P)).ins 98 (o98_8 P)).ins 99 (o99_8 P)).ins 100 (o100_8 P)).ins 101 (o101_8 P)).ins 102 (o102_8 P)).ins 103 (o103_8 P)).ins 104 (o104_8 P)).ins 105 (o105_8 P)).ins 106 (o106_8 P)).ins 107 (o107_8 P)).ins 108 (o108_8 P)).ins 109 (o109_8 P)).ins 110 (o110_8 P)).ins 111 (o111_8 P)).ins 112 (o112_8 P)).ins 113 (o113_8 P)).ins 114 (o114_8 P)).ins 115 (o115_8 P)).ins 116 (o116_8 P)).ins 117 (o117_8 P)).ins 118 (o118_8 P)).ins 119 (o119_8 P)).ins 120 (o120_8 P)).ins 121 (o121_8 P)).ins 122 (o122_8 P)).ins 123 (o123_8 P)).ins 124 (o124_8 P)).ins 125 (o125_8 P)).ins 126 (o126_8 P)).ins 127 (o127_8 P)).ins 128 (o128_8 P)).ins 129 (o129_8 P)).ins 130 (o130_8 P)).ins 131 (o131_8 P)).ins 132 (o132_8 P)).ins 133 (o133_8 P)).ins 134 (o134_8 P)).ins 135 (o135_8 P)).ins 136 (o136_8 P)).ins 137 (o137_8 P)).ins 138 (o138_8 P)).ins 139 (o139_8 P))
theorem g6 (p : Program) (b : List Stmt) (w : World) (os : OsState) : segRunT treeTable p w 11 (some (.ref 6)) 1 391 (SharedT.mk (T6 w.params) 95 life (Array.mk []) (Drawn.mk 0 0 0 0) 296 os) (piecesOf l6 en (Code.body b en) (Pos.mk 12 0 15 26) BB) = some (Flow.next, (SharedT.mk (T7 w.params) 140 life (Array.mk []) (Drawn.mk 0 0 0 0) 359 os), Code.body b en, (Pos.mk 35 0 38 38)) := by rw [PySem.W.Fast.te10110043849684766642, PySem.W.Fast.te14364793385576792824]; kernel_rfl
def o3_9(P:Pz):=Obj.mk (.type "dict") none (Data.dict #[(dn P "__name__" 165 (.str "spinboard.rowtexts" 415)), (dn P "__doc__" 166 .none), (dn P "__package__" 167 .none), (dn P "__loader__" 168 (.builtin "__main__.__loader__#opaque")), (dn P "__spec__" 169 .none), (dn P "__annotations__" 170 (.ref 6)), (dn P "__builtins__" 171 (.ref 4)), (dn P "__file__" 173 (.str "/claim/cut.py" 172)), (dn P "__cached__" 174 .none), (dn P "BoardError" 206 (.ref 24)), (dn P "NoMark" 222 (.ref 37)), (dn P "NoBoard" 238 (.ref 49)), (dn P "NoMove" 254 (.ref 61)), (dn P "NoCell" 270 (.ref 73)), (dn P "NoText" 295 (.ref 92)), (dn P "NotBorne" 320 (.ref 111)), (dn P "is_whole" 329 (.ref 120)), (dn P "CELL_SIGNS" 333 (.str ".fsb" 332)), (dn P "ones" 342 (.ref 127)), (dn P "show_mark" 348 (.ref 132)), (dn P "cell_sign" 358 (.ref 139)), (dn P "read_mark" 371 (.ref 146)), (dn P "NUMBERS_BEHIND" 395 (.ref 147)), (dn P "check_move" 401 (.ref 152)), (dn P "has_move_form" 407 (.ref 157)), (dn P "named_cells" 414 (.ref 164)), (dn P "FIGURES" 418 (.str "0123456789" 417)), (dn P "show_move" 424 (.ref 169)), (dn P "parts_of" 431 (.ref 176)), (dn P "words_of" 437 (.ref 181)), (dn P "read_move" 443 (.ref 186)), (dn P "is_figure" 450 (.ref 193))] 32) #[]
def o12_9(P:Pz):=(Obj.mk .none none (Data.fields #[(.int 2 0), (.int 0 0), (.ref 20), (.int 4 0), (.int 0 0), (.ref 33), (.int 6 0), (.int 0 0), (.ref 45), (.int 8 0), (.int 0 0), (.ref 57), (.int 10 0), (.int 0 0), (.ref 69), (.int 12 0), (.int 0 0), (.ref 81), (.int 16 0), (.int 0 0), (.ref 100), (.int 21 0), (.int 0 0), (.ref 119), (.int 25 0), (.int 0 0), (.ref 126), (.int 32 0), (.int 0 0), (.ref 131), (.int 35 0), (.int 0 0), (.ref 138), (.int 39 0), (.int 0 0), (.ref 145), (.int 56 0), (.int 0 0), (.ref 151), (.int 65 0), (.int 0 0), (.ref 156), (.int 75 0), (.int 0 0), (.ref 163), (.int 79 0), (.int 0 0), (.ref 168), (.int 81 0), (.int 0 0), (.ref 175), (.int 83 0), (.int 0 0), (.ref 180), (.int 85 0), (.int 0 0), (.ref 185), (.int 94 0), (.int 0 0), (.ref 192)]) #[])
def o140_9(P:Pz):=(sq0 "tuple" 0)
def o141_9(P:Pz):=(nf0)
def o142_9(P:Pz):=(Obj.mk (.type "tuple") none (Data.seq #[(.str "text" 362), (.str "flips" 363), (.str "signs" 364), (.str "cell" 365), (.str "sign" 366), (.str "found" 367), (.str "about" 368)] 0) #[])
def o143_9(P:Pz):=(sq0 "tuple" 0)
def o144_9(P:Pz):=(fo1 "read_mark" "read_mark" (top 15) 0 0)
def o145_9(P:Pz):=(cob "read_mark" 359 "read_mark" 360 361 39 1 0 0 3 140 true 181 141 (.ref 142) (.ref 143) (.ref 144) 369 39 370)
def o146_9(P:Pz):=(fo2 "read_mark" "read_mark" (top 15) 3 "spinboard.marks" 330 145 0)
def o147_9(P:Pz):=(Obj.mk (.type "dict") none (Data.dict #[(dn P "flip" 374 (.int 1 375)), (dn P "mix" 376 (.int 1 377)), (dn P "turn" 378 (.int 2 379)), (dn P "if" 380 (.int 2 381)), (dn P "pair" 382 (.int 2 383)), (dn P "swap" 384 (.int 2 385)), (dn P "cross" 386 (.int 3 387))] 7) #[])
def o148_9(P:Pz):=(sq0 "tuple" 0)
def o149_9(P:Pz):=(nf0)
def o150_9(P:Pz):=(fo1 "check_move" "check_move" (top 18) 0 0)
def o151_9(P:Pz):=(cob "check_move" 396 "check_move" 397 398 56 2 0 0 3 148 true 181 149 .none .none (.ref 150) 399 56 400)
def o152_9(P:Pz):=(fo2 "check_move" "check_move" (top 18) 3 "spinboard.moves" 372 151 0)
def o153_9(P:Pz):=(sq0 "tuple" 0)
def o154_9(P:Pz):=(nf0)
def o155_9(P:Pz):=(fo1 "has_move_form" "has_move_form" (top 19) 0 0)
def o156_9(P:Pz):=(cob "has_move_form" 402 "has_move_form" 403 404 65 1 0 0 3 153 true 181 154 .none .none (.ref 155) 405 65 406)
def o157_9(P:Pz):=(fo2 "has_move_form" "has_move_form" (top 19) 3 "spinboard.moves" 372 156 0)
def o158_9(P:Pz):=(sq0 "tuple" 0)
def o159_9(P:Pz):=(nf0)
def o160_9(P:Pz):=(Obj.mk (.type "tuple") none (Data.seq #[(.str "move" 411)] 0) #[])
def o161_9(P:Pz):=(sq0 "tuple" 0)
def o162_9(P:Pz):=(fo1 "named_cells" "named_cells" (top 20) 0 0)
def o163_9(P:Pz):=(cob "named_cells" 408 "named_cells" 409 410 75 1 0 0 3 158 true 181 159 (.ref 160) (.ref 161) (.ref 162) 412 75 413)
def o164_9(P:Pz):=(fo2 "named_cells" "named_cells" (top 20) 3 "spinboard.moves" 372 163 0)
def o165_9(P:Pz):=(sq0 "tuple" 0)
def o166_9(P:Pz):=(nf0)
def o167_9(P:Pz):=(fo1 "show_move" "show_move" (top 23) 0 0)
def o168_9(P:Pz):=(cob "show_move" 419 "show_move" 420 421 79 1 0 0 3 165 true 181 166 .none .none (.ref 167) 422 79 423)
def o169_9(P:Pz):=(fo2 "show_move" "show_move" (top 23) 3 "spinboard.rowtexts" 415 168 0)
def o170_9(P:Pz):=(sq0 "tuple" 0)
def o171_9(P:Pz):=(nf0)
def o172_9(P:Pz):=(Obj.mk (.type "tuple") none (Data.seq #[(.str "text" 428)] 0) #[])
def o173_9(P:Pz):=(sq0 "tuple" 0)
def o174_9(P:Pz):=(fo1 "parts_of" "parts_of" (top 24) 0 0)
def o175_9(P:Pz):=(cob "parts_of" 425 "parts_of" 426 427 81 1 0 0 3 170 true 181 171 (.ref 172) (.ref 173) (.ref 174) 429 81 430)
def o176_9(P:Pz):=(fo2 "parts_of" "parts_of" (top 24) 3 "spinboard.rowtexts" 415 175 0)
def o177_9(P:Pz):=(sq0 "tuple" 0)
def o178_9(P:Pz):=(nf0)
def o179_9(P:Pz):=(fo1 "words_of" "words_of" (top 25) 0 0)
def o180_9(P:Pz):=(cob "words_of" 432 "words_of" 433 434 83 1 0 0 3 177 true 181 178 .none .none (.ref 179) 435 83 436)
def o181_9(P:Pz):=(fo2 "words_of" "words_of" (top 25) 3 "spinboard.rowtexts" 415 180 0)
def o182_9(P:Pz):=(sq0 "tuple" 0)
def o183_9(P:Pz):=(nf0)
def o184_9(P:Pz):=(fo1 "read_move" "read_move" (top 26) 0 0)
def o185_9(P:Pz):=(cob "read_move" 438 "read_move" 439 440 85 2 0 0 3 182 true 181 183 .none .none (.ref 184) 441 85 442)
def o186_9(P:Pz):=(fo2 "read_move" "read_move" (top 26) 3 "spinboard.rowtexts" 415 185 0)
def o187_9(P:Pz):=(sq0 "tuple" 0)
def o188_9(P:Pz):=(nf0)
def o189_9(P:Pz):=(Obj.mk (.type "tuple") none (Data.seq #[(.str "word" 447)] 0) #[])
def o190_9(P:Pz):=(sq0 "tuple" 0)
def o191_9(P:Pz):=(fo1 "is_figure" "is_figure" (top 27) 0 0)
def o192_9(P:Pz):=(cob "is_figure" 444 "is_figure" 445 446 94 1 0 0 3 187 true 181 188 (.ref 189) (.ref 190) (.ref 191) 448 94 449)
def o193_9(P:Pz):=(fo2 "is_figure" "is_figure" (top 27) 3 "spinboard.rowtexts" 415 192 0)
def T8 (P : Params) : BT := (((((((((((((((((((((((((((((((((((((((((((((((((((((((((T7 P).ins 3 (o3_9 P)).ins 12 (o12_9 P)).ins 140 (o140_9 P)).ins 141 (o141_9 P)).ins 142 (o142_9 P)).ins 143 (o143_9 P)).ins 144 (o144_9 P)).ins 145 (o145_9 P)).ins 146 (o146_9 P)).ins 147 (o147_9 P)).ins 148 (o148_9 P)).ins 149 (o149_9 P)).ins 150 (o150_9 P)).ins 151 (o151_9 P)).ins 152 (o152_9 P)).ins 153 (o153_9 P)).ins 154 (o154_9 P)).ins 155 (o155_9 P)).ins 156 (o156_9 P)).ins 157 (o157_9 P)).ins 158 (o158_9 P)).ins 159 (o159_9 P)).ins 160 (o160_9 P)).ins 161 (o161_9 P)).ins 162 (o162_9 P)).ins 163 (o163_9 P)).ins 164 (o164_9 P)).ins 165 (o165_9 P)).ins 166 (o166_9 P)).ins 167 (o167_9 P)).ins 168 (o168_9 P)).ins 169 (o169_9 P)).ins 170 (o170_9 P)).ins 171 (o171_9 P)).ins 172 (o172_9 P)).ins 173 (o173_9 P)).ins 174 (o174_9 P)).ins 175 (o175_9 P)).ins 176 (o176_9 P)).ins 177 (o177_9 P)).ins 178 (o178_9 P)).ins 179 (o179_9 P)).ins 180 (o180_9 P)).ins 181 (o181_9 P)).ins 182 (o182_9 P)).ins 183 (o183_9 P)).ins 184 (o184_9 P)).ins 185 (o185_9 P)).ins 186 (o186_9 P)).ins 187 (o187_9 P)).ins 188 (o188_9 P)).ins 189 (o189_9 P)).ins 190 (o190_9 P)).ins 191 (o191_9 P)).ins 192 (o192_9 P)).ins 193 (o193_9 P))
theorem g7 (p : Program) (b : List Stmt) (w : World) (os : OsState) : segRunT treeTable p w 11 (some (.ref 6)) 1 395 (SharedT.mk (T7 w.params) 140 life (Array.mk []) (Drawn.mk 0 0 0 0) 359 os) (piecesOf l7 en (Code.body b en) (Pos.mk 35 0 38 38) BB) = some (Flow.next, (SharedT.mk (T8 w.params) 194 life (Array.mk []) (Drawn.mk 0 0 0 0) 451 os), Code.body b en, (Pos.mk 94 0 95 45)) :=
  (byRow2 "special-get-raises" (P := fun w => (fun w : World => segRunT treeTable p w 11 (some (.ref 6)) 1 395 (SharedT.mk (T7 w.params) 140 life (Array.mk []) (Drawn.mk 0 0 0 0) 359 os) (piecesOf l7 en (Code.body b en) (Pos.mk 35 0 38 38) BB) = some (Flow.next, (SharedT.mk (T8 w.params) 194 life (Array.mk []) (Drawn.mk 0 0 0 0) 451 os), Code.body b en, (Pos.mk 94 0 95 45))) w) (fun w => by show (fun w : World => segRunT treeTable p w 11 (some (.ref 6)) 1 395 (SharedT.mk (T7 w.params) 140 life (Array.mk []) (Drawn.mk 0 0 0 0) 359 os) (piecesOf l7 en (Code.body b en) (Pos.mk 35 0 38 38) BB) = some (Flow.next, (SharedT.mk (T8 w.params) 194 life (Array.mk []) (Drawn.mk 0 0 0 0) 451 os), Code.body b en, (Pos.mk 94 0 95 45))) (World.withFollow w "special-get-raises" false); rw [PySem.W.Fast.te10110043849684766642, PySem.W.Fast.te14364793385576792824]; kernel_rfl) (fun w => by show (fun w : World => segRunT treeTable p w 11 (some (.ref 6)) 1 395 (SharedT.mk (T7 w.params) 140 life (Array.mk []) (Drawn.mk 0 0 0 0) 359 os) (piecesOf l7 en (Code.body b en) (Pos.mk 35 0 38 38) BB) = some (Flow.next, (SharedT.mk (T8 w.params) 194 life (Array.mk []) (Drawn.mk 0 0 0 0) 451 os), Code.body b en, (Pos.mk 94 0 95 45))) (World.withFollow w "special-get-raises" true); rw [PySem.W.Fast.te10110043849684766642, PySem.W.Fast.te14364793385576792824]; kernel_rfl)) w
def o3_10(P:Pz):=Obj.mk (.type "dict") none (Data.dict #[(dn P "__name__" 165 (.str "law_spinboard_k95_plays_written" 517)), (dn P "__doc__" 166 .none), (dn P "__package__" 167 .none), (dn P "__loader__" 168 (.builtin "__main__.__loader__#opaque")), (dn P "__spec__" 169 .none), (dn P "__annotations__" 170 (.ref 6)), (dn P "__builtins__" 171 (.ref 4)), (dn P "__file__" 173 (.str "/claim/cut.py" 172)), (dn P "__cached__" 174 .none), (dn P "BoardError" 206 (.ref 24)), (dn P "NoMark" 222 (.ref 37)), (dn P "NoBoard" 238 (.ref 49)), (dn P "NoMove" 254 (.ref 61)), (dn P "NoCell" 270 (.ref 73)), (dn P "NoText" 295 (.ref 92)), (dn P "NotBorne" 320 (.ref 111)), (dn P "is_whole" 329 (.ref 120)), (dn P "CELL_SIGNS" 333 (.str ".fsb" 332)), (dn P "ones" 342 (.ref 127)), (dn P "show_mark" 348 (.ref 132)), (dn P "cell_sign" 358 (.ref 139)), (dn P "read_mark" 371 (.ref 146)), (dn P "NUMBERS_BEHIND" 395 (.ref 147)), (dn P "check_move" 401 (.ref 152)), (dn P "has_move_form" 407 (.ref 157)), (dn P "named_cells" 414 (.ref 164)), (dn P "FIGURES" 418 (.str "0123456789" 417)), (dn P "show_move" 424 (.ref 169)), (dn P "parts_of" 431 (.ref 176)), (dn P "words_of" 437 (.ref 181)), (dn P "read_move" 443 (.ref 186)), (dn P "is_figure" 450 (.ref 193)), (dn P "FIGURES_OF_CELLS" 459 (.ref 194)), (dn P "MOST_LOOKS" 461 (.int 6 460)), (dn P "read_play" 471 (.ref 201)), (dn P "read_parts" 484 (.ref 208)), (dn P "read_part" 493 (.ref 215)), (dn P "read_look" 502 (.ref 222)), (dn P "show_play" 508 (.ref 227)), (dn P "show_part" 516 (.ref 234)), (dn P "_law_cell_at" 526 (.ref 241)), (dn P "_law_whole" 533 (.ref 248)), (dn P "_law_mark" 547 (.ref 255)), (dn P "_law_mark_text" 560 (.ref 262)), (dn P "_law_part" 574 (.ref 269))] 45) #[]
def o12_10(P:Pz):=(Obj.mk .none none (Data.fields #[(.int 2 0), (.int 0 0), (.ref 20), (.int 4 0), (.int 0 0), (.ref 33), (.int 6 0), (.int 0 0), (.ref 45), (.int 8 0), (.int 0 0), (.ref 57), (.int 10 0), (.int 0 0), (.ref 69), (.int 12 0), (.int 0 0), (.ref 81), (.int 16 0), (.int 0 0), (.ref 100), (.int 21 0), (.int 0 0), (.ref 119), (.int 25 0), (.int 0 0), (.ref 126), (.int 32 0), (.int 0 0), (.ref 131), (.int 35 0), (.int 0 0), (.ref 138), (.int 39 0), (.int 0 0), (.ref 145), (.int 56 0), (.int 0 0), (.ref 151), (.int 65 0), (.int 0 0), (.ref 156), (.int 75 0), (.int 0 0), (.ref 163), (.int 79 0), (.int 0 0), (.ref 168), (.int 81 0), (.int 0 0), (.ref 175), (.int 83 0), (.int 0 0), (.ref 180), (.int 85 0), (.int 0 0), (.ref 185), (.int 94 0), (.int 0 0), (.ref 192), (.int 99 0), (.int 0 0), (.ref 200), (.int 108 0), (.int 0 0), (.ref 207), (.int 121 0), (.int 0 0), (.ref 214), (.int 126 0), (.int 0 0), (.ref 221), (.int 132 0), (.int 0 0), (.ref 226), (.int 134 0), (.int 0 0), (.ref 233), (.int 137 0), (.int 0 0), (.ref 240), (.int 141 0), (.int 0 0), (.ref 247), (.int 143 0), (.int 0 0), (.ref 254), (.int 155 0), (.int 0 0), (.ref 261), (.int 164 0), (.int 0 0), (.ref 268)]) #[])
def o194_10(P:Pz):=(Obj.mk (.type "tuple") none (Data.seq #[(.str "1" 453), (.str "2" 454), (.str "3" 455), (.str "4" 456), (.str "5" 457), (.str "6" 458)] 0) #[])
def o195_10(P:Pz):=(sq0 "tuple" 0)
def o196_10(P:Pz):=(nf0)
def o197_10(P:Pz):=(Obj.mk (.type "tuple") none (Data.seq #[(.str "text" 465), (.str "sides" 466), (.str "figures" 467), (.str "cells" 468)] 0) #[])
def o198_10(P:Pz):=(sq0 "tuple" 0)
def o199_10(P:Pz):=(fo1 "read_play" "read_play" (top 31) 0 0)
def o200_10(P:Pz):=(cob "read_play" 462 "read_play" 463 464 99 1 0 0 3 195 true 181 196 (.ref 197) (.ref 198) (.ref 199) 469 99 470)
def o201_10(P:Pz):=(fo2 "read_play" "read_play" (top 31) 3 "spinboard.plays" 451 200 0)
def o202_10(P:Pz):=(sq0 "tuple" 0)
def o203_10(P:Pz):=(nf0)
def o204_10(P:Pz):=(Obj.mk (.type "tuple") none (Data.seq #[(.str "text" 475), (.str "cells" 476), (.str "parts" 477), (.str "looks" 478), (.str "place" 479), (.str "written" 480), (.str "part" 481)] 0) #[])
def o205_10(P:Pz):=(sq0 "tuple" 0)
def o206_10(P:Pz):=(fo1 "read_parts" "read_parts" (top 32) 0 0)
def o207_10(P:Pz):=(cob "read_parts" 472 "read_parts" 473 474 108 2 0 0 3 202 true 181 203 (.ref 204) (.ref 205) (.ref 206) 482 108 483)
def o208_10(P:Pz):=(fo2 "read_parts" "read_parts" (top 32) 3 "spinboard.plays" 451 207 0)
def o209_10(P:Pz):=(sq0 "tuple" 0)
def o210_10(P:Pz):=(nf0)
def o211_10(P:Pz):=(Obj.mk (.type "tuple") none (Data.seq #[(.str "written" 488), (.str "cells" 489), (.str "words" 490)] 0) #[])
def o212_10(P:Pz):=(sq0 "tuple" 0)
def o213_10(P:Pz):=(fo1 "read_part" "read_part" (top 33) 0 0)
def o214_10(P:Pz):=(cob "read_part" 485 "read_part" 486 487 121 2 0 0 3 209 true 181 210 (.ref 211) (.ref 212) (.ref 213) 491 121 492)
def o215_10(P:Pz):=(fo2 "read_part" "read_part" (top 33) 3 "spinboard.plays" 451 214 0)
def o216_10(P:Pz):=(sq0 "tuple" 0)
def o217_10(P:Pz):=(nf0)
def o218_10(P:Pz):=(Obj.mk (.type "tuple") none (Data.seq #[(.str "text" 497), (.str "cells" 498), (.str "told" 499)] 0) #[])
def o219_10(P:Pz):=(sq0 "tuple" 0)
def o220_10(P:Pz):=(fo1 "read_look" "read_look" (top 34) 0 0)
def o221_10(P:Pz):=(cob "read_look" 494 "read_look" 495 496 126 2 0 0 3 216 true 181 217 (.ref 218) (.ref 219) (.ref 220) 500 126 501)
def o222_10(P:Pz):=(fo2 "read_look" "read_look" (top 34) 3 "spinboard.plays" 451 221 0)
def o223_10(P:Pz):=(sq0 "tuple" 0)
def o224_10(P:Pz):=(nf0)
def o225_10(P:Pz):=(fo1 "show_play" "show_play" (top 35) 0 0)
def o226_10(P:Pz):=(cob "show_play" 503 "show_play" 504 505 132 2 0 0 3 223 true 181 224 .none .none (.ref 225) 506 132 507)
def o227_10(P:Pz):=(fo2 "show_play" "show_play" (top 35) 3 "spinboard.plays" 451 226 0)
def o228_10(P:Pz):=(sq0 "tuple" 0)
def o229_10(P:Pz):=(nf0)
def o230_10(P:Pz):=(Obj.mk (.type "tuple") none (Data.seq #[(.str "part" 512), (.str "cells" 513)] 0) #[])
def o231_10(P:Pz):=(sq0 "tuple" 0)
def o232_10(P:Pz):=(fo1 "show_part" "show_part" (top 36) 0 0)
def o233_10(P:Pz):=(cob "show_part" 509 "show_part" 510 511 134 2 0 0 3 228 true 181 229 (.ref 230) (.ref 231) (.ref 232) 514 134 515)
def o234_10(P:Pz):=(fo2 "show_part" "show_part" (top 36) 3 "spinboard.plays" 451 233 0)
def o235_10(P:Pz):=(sq0 "tuple" 0)
def o236_10(P:Pz):=(nf0)
def o237_10(P:Pz):=(Obj.mk (.type "tuple") none (Data.seq #[(.str "_law_script" 522), (.str "_law_k" 523)] 0) #[])
def o238_10(P:Pz):=(sq0 "tuple" 0)
def o239_10(P:Pz):=(fo1 "_law_cell_at" "_law_cell_at" (top 38) 0 0)
def o240_10(P:Pz):=(cob "_law_cell_at" 519 "_law_cell_at" 520 521 137 2 0 0 3 235 true 181 236 (.ref 237) (.ref 238) (.ref 239) 524 137 525)
def o241_10(P:Pz):=(fo2 "_law_cell_at" "_law_cell_at" (top 38) 3 "law_spinboard_k95_plays_written" 517 240 0)
def o242_10(P:Pz):=(sq0 "tuple" 0)
def o243_10(P:Pz):=(nf0)
def o244_10(P:Pz):=(Obj.mk (.type "tuple") none (Data.seq #[(.str "_law_found" 530)] 0) #[])
def o245_10(P:Pz):=(sq0 "tuple" 0)
def o246_10(P:Pz):=(fo1 "_law_whole" "_law_whole" (top 39) 0 0)
def o247_10(P:Pz):=(cob "_law_whole" 527 "_law_whole" 528 529 141 1 0 0 3 242 true 181 243 (.ref 244) (.ref 245) (.ref 246) 531 141 532)
def o248_10(P:Pz):=(fo2 "_law_whole" "_law_whole" (top 39) 3 "law_spinboard_k95_plays_written" 517 247 0)
def o249_10(P:Pz):=(sq0 "tuple" 0)
def o250_10(P:Pz):=(nf0)
def o251_10(P:Pz):=(Obj.mk (.type "tuple") none (Data.seq #[(.str "_law_cell" 537), (.str "_law_cells" 538), (.str "_law_q" 539), (.str "_law_f" 540), (.str "_law_s" 541), (.str "_law_left" 542), (.str "_law_k" 543), (.str "_law_letter" 544)] 0) #[])
def o252_10(P:Pz):=(sq0 "tuple" 0)
def o253_10(P:Pz):=(fo1 "_law_mark" "_law_mark" (top 40) 0 0)
def o254_10(P:Pz):=(cob "_law_mark" 534 "_law_mark" 535 536 143 2 0 0 3 249 true 181 250 (.ref 251) (.ref 252) (.ref 253) 545 143 546)
def o255_10(P:Pz):=(fo2 "_law_mark" "_law_mark" (top 40) 3 "law_spinboard_k95_plays_written" 517 254 0)
def o256_10(P:Pz):=(sq0 "tuple" 0)
def o257_10(P:Pz):=(nf0)
def o258_10(P:Pz):=(Obj.mk (.type "tuple") none (Data.seq #[(.str "_law_mark_here" 551), (.str "_law_cells" 552), (.str "_law_found" 553), (.str "_law_q" 554), (.str "_law_k" 555), (.str "_law_many" 556), (.str "_law_letter" 557)] 0) #[])
def o259_10(P:Pz):=(sq0 "tuple" 0)
def o260_10(P:Pz):=(fo1 "_law_mark_text" "_law_mark_text" (top 41) 0 0)
def o261_10(P:Pz):=(cob "_law_mark_text" 548 "_law_mark_text" 549 550 155 2 0 0 3 256 true 181 257 (.ref 258) (.ref 259) (.ref 260) 558 155 559)
def o262_10(P:Pz):=(fo2 "_law_mark_text" "_law_mark_text" (top 41) 3 "law_spinboard_k95_plays_written" 517 261 0)
def o263_10(P:Pz):=(sq0 "tuple" 0)
def o264_10(P:Pz):=(nf0)
def o265_10(P:Pz):=(Obj.mk (.type "tuple") none (Data.seq #[(.str "_law_cell" 564), (.str "_law_cells" 565), (.str "_law_looks" 566), (.str "_law_one" 567), (.str "_law_two" 568), (.str "_law_three" 569), (.str "_law_kind" 570), (.str "_law_left" 571)] 0) #[])
def o266_10(P:Pz):=(sq0 "tuple" 0)
def o267_10(P:Pz):=(fo1 "_law_part" "_law_part" (top 42) 0 0)
def o268_10(P:Pz):=(cob "_law_part" 561 "_law_part" 562 563 164 3 0 0 3 263 true 181 264 (.ref 265) (.ref 266) (.ref 267) 572 164 573)
def o269_10(P:Pz):=(fo2 "_law_part" "_law_part" (top 42) 3 "law_spinboard_k95_plays_written" 517 268 0)
def T9 (P : Params) : BT := (((((((((((((((((((((((((((((((((((((((((((((((((((((((((((((((((((((((((((((((T8 P).ins 3 (o3_10 P)).ins 12 (o12_10 P)).ins 194 (o194_10 P)).ins 195 (o195_10 P)).ins 196 (o196_10 P)).ins 197 (o197_10 P)).ins 198 (o198_10 P)).ins 199 (o199_10 P)).ins 200 (o200_10 P)).ins 201 (o201_10 P)).ins 202 (o202_10 P)).ins 203 (o203_10 P)).ins 204 (o204_10 P)).ins 205 (o205_10 P)).ins 206 (o206_10 P)).ins 207 (o207_10 P)).ins 208 (o208_10 P)).ins 209 (o209_10 P)).ins 210 (o210_10 P)).ins 211 (o211_10 P)).ins 212 (o212_10 P)).ins 213 (o213_10 P)).ins 214 (o214_10 P)).ins 215 (o215_10 P)).ins 216 (o216_10 P)).ins 217 (o217_10 P)).ins 218 (o218_10 P)).ins 219 (o219_10 P)).ins 220 (o220_10 P)).ins 221 (o221_10 P)).ins 222 (o222_10 P)).ins 223 (o223_10 P)).ins 224 (o224_10 P)).ins 225 (o225_10 P)).ins 226 (o226_10 P)).ins 227 (o227_10 P)).ins 228 (o228_10 P)).ins 229 (o229_10 P)).ins 230 (o230_10 P)).ins 231 (o231_10 P)).ins 232 (o232_10 P)).ins 233 (o233_10 P)).ins 234 (o234_10 P)).ins 235 (o235_10 P)).ins 236 (o236_10 P)).ins 237 (o237_10 P)).ins 238 (o238_10 P)).ins 239 (o239_10 P)).ins 240 (o240_10 P)).ins 241 (o241_10 P)).ins 242 (o242_10 P)).ins 243 (o243_10 P)).ins 244 (o244_10 P)).ins 245 (o245_10 P)).ins 246 (o246_10 P)).ins 247 (o247_10 P)).ins 248 (o248_10 P)).ins 249 (o249_10 P)).ins 250 (o250_10 P)).ins 251 (o251_10 P)).ins 252 (o252_10 P)).ins 253 (o253_10 P)).ins 254 (o254_10 P)).ins 255 (o255_10 P)).ins 256 (o256_10 P)).ins 257 (o257_10 P)).ins 258 (o258_10 P)).ins 259 (o259_10 P)).ins 260 (o260_10 P)).ins 261 (o261_10 P)).ins 262 (o262_10 P)).ins 263 (o263_10 P)).ins 264 (o264_10 P)).ins 265 (o265_10 P)).ins 266 (o266_10 P)).ins 267 (o267_10 P)).ins 268 (o268_10 P)).ins 269 (o269_10 P))
theorem g8 (p : Program) (b : List Stmt) (w : World) (os : OsState) : segRunT treeTable p w 11 (some (.ref 6)) 1 395 (SharedT.mk (T8 w.params) 194 life (Array.mk []) (Drawn.mk 0 0 0 0) 451 os) (piecesOf l8 en (Code.body b en) (Pos.mk 94 0 95 45) BB) = some (Flow.next, (SharedT.mk (T9 w.params) 270 life (Array.mk []) (Drawn.mk 0 0 0 0) 575 os), Code.body b en, (Pos.mk 164 0 178 53)) := by rw [PySem.W.Fast.te10110043849684766642, PySem.W.Fast.te14364793385576792824]; kernel_rfl
def o3_11(P:Pz):=Obj.mk (.type "dict") none (Data.dict #[(dn P "__name__" 165 (.str "law_spinboard_k95_plays_written" 517)), (dn P "__doc__" 166 .none), (dn P "__package__" 167 .none), (dn P "__loader__" 168 (.builtin "__main__.__loader__#opaque")), (dn P "__spec__" 169 .none), (dn P "__annotations__" 170 (.ref 6)), (dn P "__builtins__" 171 (.ref 4)), (dn P "__file__" 173 (.str "/claim/cut.py" 172)), (dn P "__cached__" 174 .none), (dn P "BoardError" 206 (.ref 24)), (dn P "NoMark" 222 (.ref 37)), (dn P "NoBoard" 238 (.ref 49)), (dn P "NoMove" 254 (.ref 61)), (dn P "NoCell" 270 (.ref 73)), (dn P "NoText" 295 (.ref 92)), (dn P "NotBorne" 320 (.ref 111)), (dn P "is_whole" 329 (.ref 120)), (dn P "CELL_SIGNS" 333 (.str ".fsb" 332)), (dn P "ones" 342 (.ref 127)), (dn P "show_mark" 348 (.ref 132)), (dn P "cell_sign" 358 (.ref 139)), (dn P "read_mark" 371 (.ref 146)), (dn P "NUMBERS_BEHIND" 395 (.ref 147)), (dn P "check_move" 401 (.ref 152)), (dn P "has_move_form" 407 (.ref 157)), (dn P "named_cells" 414 (.ref 164)), (dn P "FIGURES" 418 (.str "0123456789" 417)), (dn P "show_move" 424 (.ref 169)), (dn P "parts_of" 431 (.ref 176)), (dn P "words_of" 437 (.ref 181)), (dn P "read_move" 443 (.ref 186)), (dn P "is_figure" 450 (.ref 193)), (dn P "FIGURES_OF_CELLS" 459 (.ref 194)), (dn P "MOST_LOOKS" 461 (.int 6 460)), (dn P "read_play" 471 (.ref 201)), (dn P "read_parts" 484 (.ref 208)), (dn P "read_part" 493 (.ref 215)), (dn P "read_look" 502 (.ref 222)), (dn P "show_play" 508 (.ref 227)), (dn P "show_part" 516 (.ref 234)), (dn P "_law_cell_at" 526 (.ref 241)), (dn P "_law_whole" 533 (.ref 248)), (dn P "_law_mark" 547 (.ref 255)), (dn P "_law_mark_text" 560 (.ref 262)), (dn P "_law_part" 574 (.ref 269)), (dn P "_law_parts" 586 (.ref 276)), (dn P "_law_words" 592 (.ref 281)), (dn P "_law_blanks" 599 (.ref 288)), (dn P "_law_line" 612 (.ref 295)), (dn P "_law_spoiled" 629 (.ref 302)), (dn P "_law_read_mark" 642 (.ref 309)), (dn P "_law_read_part" 648 (.ref 314)), (dn P "_law_due" 663 (.ref 321)), (dn P "_law_is_play" 669 (.ref 326)), (dn P "_law_reads" 680 (.ref 333)), (dn P "law" 686 (.ref 338))] 56) #[]
def o12_11(P:Pz):=(Obj.mk .none none (Data.fields #[(.int 2 0), (.int 0 0), (.ref 20), (.int 4 0), (.int 0 0), (.ref 33), (.int 6 0), (.int 0 0), (.ref 45), (.int 8 0), (.int 0 0), (.ref 57), (.int 10 0), (.int 0 0), (.ref 69), (.int 12 0), (.int 0 0), (.ref 81), (.int 16 0), (.int 0 0), (.ref 100), (.int 21 0), (.int 0 0), (.ref 119), (.int 25 0), (.int 0 0), (.ref 126), (.int 32 0), (.int 0 0), (.ref 131), (.int 35 0), (.int 0 0), (.ref 138), (.int 39 0), (.int 0 0), (.ref 145), (.int 56 0), (.int 0 0), (.ref 151), (.int 65 0), (.int 0 0), (.ref 156), (.int 75 0), (.int 0 0), (.ref 163), (.int 79 0), (.int 0 0), (.ref 168), (.int 81 0), (.int 0 0), (.ref 175), (.int 83 0), (.int 0 0), (.ref 180), (.int 85 0), (.int 0 0), (.ref 185), (.int 94 0), (.int 0 0), (.ref 192), (.int 99 0), (.int 0 0), (.ref 200), (.int 108 0), (.int 0 0), (.ref 207), (.int 121 0), (.int 0 0), (.ref 214), (.int 126 0), (.int 0 0), (.ref 221), (.int 132 0), (.int 0 0), (.ref 226), (.int 134 0), (.int 0 0), (.ref 233), (.int 137 0), (.int 0 0), (.ref 240), (.int 141 0), (.int 0 0), (.ref 247), (.int 143 0), (.int 0 0), (.ref 254), (.int 155 0), (.int 0 0), (.ref 261), (.int 164 0), (.int 0 0), (.ref 268), (.int 179 0), (.int 0 0), (.ref 275), (.int 186 0), (.int 0 0), (.ref 280), (.int 190 0), (.int 0 0), (.ref 287), (.int 192 0), (.int 0 0), (.ref 294), (.int 202 0), (.int 0 0), (.ref 301), (.int 223 0), (.int 0 0), (.ref 308), (.int 237 0), (.int 0 0), (.ref 313), (.int 257 0), (.int 0 0), (.ref 320), (.int 278 0), (.int 0 0), (.ref 325), (.int 290 0), (.int 0 0), (.ref 332), (.int 301 0), (.int 0 0), (.ref 337)]) #[])
def o270_11(P:Pz):=(sq0 "tuple" 0)
def o271_11(P:Pz):=(nf0)
def o272_11(P:Pz):=(Obj.mk (.type "tuple") none (Data.seq #[(.str "_law_script" 578), (.str "_law_cells" 579), (.str "_law_any_looks" 580), (.str "_law_found" 581), (.str "_law_looks" 582), (.str "_law_cell" 583)] 0) #[])
def o273_11(P:Pz):=(sq0 "tuple" 0)
def o274_11(P:Pz):=(fo1 "_law_parts" "_law_parts" (top 43) 0 0)
def o275_11(P:Pz):=(cob "_law_parts" 575 "_law_parts" 576 577 179 3 0 0 3 270 true 181 271 (.ref 272) (.ref 273) (.ref 274) 584 179 585)
def o276_11(P:Pz):=(fo2 "_law_parts" "_law_parts" (top 43) 3 "law_spinboard_k95_plays_written" 517 275 0)
def o277_11(P:Pz):=(sq0 "tuple" 0)
def o278_11(P:Pz):=(nf0)
def o279_11(P:Pz):=(fo1 "_law_words" "_law_words" (top 44) 0 0)
def o280_11(P:Pz):=(cob "_law_words" 587 "_law_words" 588 589 186 2 0 0 3 277 true 181 278 .none .none (.ref 279) 590 186 591)
def o281_11(P:Pz):=(fo2 "_law_words" "_law_words" (top 44) 3 "law_spinboard_k95_plays_written" 517 280 0)
def o282_11(P:Pz):=(sq0 "tuple" 0)
def o283_11(P:Pz):=(nf0)
def o284_11(P:Pz):=(Obj.mk (.type "tuple") none (Data.seq #[(.str "_law_cell" 596)] 0) #[])
def o285_11(P:Pz):=(sq0 "tuple" 0)
def o286_11(P:Pz):=(fo1 "_law_blanks" "_law_blanks" (top 45) 0 0)
def o287_11(P:Pz):=(cob "_law_blanks" 593 "_law_blanks" 594 595 190 1 0 0 3 282 true 181 283 (.ref 284) (.ref 285) (.ref 286) 597 190 598)
def o288_11(P:Pz):=(fo2 "_law_blanks" "_law_blanks" (top 45) 3 "law_spinboard_k95_plays_written" 517 287 0)
def o289_11(P:Pz):=(sq0 "tuple" 0)
def o290_11(P:Pz):=(nf0)
def o291_11(P:Pz):=(Obj.mk (.type "tuple") none (Data.seq #[(.str "_law_cells" 603), (.str "_law_parts_here" 604), (.str "_law_cell" 605), (.str "_law_number" 606), (.str "_law_found" 607), (.str "_law_k" 608), (.str "_law_words_here" 609)] 0) #[])
def o292_11(P:Pz):=(sq0 "tuple" 0)
def o293_11(P:Pz):=(fo1 "_law_line" "_law_line" (top 46) 0 0)
def o294_11(P:Pz):=(cob "_law_line" 600 "_law_line" 601 602 192 3 0 0 3 289 true 181 290 (.ref 291) (.ref 292) (.ref 293) 610 192 611)
def o295_11(P:Pz):=(fo2 "_law_line" "_law_line" (top 46) 3 "law_spinboard_k95_plays_written" 517 294 0)
def o296_11(P:Pz):=(sq0 "tuple" 0)
def o297_11(P:Pz):=(nf0)
def o298_11(P:Pz):=(Obj.mk (.type "tuple") none (Data.seq #[(.str "_law_line_here" 616), (.str "_law_way" 617), (.str "_law_cell" 618), (.str "_law_sign" 619), (.str "_law_at" 620), (.str "_law_signs" 621), (.str "_law_odd" 622), (.str "_law_some" 623), (.str "_law_place" 624), (.str "_law_first" 625), (.str "_law_tail" 626)] 0) #[])
def o299_11(P:Pz):=(sq0 "tuple" 0)
def o300_11(P:Pz):=(fo1 "_law_spoiled" "_law_spoiled" (top 47) 0 0)
def o301_11(P:Pz):=(cob "_law_spoiled" 613 "_law_spoiled" 614 615 202 4 0 0 3 296 true 181 297 (.ref 298) (.ref 299) (.ref 300) 627 202 628)
def o302_11(P:Pz):=(fo2 "_law_spoiled" "_law_spoiled" (top 47) 3 "law_spinboard_k95_plays_written" 517 301 0)
def o303_11(P:Pz):=(sq0 "tuple" 0)
def o304_11(P:Pz):=(nf0)
def o305_11(P:Pz):=(Obj.mk (.type "tuple") none (Data.seq #[(.str "_law_text" 633), (.str "_law_cells" 634), (.str "_law_q" 635), (.str "_law_f" 636), (.str "_law_s" 637), (.str "_law_k" 638), (.str "_law_letter" 639)] 0) #[])
def o306_11(P:Pz):=(sq0 "tuple" 0)
def o307_11(P:Pz):=(fo1 "_law_read_mark" "_law_read_mark" (top 48) 0 0)
def o308_11(P:Pz):=(cob "_law_read_mark" 630 "_law_read_mark" 631 632 223 2 0 0 3 303 true 181 304 (.ref 305) (.ref 306) (.ref 307) 640 223 641)
def o309_11(P:Pz):=(fo2 "_law_read_mark" "_law_read_mark" (top 48) 3 "law_spinboard_k95_plays_written" 517 308 0)
def o310_11(P:Pz):=(sq0 "tuple" 0)
def o311_11(P:Pz):=(nf0)
def o312_11(P:Pz):=(fo1 "_law_read_part" "_law_read_part" (top 49) 0 0)
def o313_11(P:Pz):=(cob "_law_read_part" 643 "_law_read_part" 644 645 237 2 0 0 3 310 true 181 311 .none .none (.ref 312) 646 237 647)
def o314_11(P:Pz):=(fo2 "_law_read_part" "_law_read_part" (top 49) 3 "law_spinboard_k95_plays_written" 517 313 0)
def o315_11(P:Pz):=(sq0 "tuple" 0)
def o316_11(P:Pz):=(nf0)
def o317_11(P:Pz):=(Obj.mk (.type "tuple") none (Data.seq #[(.str "_law_line_here" 652), (.str "_law_head" 653), (.str "_law_colon" 654), (.str "_law_tail" 655), (.str "_law_found" 656), (.str "_law_looks" 657), (.str "_law_parts_here" 658), (.str "_law_k" 659), (.str "_law_part_here" 660)] 0) #[])
def o318_11(P:Pz):=(sq0 "tuple" 0)
def o319_11(P:Pz):=(fo1 "_law_due" "_law_due" (top 50) 0 0)
def o320_11(P:Pz):=(cob "_law_due" 649 "_law_due" 650 651 257 1 0 0 3 315 true 181 316 (.ref 317) (.ref 318) (.ref 319) 661 257 662)
def o321_11(P:Pz):=(fo2 "_law_due" "_law_due" (top 50) 3 "law_spinboard_k95_plays_written" 517 320 0)
def o322_11(P:Pz):=(sq0 "tuple" 0)
def o323_11(P:Pz):=(nf0)
def o324_11(P:Pz):=(fo1 "_law_is_play" "_law_is_play" (top 51) 0 0)
def o325_11(P:Pz):=(cob "_law_is_play" 664 "_law_is_play" 665 666 278 2 0 0 3 322 true 181 323 .none .none (.ref 324) 667 278 668)
def o326_11(P:Pz):=(fo2 "_law_is_play" "_law_is_play" (top 51) 3 "law_spinboard_k95_plays_written" 517 325 0)
def o327_11(P:Pz):=(sq0 "tuple" 0)
def o328_11(P:Pz):=(nf0)
def o329_11(P:Pz):=(Obj.mk (.type "tuple") none (Data.seq #[(.str "_law_line_here" 673), (.str "_law_due_here" 674), (.str "_law_place" 675), (.str "_law_found" 676), (.str "e" 677)] 0) #[])
def o330_11(P:Pz):=(sq0 "tuple" 0)
def o331_11(P:Pz):=(fo1 "_law_reads" "_law_reads" (top 52) 0 0)
def o332_11(P:Pz):=(cob "_law_reads" 670 "_law_reads" 671 672 290 3 0 0 3 327 true 181 328 (.ref 329) (.ref 330) (.ref 331) 678 290 679)
def o333_11(P:Pz):=(fo2 "_law_reads" "_law_reads" (top 52) 3 "law_spinboard_k95_plays_written" 517 332 0)
def o334_11(P:Pz):=(sq0 "tuple" 0)
def o335_11(P:Pz):=(nf0)
def o336_11(P:Pz):=(fo1 "law" "law" (top 53) 0 0)
def o337_11(P:Pz):=(cob "law" 681 "law" 682 683 301 1 0 0 3 334 true 181 335 .none .none (.ref 336) 684 301 685)
def o338_11(P:Pz):=(fo2 "law" "law" (top 53) 3 "law_spinboard_k95_plays_written" 517 337 0)
def T10 (P : Params) : BT := ((((((((((((((((((((((((((((((((((((((((((((((((((((((((((((((((((((((((T9 P).ins 3 (o3_11 P)).ins 12 (o12_11 P)).ins 270 (o270_11 P)).ins 271 (o271_11 P)).ins 272 (o272_11 P)).ins 273 (o273_11 P)).ins 274 (o274_11 P)).ins 275 (o275_11 P)).ins 276 (o276_11 P)).ins 277 (o277_11 P)).ins 278 (o278_11 P)).ins 279 (o279_11 P)).ins 280 (o280_11 P)).ins 281 (o281_11 P)).ins 282 (o282_11 P)).ins 283 (o283_11 P)).ins 284 (o284_11 P)).ins 285 (o285_11 P)).ins 286 (o286_11 P)).ins 287 (o287_11 P)).ins 288 (o288_11 P)).ins 289 (o289_11 P)).ins 290 (o290_11 P)).ins 291 (o291_11 P)).ins 292 (o292_11 P)).ins 293 (o293_11 P)).ins 294 (o294_11 P)).ins 295 (o295_11 P)).ins 296 (o296_11 P)).ins 297 (o297_11 P)).ins 298 (o298_11 P)).ins 299 (o299_11 P)).ins 300 (o300_11 P)).ins 301 (o301_11 P)).ins 302 (o302_11 P)).ins 303 (o303_11 P)).ins 304 (o304_11 P)).ins 305 (o305_11 P)).ins 306 (o306_11 P)).ins 307 (o307_11 P)).ins 308 (o308_11 P)).ins 309 (o309_11 P)).ins 310 (o310_11 P)).ins 311 (o311_11 P)).ins 312 (o312_11 P)).ins 313 (o313_11 P)).ins 314 (o314_11 P)).ins 315 (o315_11 P)).ins 316 (o316_11 P)).ins 317 (o317_11 P)).ins 318 (o318_11 P)).ins 319 (o319_11 P)).ins 320 (o320_11 P)).ins 321 (o321_11 P)).ins 322 (o322_11 P)).ins 323 (o323_11 P)).ins 324 (o324_11 P)).ins 325 (o325_11 P)).ins 326 (o326_11 P)).ins 327 (o327_11 P)).ins 328 (o328_11 P)).ins 329 (o329_11 P)).ins 330 (o330_11 P)).ins 331 (o331_11 P)).ins 332 (o332_11 P)).ins 333 (o333_11 P)).ins 334 (o334_11 P)).ins 335 (o335_11 P)).ins 336 (o336_11 P)).ins 337 (o337_11 P)).ins 338 (o338_11 P))
theorem g9 (p : Program) (b : List Stmt) (w : World) (os : OsState) : segRunT treeTable p w 11 (some (.ref 6)) 1 347 (SharedT.mk (T9 w.params) 270 life (Array.mk []) (Drawn.mk 0 0 0 0) 575 os) (piecesOf l9 en (Code.body b en) (Pos.mk 164 0 178 53) BB) = some (Flow.next, (SharedT.mk (T10 w.params) 339 life (Array.mk []) (Drawn.mk 0 0 0 0) 687 os), Code.body b en, (Pos.mk 301 0 318 64)) := by rw [PySem.W.Fast.te10110043849684766642, PySem.W.Fast.te14364793385576792824]; kernel_rfl
def Hf (P : Params) : Heap := Heap.mk (Array.mk [(boot_o_0 P), (boot_o_1 P), (boot_o_2 P), (o3_11 P), (boot_o_4 P), (boot_o_5 P), (boot_o_6 P), (boot_o_7 P), (boot_o_8 P), (boot_o_9 P), (boot_o_10 P), (o11_0 P), (o12_11 P), (o13_0 P), (o14_0 P), (o15_2 P), (o16_2 P), (o17_2 P), (o18_2 P), (o19_2 P), (o20_2 P), (o21_2 P), (o22_2 P), (o23_2 P), (o24_8 P), (o25_2 P), (o26_2 P), (o27_2 P), (o28_3 P), (o29_3 P), (o30_3 P), (o31_3 P), (o32_3 P), (o33_3 P), (o34_3 P), (o35_3 P), (o36_3 P), (o37_3 P), (o38_3 P), (o39_3 P), (o40_4 P), (o41_4 P), (o42_4 P), (o43_4 P), (o44_4 P), (o45_4 P), (o46_4 P), (o47_4 P), (o48_4 P), (o49_4 P), (o50_4 P), (o51_4 P), (o52_5 P), (o53_5 P), (o54_5 P), (o55_5 P), (o56_5 P), (o57_5 P), (o58_5 P), (o59_5 P), (o60_5 P), (o61_5 P), (o62_5 P), (o63_5 P), (o64_6 P), (o65_6 P), (o66_6 P), (o67_6 P), (o68_6 P), (o69_6 P), (o70_6 P), (o71_6 P), (o72_6 P), (o73_6 P), (o74_6 P), (o75_6 P), (o76_7 P), (o77_7 P), (o78_7 P), (o79_7 P), (o80_7 P), (o81_7 P), (o82_7 P), (o83_7 P), (o84_7 P), (o85_7 P), (o86_7 P), (o87_7 P), (o88_7 P), (o89_7 P), (o90_7 P), (o91_7 P), (o92_7 P), (o93_7 P), (o94_7 P), (o95_8 P), (o96_8 P), (o97_8 P), (o98_8 P), (o99_8 P), (o100_8 P), (o101_8 P), (o102_8 P), (o103_8 P), (o104_8 P), (o105_8 P), (o106_8 P), (o107_8 P), (o108_8 P), (o109_8 P), (o110_8 P), (o111_8 P), (o112_8 P), (o113_8 P), (o114_8 P), (o115_8 P), (o116_8 P), (o117_8 P), (o118_8 P), (o119_8 P), (o120_8 P), (o121_8 P), (o122_8 P), (o123_8 P), (o124_8 P), (o125_8 P), (o126_8 P), (o127_8 P), (o128_8 P), (o129_8 P), (o130_8 P), (o131_8 P), (o132_8 P), (o133_8 P), (o134_8 P), (o135_8 P), (o136_8 P), (o137_8 P), (o138_8 P), (o139_8 P), (o140_9 P), (o141_9 P), (o142_9 P), (o143_9 P), (o144_9 P), (o145_9 P), (o146_9 P), (o147_9 P), (o148_9 P), (o149_9 P), (o150_9 P), (o151_9 P), (o152_9 P), (o153_9 P), (o154_9 P), (o155_9 P), (o156_9 P), (o157_9 P), (o158_9 P), (o159_9 P), (o160_9 P), (o161_9 P), (o162_9 P), (o163_9 P), (o164_9 P), (o165_9 P), (o166_9 P), (o167_9 P), (o168_9 P), (o169_9 P), (o170_9 P), (o171_9 P), (o172_9 P), (o173_9 P), (o174_9 P), (o175_9 P), (o176_9 P), (o177_9 P), (o178_9 P), (o179_9 P), (o180_9 P), (o181_9 P), (o182_9 P), (o183_9 P), (o184_9 P), (o185_9 P), (o186_9 P), (o187_9 P), (o188_9 P), (o189_9 P), (o190_9 P), (o191_9 P), (o192_9 P), (o193_9 P), (o194_10 P), (o195_10 P), (o196_10 P), (o197_10 P), (o198_10 P), (o199_10 P), (o200_10 P), (o201_10 P), (o202_10 P), (o203_10 P), (o204_10 P), (o205_10 P), (o206_10 P), (o207_10 P), (o208_10 P), (o209_10 P), (o210_10 P), (o211_10 P), (o212_10 P), (o213_10 P), (o214_10 P), (o215_10 P), (o216_10 P), (o217_10 P), (o218_10 P), (o219_10 P), (o220_10 P), (o221_10 P), (o222_10 P), (o223_10 P), (o224_10 P), (o225_10 P), (o226_10 P), (o227_10 P), (o228_10 P), (o229_10 P), (o230_10 P), (o231_10 P), (o232_10 P), (o233_10 P), (o234_10 P), (o235_10 P), (o236_10 P), (o237_10 P), (o238_10 P), (o239_10 P), (o240_10 P), (o241_10 P), (o242_10 P), (o243_10 P), (o244_10 P), (o245_10 P), (o246_10 P), (o247_10 P), (o248_10 P), (o249_10 P), (o250_10 P), (o251_10 P), (o252_10 P), (o253_10 P), (o254_10 P), (o255_10 P), (o256_10 P), (o257_10 P), (o258_10 P), (o259_10 P), (o260_10 P), (o261_10 P), (o262_10 P), (o263_10 P), (o264_10 P), (o265_10 P), (o266_10 P), (o267_10 P), (o268_10 P), (o269_10 P), (o270_11 P), (o271_11 P), (o272_11 P), (o273_11 P), (o274_11 P), (o275_11 P), (o276_11 P), (o277_11 P), (o278_11 P), (o279_11 P), (o280_11 P), (o281_11 P), (o282_11 P), (o283_11 P), (o284_11 P), (o285_11 P), (o286_11 P), (o287_11 P), (o288_11 P), (o289_11 P), (o290_11 P), (o291_11 P), (o292_11 P), (o293_11 P), (o294_11 P), (o295_11 P), (o296_11 P), (o297_11 P), (o298_11 P), (o299_11 P), (o300_11 P), (o301_11 P), (o302_11 P), (o303_11 P), (o304_11 P), (o305_11 P), (o306_11 P), (o307_11 P), (o308_11 P), (o309_11 P), (o310_11 P), (o311_11 P), (o312_11 P), (o313_11 P), (o314_11 P), (o315_11 P), (o316_11 P), (o317_11 P), (o318_11 P), (o319_11 P), (o320_11 P), (o321_11 P), (o322_11 P), (o323_11 P), (o324_11 P), (o325_11 P), (o326_11 P), (o327_11 P), (o328_11 P), (o329_11 P), (o330_11 P), (o331_11 P), (o332_11 P), (o333_11 P), (o334_11 P), (o335_11 P), (o336_11 P), (o337_11 P), (o338_11 P)]) life
theorem fin_ (w : World) (os : OsState) : topRun treeTable pr w 11 (some (.ref 6)) 2 ((SharedT.mk (T10 w.params) 339 life (Array.mk []) (Drawn.mk 0 0 0 0) 687 os).abs) (Thread.mk (doneF .next) cE (Pos.mk 301 0 318 64) BB) = some (Shared.mk (Hf w.params) (Array.mk []) (Drawn.mk 0 0 0 0) 687 os) := by rw [PySem.W.Fast.te14082659384304107361, PySem.W.Fast.te14364793385576792824]; kernel_rfl
abbrev MM : Nat := 12 + (1 + (196 + (214 + (214 + (214 + (214 + (246 + (391 + (395 + (395 + (347 + 2)))))))))))
theorem run_ (w : World) (os : OsState) : topRun treeTable pr w 11 (some (.ref 6)) MM (Shared.mk (boot_heap w.params) (Array.mk []) boot_drawn boot_toks os) (topStub pr) = some (Shared.mk (Hf w.params) (Array.mk []) (Drawn.mk 0 0 0 0) 687 os) := go_top (pre_ w os) (piece_block (block_ w os) (piece_app (segRun_of (g0 _ _ w os)) (piece_app (segRun_of (g1 _ _ w os)) (piece_app (segRun_of (g2 _ _ w os)) (piece_app (segRun_of (g3 _ _ w os)) (piece_app (segRun_of (g4 _ _ w os)) (piece_app (segRun_of (g5 _ _ w os)) (piece_app (segRun_of (g6 _ _ w os)) (piece_app (segRun_of (g7 _ _ w os)) (piece_app (segRun_of (g8 _ _ w os)) (piece_app (segRun_of (g9 _ _ w os)) (piece_nil (fin_ w os)))))))))))))
def qq : Program := { pr with main := { pr.main with body := [top 1, top 2, top 3, top 4, top 5, top 6, top 7, top 9, top 11, top 12, top 13, top 14, top 15, top 17, top 18, top 19, top 20, top 22, top 23, top 24, top 25, top 26, top 27, top 29, top 30, top 31, top 32, top 33, top 34, top 35, top 36, top 38, top 39, top 40, top 41, top 42, top 43, top 44, top 45, top 46, top 47, top 48, top 49, top 50, top 51, top 52, top 53] } }
def loose : List PySem.Str := [Str.ofString "NUMBERS_BEHIND"]
def lv : List (PySem.Str × WData) := []
abbrev NN : Nat := 5758
def KK (P : Params) : Frag := [(2, (boot_o_2 P)), (3, (o3_11 P)), (15, (o15_2 P)), (22, (o22_2 P)), (23, (o23_2 P)), (24, (o24_8 P)), (25, (o25_2 P)), (28, (o28_3 P)), (35, (o35_3 P)), (36, (o36_3 P)), (37, (o37_3 P)), (40, (o40_4 P)), (47, (o47_4 P)), (48, (o48_4 P)), (49, (o49_4 P)), (52, (o52_5 P)), (59, (o59_5 P)), (60, (o60_5 P)), (61, (o61_5 P)), (64, (o64_6 P)), (71, (o71_6 P)), (72, (o72_6 P)), (73, (o73_6 P)), (76, (o76_7 P)), (83, (o83_7 P)), (85, (o85_7 P)), (86, (o86_7 P)), (88, (o88_7 P)), (89, (o89_7 P)), (90, (o90_7 P)), (91, (o91_7 P)), (92, (o92_7 P)), (95, (o95_8 P)), (102, (o102_8 P)), (104, (o104_8 P)), (105, (o105_8 P)), (107, (o107_8 P)), (108, (o108_8 P)), (109, (o109_8 P)), (110, (o110_8 P)), (111, (o111_8 P)), (114, (o114_8 P)), (116, (o116_8 P)), (117, (o117_8 P)), (119, (o119_8 P)), (120, (o120_8 P)), (121, (o121_8 P)), (123, (o123_8 P)), (124, (o124_8 P)), (126, (o126_8 P)), (127, (o127_8 P)), (128, (o128_8 P)), (131, (o131_8 P)), (132, (o132_8 P)), (133, (o133_8 P)), (135, (o135_8 P)), (136, (o136_8 P)), (138, (o138_8 P)), (139, (o139_8 P)), (140, (o140_9 P)), (142, (o142_9 P)), (143, (o143_9 P)), (145, (o145_9 P)), (146, (o146_9 P)), (147, (o147_9 P)), (148, (o148_9 P)), (151, (o151_9 P)), (152, (o152_9 P)), (153, (o153_9 P)), (156, (o156_9 P)), (157, (o157_9 P)), (158, (o158_9 P)), (160, (o160_9 P)), (161, (o161_9 P)), (163, (o163_9 P)), (164, (o164_9 P)), (165, (o165_9 P)), (168, (o168_9 P)), (169, (o169_9 P)), (170, (o170_9 P)), (172, (o172_9 P)), (173, (o173_9 P)), (175, (o175_9 P)), (176, (o176_9 P)), (177, (o177_9 P)), (180, (o180_9 P)), (181, (o181_9 P)), (182, (o182_9 P)), (185, (o185_9 P)), (186, (o186_9 P)), (187, (o187_9 P)), (189, (o189_9 P)), (190, (o190_9 P)), (192, (o192_9 P)), (193, (o193_9 P)), (194, (o194_10 P)), (195, (o195_10 P)), (197, (o197_10 P)), (198, (o198_10 P)), (200, (o200_10 P)), (201, (o201_10 P)), (202, (o202_10 P)), (204, (o204_10 P)), (205, (o205_10 P)), (207, (o207_10 P)), (208, (o208_10 P)), (209, (o209_10 P)), (211, (o211_10 P)), (212, (o212_10 P)), (214, (o214_10 P)), (215, (o215_10 P)), (216, (o216_10 P)), (218, (o218_10 P)), (219, (o219_10 P)), (221, (o221_10 P)), (222, (o222_10 P)), (223, (o223_10 P)), (226, (o226_10 P)), (227, (o227_10 P)), (228, (o228_10 P)), (230, (o230_10 P)), (231, (o231_10 P)), (233, (o233_10 P)), (234, (o234_10 P)), (235, (o235_10 P)), (237, (o237_10 P)), (238, (o238_10 P)), (240, (o240_10 P)), (241, (o241_10 P)), (242, (o242_10 P)), (244, (o244_10 P)), (245, (o245_10 P)), (247, (o247_10 P)), (248, (o248_10 P)), (249, (o249_10 P)), (251, (o251_10 P)), (252, (o252_10 P)), (254, (o254_10 P)), (255, (o255_10 P)), (256, (o256_10 P)), (258, (o258_10 P)), (259, (o259_10 P)), (261, (o261_10 P)), (262, (o262_10 P)), (263, (o263_10 P)), (265, (o265_10 P)), (266, (o266_10 P)), (268, (o268_10 P)), (269, (o269_10 P)), (270, (o270_11 P)), (272, (o272_11 P)), (273, (o273_11 P)), (275, (o275_11 P)), (276, (o276_11 P)), (277, (o277_11 P)), (280, (o280_11 P)), (281, (o281_11 P)), (282, (o282_11 P)), (284, (o284_11 P)), (285, (o285_11 P)), (287, (o287_11 P)), (288, (o288_11 P)), (289, (o289_11 P)), (291, (o291_11 P)), (292, (o292_11 P)), (294, (o294_11 P)), (295, (o295_11 P)), (296, (o296_11 P)), (298, (o298_11 P)), (299, (o299_11 P)), (301, (o301_11 P)), (302, (o302_11 P)), (303, (o303_11 P)), (305, (o305_11 P)), (306, (o306_11 P)), (308, (o308_11 P)), (309, (o309_11 P)), (310, (o310_11 P)), (313, (o313_11 P)), (314, (o314_11 P)), (315, (o315_11 P)), (317, (o317_11 P)), (318, (o318_11 P)), (320, (o320_11 P)), (321, (o321_11 P)), (322, (o322_11 P)), (325, (o325_11 P)), (326, (o326_11 P)), (327, (o327_11 P)), (329, (o329_11 P)), (330, (o330_11 P)), (332, (o332_11 P)), (333, (o333_11 P)), (334, (o334_11 P)), (337, (o337_11 P)), (338, (o338_11 P))]
def aa : List Addr := [2, 3, 15, 22, 23, 24, 25, 28, 35, 36, 37, 40, 47, 48, 49, 52, 59, 60, 61, 64, 71, 72, 73, 76, 83, 85, 86, 88, 89, 90, 91, 92, 95, 102, 104, 105, 107, 108, 109, 110, 111, 114, 116, 117, 119, 120, 121, 123, 124, 126, 127, 128, 131, 132, 133, 135, 136, 138, 139, 140, 142, 143, 145, 146, 147, 148, 151, 152, 153, 156, 157, 158, 160, 161, 163, 164, 165, 168, 169, 170, 172, 173, 175, 176, 177, 180, 181, 182, 185, 186, 187, 189, 190, 192, 193, 194, 195, 197, 198, 200, 201, 202, 204, 205, 207, 208, 209, 211, 212, 214, 215, 216, 218, 219, 221, 222, 223, 226, 227, 228, 230, 231, 233, 234, 235, 237, 238, 240, 241, 242, 244, 245, 247, 248, 249, 251, 252, 254, 255, 256, 258, 259, 261, 262, 263, 265, 266, 268, 269, 270, 272, 273, 275, 276, 277, 280, 281, 282, 284, 285, 287, 288, 289, 291, 292, 294, 295, 296, 298, 299, 301, 302, 303, 305, 306, 308, 309, 310, 313, 314, 315, 317, 318, 320, 321, 322, 325, 326, 327, 329, 330, 332, 333, 334, 337, 338]
theorem open_ : ∀ w : World, (fencedOpening treeTable pr w NN).map (fun s => (s.heap, s.gens, s.drawn, s.toks)) = some (boot_heap w.params, Array.mk [], boot_drawn, boot_toks) :=
  boot_open (p := pr) (N := NN) (by kernel_rfl) (by kernel_rfl) (fun s => by kernel_rfl)
theorem size_ (w : World) : ((boot_heap w.params).isNs mainGlobals && (Array.mk [] : Array GenState).size == 0, (boot_heap w.params).objs.size, (boot_heap w.params).nsMap mainGlobals "__annotations__") = (true, 11, ((some (.ref 6)) : Option Value)) := by kernel_rfl
theorem le_ : Nat.ble MM NN = true := by kernel_rfl
abbrev rr : OpenRow := PySem.Challenge.rw_spinboard_k95_plays_written.row
abbrev HH : Hook := kHook KK aa (fun _ => by kernel_rfl)
abbrev Xt (s : Shared) : Bool := xlAt qq lv s && recOk (RowW.records rr.toRowW) s
abbrev sf (w : World) (os : OsState) : Shared := Shared.mk (Hf w.params) (Array.mk []) (Drawn.mk 0 0 0 0) 687 os
theorem lk1 (w : World) (os : OsState) : (staticsOk (importedModules pr.main.body) (boot_heap w.params) (Hf w.params) && namesBound pr (Hf w.params) && gensDone (sf w os) && laidKept (boot_heap w.params) (Hf w.params)) = true := by rw [PySem.W.Fast.te5923862056798008813]; kernel_rfl
theorem lk2 (w : World) (os : OsState) : openSeen qq loose (importedModules pr.main.body) Xt true (sf w os) = openGood qq loose := by rw [PySem.W.Fast.te4187177175401517315, PySem.W.Fast.te5923862056798008813]; kernel_rfl
theorem lk3 (w : World) (os : OsState) : HH.obs (sf w os) = HH.val w := by kernel_rfl
theorem left_ : LeftO pr qq loose Xt HH.obs HH.val NN :=
  LeftO.of_pieces (H₀ := boot_heap) (H₁ := Hf) open_ size_ run_ le_ fun w => funext fun os => looks_pair (lk1 w os) (looks_pair (lk2 w os) (lk3 w os))
theorem said_ : PySem.Challenge.rw_spinboard_k95_plays_written.wellSaid = true := by rw [PySem.W.Fast.te9446332074065402090]; kernel_rfl
theorem k338 (P : Params) : (KK P).lookup 338 = some (o338_11 P) := by kernel_rfl
theorem k120 (P : Params) : (KK P).lookup 120 = some (o120_8 P) := by kernel_rfl
theorem k127 (P : Params) : (KK P).lookup 127 = some (o127_8 P) := by kernel_rfl
theorem k132 (P : Params) : (KK P).lookup 132 = some (o132_8 P) := by kernel_rfl
theorem k139 (P : Params) : (KK P).lookup 139 = some (o139_8 P) := by kernel_rfl
theorem k146 (P : Params) : (KK P).lookup 146 = some (o146_9 P) := by kernel_rfl
theorem k152 (P : Params) : (KK P).lookup 152 = some (o152_9 P) := by kernel_rfl
theorem k157 (P : Params) : (KK P).lookup 157 = some (o157_9 P) := by kernel_rfl
theorem k164 (P : Params) : (KK P).lookup 164 = some (o164_9 P) := by kernel_rfl
theorem k169 (P : Params) : (KK P).lookup 169 = some (o169_9 P) := by kernel_rfl
theorem k176 (P : Params) : (KK P).lookup 176 = some (o176_9 P) := by kernel_rfl
theorem k181 (P : Params) : (KK P).lookup 181 = some (o181_9 P) := by kernel_rfl
theorem k186 (P : Params) : (KK P).lookup 186 = some (o186_9 P) := by kernel_rfl
theorem k193 (P : Params) : (KK P).lookup 193 = some (o193_9 P) := by kernel_rfl
theorem k201 (P : Params) : (KK P).lookup 201 = some (o201_10 P) := by kernel_rfl
theorem k208 (P : Params) : (KK P).lookup 208 = some (o208_10 P) := by kernel_rfl
theorem k215 (P : Params) : (KK P).lookup 215 = some (o215_10 P) := by kernel_rfl
theorem k222 (P : Params) : (KK P).lookup 222 = some (o222_10 P) := by kernel_rfl
theorem k227 (P : Params) : (KK P).lookup 227 = some (o227_10 P) := by kernel_rfl
theorem k234 (P : Params) : (KK P).lookup 234 = some (o234_10 P) := by kernel_rfl
theorem k241 (P : Params) : (KK P).lookup 241 = some (o241_10 P) := by kernel_rfl
theorem k248 (P : Params) : (KK P).lookup 248 = some (o248_10 P) := by kernel_rfl
theorem k255 (P : Params) : (KK P).lookup 255 = some (o255_10 P) := by kernel_rfl
theorem k262 (P : Params) : (KK P).lookup 262 = some (o262_10 P) := by kernel_rfl
theorem k269 (P : Params) : (KK P).lookup 269 = some (o269_10 P) := by kernel_rfl
theorem k276 (P : Params) : (KK P).lookup 276 = some (o276_11 P) := by kernel_rfl
theorem k281 (P : Params) : (KK P).lookup 281 = some (o281_11 P) := by kernel_rfl
theorem k288 (P : Params) : (KK P).lookup 288 = some (o288_11 P) := by kernel_rfl
theorem k295 (P : Params) : (KK P).lookup 295 = some (o295_11 P) := by kernel_rfl
theorem k302 (P : Params) : (KK P).lookup 302 = some (o302_11 P) := by kernel_rfl
theorem k309 (P : Params) : (KK P).lookup 309 = some (o309_11 P) := by kernel_rfl
theorem k314 (P : Params) : (KK P).lookup 314 = some (o314_11 P) := by kernel_rfl
theorem k321 (P : Params) : (KK P).lookup 321 = some (o321_11 P) := by kernel_rfl
theorem k326 (P : Params) : (KK P).lookup 326 = some (o326_11 P) := by kernel_rfl
theorem k333 (P : Params) : (KK P).lookup 333 = some (o333_11 P) := by kernel_rfl
theorem k92 (P : Params) : (KK P).lookup 92 = some (o92_7 P) := by kernel_rfl
theorem k89 (P : Params) : (KK P).lookup 89 = some (o89_7 P) := by kernel_rfl
theorem k147 (P : Params) : (KK P).lookup 147 = some (o147_9 P) := by kernel_rfl
theorem k61 (P : Params) : (KK P).lookup 61 = some (o61_5 P) := by kernel_rfl
theorem k73 (P : Params) : (KK P).lookup 73 = some (o73_6 P) := by kernel_rfl
theorem k37 (P : Params) : (KK P).lookup 37 = some (o37_3 P) := by kernel_rfl
theorem k194 (P : Params) : (KK P).lookup 194 = some (o194_10 P) := by kernel_rfl
theorem f9 (P : Params) : FunAt (KK P) "is_whole" (top 9) .none := fat (f := 120) (by kernel_rfl) (k120 P) (by kernel_rfl) (by kernel_rfl)
theorem f12 (P : Params) : FunAt (KK P) "ones" (top 12) .none := fat (f := 127) (by kernel_rfl) (k127 P) (by kernel_rfl) (by kernel_rfl)
theorem f13 (P : Params) : FunAt (KK P) "show_mark" (top 13) .none := fat (f := 132) (by kernel_rfl) (k132 P) (by kernel_rfl) (by kernel_rfl)
theorem f14 (P : Params) : FunAt (KK P) "cell_sign" (top 14) .none := fat (f := 139) (by kernel_rfl) (k139 P) (by kernel_rfl) (by kernel_rfl)
theorem f15 (P : Params) : FunAt (KK P) "read_mark" (top 15) .none := fat (f := 146) (by kernel_rfl) (k146 P) (by kernel_rfl) (by kernel_rfl)
theorem f18 (P : Params) : FunAt (KK P) "check_move" (top 18) .none := fat (f := 152) (by kernel_rfl) (k152 P) (by kernel_rfl) (by kernel_rfl)
theorem f19 (P : Params) : FunAt (KK P) "has_move_form" (top 19) .none := fat (f := 157) (by kernel_rfl) (k157 P) (by kernel_rfl) (by kernel_rfl)
theorem f20 (P : Params) : FunAt (KK P) "named_cells" (top 20) .none := fat (f := 164) (by kernel_rfl) (k164 P) (by kernel_rfl) (by kernel_rfl)
theorem f23 (P : Params) : FunAt (KK P) "show_move" (top 23) .none := fat (f := 169) (by kernel_rfl) (k169 P) (by kernel_rfl) (by kernel_rfl)
theorem f24 (P : Params) : FunAt (KK P) "parts_of" (top 24) .none := fat (f := 176) (by kernel_rfl) (k176 P) (by kernel_rfl) (by kernel_rfl)
theorem f25 (P : Params) : FunAt (KK P) "words_of" (top 25) .none := fat (f := 181) (by kernel_rfl) (k181 P) (by kernel_rfl) (by kernel_rfl)
theorem f26 (P : Params) : FunAt (KK P) "read_move" (top 26) .none := fat (f := 186) (by kernel_rfl) (k186 P) (by kernel_rfl) (by kernel_rfl)
theorem f27 (P : Params) : FunAt (KK P) "is_figure" (top 27) .none := fat (f := 193) (by kernel_rfl) (k193 P) (by kernel_rfl) (by kernel_rfl)
theorem f31 (P : Params) : FunAt (KK P) "read_play" (top 31) .none := fat (f := 201) (by kernel_rfl) (k201 P) (by kernel_rfl) (by kernel_rfl)
theorem f32 (P : Params) : FunAt (KK P) "read_parts" (top 32) .none := fat (f := 208) (by kernel_rfl) (k208 P) (by kernel_rfl) (by kernel_rfl)
theorem f33 (P : Params) : FunAt (KK P) "read_part" (top 33) .none := fat (f := 215) (by kernel_rfl) (k215 P) (by kernel_rfl) (by kernel_rfl)
theorem f34 (P : Params) : FunAt (KK P) "read_look" (top 34) .none := fat (f := 222) (by kernel_rfl) (k222 P) (by kernel_rfl) (by kernel_rfl)
theorem f35 (P : Params) : FunAt (KK P) "show_play" (top 35) .none := fat (f := 227) (by kernel_rfl) (k227 P) (by kernel_rfl) (by kernel_rfl)
theorem f36 (P : Params) : FunAt (KK P) "show_part" (top 36) .none := fat (f := 234) (by kernel_rfl) (k234 P) (by kernel_rfl) (by kernel_rfl)
theorem f38 (P : Params) : FunAt (KK P) "_law_cell_at" (top 38) .none := fat (f := 241) (by kernel_rfl) (k241 P) (by kernel_rfl) (by kernel_rfl)
theorem f39 (P : Params) : FunAt (KK P) "_law_whole" (top 39) .none := fat (f := 248) (by kernel_rfl) (k248 P) (by kernel_rfl) (by kernel_rfl)
theorem f40 (P : Params) : FunAt (KK P) "_law_mark" (top 40) .none := fat (f := 255) (by kernel_rfl) (k255 P) (by kernel_rfl) (by kernel_rfl)
theorem f41 (P : Params) : FunAt (KK P) "_law_mark_text" (top 41) .none := fat (f := 262) (by kernel_rfl) (k262 P) (by kernel_rfl) (by kernel_rfl)
theorem f42 (P : Params) : FunAt (KK P) "_law_part" (top 42) .none := fat (f := 269) (by kernel_rfl) (k269 P) (by kernel_rfl) (by kernel_rfl)
theorem f43 (P : Params) : FunAt (KK P) "_law_parts" (top 43) .none := fat (f := 276) (by kernel_rfl) (k276 P) (by kernel_rfl) (by kernel_rfl)
theorem f44 (P : Params) : FunAt (KK P) "_law_words" (top 44) .none := fat (f := 281) (by kernel_rfl) (k281 P) (by kernel_rfl) (by kernel_rfl)
theorem f45 (P : Params) : FunAt (KK P) "_law_blanks" (top 45) .none := fat (f := 288) (by kernel_rfl) (k288 P) (by kernel_rfl) (by kernel_rfl)
theorem f46 (P : Params) : FunAt (KK P) "_law_line" (top 46) .none := fat (f := 295) (by kernel_rfl) (k295 P) (by kernel_rfl) (by kernel_rfl)
theorem f47 (P : Params) : FunAt (KK P) "_law_spoiled" (top 47) .none := fat (f := 302) (by kernel_rfl) (k302 P) (by kernel_rfl) (by kernel_rfl)
theorem f48 (P : Params) : FunAt (KK P) "_law_read_mark" (top 48) .none := fat (f := 309) (by kernel_rfl) (k309 P) (by kernel_rfl) (by kernel_rfl)
theorem f49 (P : Params) : FunAt (KK P) "_law_read_part" (top 49) .none := fat (f := 314) (by kernel_rfl) (k314 P) (by kernel_rfl) (by kernel_rfl)
theorem f50 (P : Params) : FunAt (KK P) "_law_due" (top 50) .none := fat (f := 321) (by kernel_rfl) (k321 P) (by kernel_rfl) (by kernel_rfl)
theorem f51 (P : Params) : FunAt (KK P) "_law_is_play" (top 51) .none := fat (f := 326) (by kernel_rfl) (k326 P) (by kernel_rfl) (by kernel_rfl)
theorem f52 (P : Params) : FunAt (KK P) "_law_reads" (top 52) .none := fat (f := 333) (by kernel_rfl) (k333 P) (by kernel_rfl) (by kernel_rfl)
end Hd
end K95
open PySem PySem.W PyProof.Rows
set_option maxRecDepth 100000 in
set_option maxHeartbeats 0 in
theorem PySem.Challenge.cw_spinboard_k95_plays_written_holds : PySem.Challenge.rw_spinboard_k95_plays_written.Holds := by
  refine holds_law K95.Hd.said_ fun said => ?_
  refine holds_open (q := K95.Hd.qq) (loose := K95.Hd.loose) (Xt := K95.Hd.Xt) (XP := XL K95.Hd.qq K95.Hd.lv) (Yf := K95.Hd.HH.obs) (Ya := K95.Hd.HH.val) (YP := K95.Hd.HH.says) (d := ⟨"law", L2.defArgs (K95.top 53), L2.defBody (K95.top 53), L2.defScope (K95.top 53), K95.Hd.dPos (K95.top 53)⟩) (kwd := []) (N := K95.Hd.NN) K95.Hd.left_ K95.Hd.HH.of K95.Hd.HH.keeps (fun s e => xl_of s (Bool.and_eq_true_iff.mp e).1) XL.keeps (by kernel_rfl) (by kernel_rfl) (by kernel_rfl) (fun s e => recFacts_of (Bool.and_eq_true_iff.mp e).2) (by kernel_rfl) said (by kernel_rfl) ⟨rfl, rfl, rfl, rfl, rfl, by decide +kernel⟩ ?hw ?hc
  case hw => w_witness2
  refine K95.walk (l := PySem.Challenge.rw_spinboard_k95_plays_written) rfl rfl (fun w h Y => PySem.W.kIn_of Y) ?F
  case F =>
    intro w mg fa h KX G hmg
    refine' K95.all_mk (K := K95.Hd.KK w.params) (f := 338) (C := 92) (fi := 89) (aN := 147) (aF := 194) (A_NoMove := 61) (A_NoCell := 73) (A_NoMark := 37) (A_NoBoard := 49) (A_NotBorne := 111) (A_BoardError := 24) (tL := 460) (tF := 417) (tC := 332) KX G hmg ?aL (K95.Hd.k338 _) ?cL ?kL (K95.Hd.f9 _) (K95.Hd.f12 _) (K95.Hd.f13 _) (K95.Hd.f14 _) (K95.Hd.f15 _) (K95.Hd.f18 _) (K95.Hd.f19 _) (K95.Hd.f20 _) (K95.Hd.f23 _) (K95.Hd.f24 _) (K95.Hd.f25 _) (K95.Hd.f26 _) (K95.Hd.f27 _) (K95.Hd.f31 _) (K95.Hd.f32 _) (K95.Hd.f33 _) (K95.Hd.f34 _) (K95.Hd.f35 _) (K95.Hd.f36 _) (K95.Hd.f38 _) (K95.Hd.f39 _) (K95.Hd.f40 _) (K95.Hd.f41 _) (K95.Hd.f42 _) (K95.Hd.f43 _) (K95.Hd.f44 _) (K95.Hd.f45 _) (K95.Hd.f46 _) (K95.Hd.f47 _) (K95.Hd.f48 _) (K95.Hd.f49 _) (K95.Hd.f50 _) (K95.Hd.f51 _) (K95.Hd.f52 _) ?z0 ?z1 ?z2 ?z3 ?z4 ?z5 ?z6 ?z7 ?z8 ?z9 ?z10 ?z11 ?z12 ?z13 ?z14 ?z15 ?gN0 ?tN ?nN0 ?gL0 ?gF0 ?gC0 ?gA0 ?tA ?aC ?zV (L2.initAt ?i1 ?i2 ?i3 ?i4 ?i5 ?i6 ?i7 ?i8 ?i9 ⟨?e1, ?e2, ?e3, ?e4, ?e5, ?e6, ?e7⟩) ?na (L2.excAt ?xm1 ?xm2 ?xm3 ?xm4) (L2.excAt ?xn1 ?xn2 ?xn3 ?xn4) (L2.excAt ?xk1 ?xk2 ?xk3 ?xk4) ?ve ?n_NoMove ?n_NoCell ?n_NoMark ?n_NoBoard ?n_NotBorne ?n_BoardError ?k_NoMove ?k_NoCell ?k_NoMark ?k_NoBoard ?k_NotBorne ?k_BoardError
    (case aL => kernel_rfl); (case cL => kernel_rfl); (case kL => kernel_rfl)
    (case z0 => kernel_rfl); (case z1 => kernel_rfl); (case z2 => kernel_rfl); (case z3 => kernel_rfl); (case z4 => kernel_rfl); (case z5 => kernel_rfl); (case z6 => kernel_rfl); (case z7 => kernel_rfl); (case z8 => kernel_rfl); (case z9 => kernel_rfl); (case z10 => kernel_rfl); (case z11 => kernel_rfl); (case z12 => kernel_rfl); (case z13 => kernel_rfl); (case z14 => kernel_rfl); (case z15 => kernel_rfl)
    (case gN0 => kernel_rfl); (case tN => exact K95.Hd.k147 _); (case nN0 => decide); (case gL0 => kernel_rfl); (case gF0 => kernel_rfl); (case gC0 => kernel_rfl); (case gA0 => kernel_rfl); (case tA => exact K95.Hd.k194 _)
    (case aC => kernel_rfl); (case zV => kernel_rfl)
    (case i1 => exact K95.Hd.k92 _); (case i2 => kernel_rfl); (case i3 => kernel_rfl); (case i4 => kernel_rfl)
    (case i5 => exact K95.Hd.k89 _); (case i6 => kernel_rfl); (case i7 => kernel_rfl); (case i8 => kernel_rfl); (case i9 => kernel_rfl)
    (case e1 => kernel_rfl); (case e2 => kernel_rfl); (case e3 => (intro od; kernel_rfl)); (case e4 => kernel_rfl); (case e5 => kernel_rfl); (case e6 => kernel_rfl); (case e7 => kernel_rfl)
    (case na => (unfold L2.NoAttr; kernel_rfl))
    (case xm1 => exact K95.Hd.k61 _); (case xm2 => kernel_rfl); (case xm3 => kernel_rfl); (case xm4 => kernel_rfl)
    (case xn1 => exact K95.Hd.k73 _); (case xn2 => kernel_rfl); (case xn3 => kernel_rfl); (case xn4 => kernel_rfl)
    (case xk1 => exact K95.Hd.k37 _); (case xk2 => kernel_rfl); (case xk3 => kernel_rfl); (case xk4 => kernel_rfl)
    (case ve => kernel_rfl)
    (case n_NoMove => kernel_rfl)
    (case n_NoCell => kernel_rfl)
    (case n_NoMark => kernel_rfl)
    (case n_NoBoard => kernel_rfl)
    (case n_NotBorne => kernel_rfl)
    (case n_BoardError => kernel_rfl)
    (case k_NoMove => kernel_rfl)
    (case k_NoCell => kernel_rfl)
    (case k_NoMark => kernel_rfl)
    (case k_NoBoard => kernel_rfl)
    (case k_NotBorne => kernel_rfl)
    (case k_BoardError => kernel_rfl)

