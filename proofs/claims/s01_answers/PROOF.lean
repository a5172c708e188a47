import PyProof.Rows.All
import Wide.All
import OpenK.AllK
import Wide.FinOn
import PyProof.EqAt
import PyProof.EqKinds
import PyProof.TupleCall
import KE.BitLaws
import Open.SpecLaws
import KE.OsHead
import KE.OsGo
import PyProof.P3Eq
import PyProof.TupleKey
import PyProof.Rows.CallKwBuiltin
import KE.KMinBuiltin
import KE.KItemsList
import KE.KSortTupG
import PySi45
import PySem.Challenge.RW_looseleaves_s01_answers
-- CHANGE: your row's module here, as the last of these rows
set_option Elab.async false
set_option linter.all false
set_option maxRecDepth 100000
/-! THE HAND LAYER, for ints, bools, texts, own classes, lists, tuples, dicts, comprehensions, walks over dicts, enumerate, zip, reversed, texts, calls, loops. Paste it whole ahead of your own text; what your proof does not reach may be deleted. -/
namespace L2
open PySem PySem.Spec PyProof.Rows

/-- a key: an int or a str -/
abbrev Key := Sum Int Str
def keyIs : Key → Value → Bool
  | .inl k, v => Value.isInt k v
  | .inr x, v => Value.isStrOf x v
def keyH (w : World) : Key → Int
  | .inl k => hashInt k
  | .inr x => hashStr w x
theorem keyIs_shape : ∀ {k : Key} {v : Value}, keyIs k v = true → (∃ i t, k = Sum.inl i ∧ v = Value.int i t) ∨ (∃ x t, k = Sum.inr x ∧ v = Value.str x t)
  | .inl i, v, h => by
    obtain ⟨t, e⟩ := Value.isInt_shape (k := i) (v := v) h
    exact .inl ⟨i, t, rfl, e⟩
  | .inr x, v, h => by
    obtain ⟨t, e⟩ := Value.isStrOf_shape (x := x) (v := v) h
    exact .inr ⟨x, t, rfl, e⟩
theorem keyIs_int (i : Int) (t : Tok) : keyIs (.inl i) (.int i t) = true := by simp [keyIs, Value.isInt]
theorem keyIs_str (x : Str) (t : Tok) : keyIs (.inr x) (.str x t) = true := by simp [keyIs, Value.isStrOf]
theorem key_ll (a b : Int) : decide ((Sum.inl a : Key) = Sum.inl b) = (a == b) := by
  by_cases e : a = b
  · subst e; simp
  · have h : ¬ (Sum.inl a : Key) = Sum.inl b := fun q => e (Sum.inl.inj q)
    rw [decide_eq_false h]
    exact (beq_eq_false_iff_ne.mpr e).symm
theorem key_rr (a b : Str) : decide ((Sum.inr a : Key) = Sum.inr b) = decide (a = b) := by
  by_cases e : a = b
  · subst e; simp
  · have h : ¬ (Sum.inr a : Key) = Sum.inr b := fun q => e (Sum.inr.inj q)
    rw [decide_eq_false h, decide_eq_false e]
theorem key_lr (a : Int) (b : Str) : decide ((Sum.inl a : Key) = Sum.inr b) = false := decide_eq_false (fun q => nomatch q)
theorem key_rl (a : Str) (b : Int) : decide ((Sum.inr a : Key) = Sum.inl b) = false := decide_eq_false (fun q => nomatch q)

def mixKind (prog : Program) (w : World) : PySem.KeyKind prog w Key where
  is := keyIs
  hash := keyH w
  inj := fun v a b ha hb => by
    rcases keyIs_shape ha with ⟨i, t, rfl, rfl⟩ | ⟨x, t, rfl, rfl⟩
    · rcases keyIs_shape hb with ⟨j, u, rfl, e⟩ | ⟨y, u, rfl, e⟩
      · injection e with e1 _; rw [e1]
      · exact nomatch e
    · rcases keyIs_shape hb with ⟨j, u, rfl, e⟩ | ⟨y, u, rfl, e⟩
      · exact nomatch e
      · injection e with e1 _; rw [e1]
  byValue := fun k v h => by
    rcases keyIs_shape h with ⟨i, t, rfl, rfl⟩ | ⟨x, t, rfl, rfl⟩ <;> rfl
  pyHash := fun hv h => by
    rcases keyIs_shape hv with ⟨i, t, rfl, rfl⟩ | ⟨x, t, rfl, rfl⟩
    · exact wpAny_pyHash_int h
    · exact wpAny_pyHash_str h
  eqBool := fun hu hv h => by
    rcases keyIs_shape hu with ⟨i, t, rfl, rfl⟩ | ⟨x, t, rfl, rfl⟩
    · rcases keyIs_shape hv with ⟨j, u, rfl, rfl⟩ | ⟨y, u, rfl, rfl⟩
      · rw [key_ll] at h; exact wpAny_eqBool_int h
      · rw [key_lr] at h; exact SeqAt.EqAt.int_str i t y u _ _ _ _ h
    · rcases keyIs_shape hv with ⟨j, u, rfl, rfl⟩ | ⟨y, u, rfl, rfl⟩
      · rw [key_rl] at h; exact SeqAt.EqAt.str_int x t j u _ _ _ _ h
      · rw [key_rr] at h; exact wpAny_eqBool_str h
  «strs» := fun k x t v h => by
    rcases keyIs_shape h with ⟨i, u, rfl, e⟩ | ⟨y, u, rfl, e⟩
    · exact nomatch e
    · injection e with e1 _
      subst e1
      cases v <;> rfl

theorem mixKind_int (prog : Program) (w : World) (i : Int) (t : Tok) : (mixKind prog w).is (.inl i) (.int i t) = true := keyIs_int i t
theorem mixKind_str (prog : Program) (w : World) (x : Str) (t : Tok) : (mixKind prog w).is (.inr x) (.str x t) = true := keyIs_str x t
end L2

namespace L2
open PySem PySem.Spec PyProof.Rows

/-- a value, without the heap -/
inductive V where
  | non | bl (b : Bool) | int (i : Int) | str (x : Str) | byt (b : Array UInt8) | flt (b : UInt64) | ref (a : Addr) | ty (n : String)
  deriving DecidableEq

def RelV : V → Value → Prop
  | .non, u => u = Value.none
  | .bl b, u => u = Value.bool b
  | .int i, u => ∃ t, u = Value.int i t
  | .str x, u => ∃ t, u = Value.str x t
  | .byt b, u => ∃ t, u = Value.bytes b t
  | .flt b, u => ∃ t, u = Value.float b t
  | .ref a, u => u = Value.ref a
  | .ty n, u => u = Value.type n

abbrev Vals : List V → List Value → Prop := Paired RelV
theorem Vals.length {xs : List V} {us : List Value} (r : Vals xs us) : xs.length = us.length := Paired.length r
theorem Vals.get : ∀ {xs : List V} {us : List Value} {i : Nat} {x : V}, Vals xs us → xs[i]? = some x → ∃ u, us[i]? = some u ∧ RelV x u
  | _, _, _, _, .nil, e => by simp at e
  | _, _, 0, _, .cons r _, e => by simp at e; subst e; exact ⟨_, rfl, r⟩
  | _, _, i + 1, x, .cons _ t, e => by
    obtain ⟨u, h1, h2⟩ := Vals.get (i := i) (x := x) t (by simpa using e)
    exact ⟨u, by simpa using h1, h2⟩
theorem Vals.set {x : V} {u : Value} (r : RelV x u) : ∀ {xs : List V} {us : List Value} (i : Nat), Vals xs us → Vals (xs.set i x) (us.set i u)
  | _, _, _, .nil => .nil
  | _, _, 0, .cons _ t => .cons r t
  | _, _, i + 1, .cons q t => .cons q (Vals.set r i t)
theorem Vals.append : ∀ {xs ys : List V} {us ws : List Value}, Vals xs us → Vals ys ws → Vals (xs ++ ys) (us ++ ws)
  | _, _, _, _, .nil, s => s
  | _, _, _, _, .cons r t, s => .cons r (Vals.append t s)
theorem Vals.take : ∀ {xs : List V} {us : List Value} (n : Nat), Vals xs us → Vals (xs.take n) (us.take n)
  | _, _, 0, _ => .nil
  | _, _, _ + 1, .nil => .nil
  | _, _, n + 1, .cons r t => .cons r (Vals.take n t)
theorem Vals.drop : ∀ {xs : List V} {us : List Value} (n : Nat), Vals xs us → Vals (xs.drop n) (us.drop n)
  | _, _, 0, r => r
  | _, _, _ + 1, .nil => .nil
  | _, _, n + 1, .cons _ t => Vals.drop n t

def RelO : Option V → Option Value → Prop
  | some v, some u => RelV v u
  | none, none => True
  | _, _ => False
def KV {κ : Type} : List (κ × V) → List (κ × Value) → Prop := Paired fun (p : κ × V) (q : κ × Value) => p.1 = q.1 ∧ RelV p.2 q.2

/-- a key of a dict (00_mix): an int or a text -/
def kV : Key → V
  | .inl i => .int i
  | .inr x => .str x

/-- what stands at a tracked address -/
inductive HO where
  /-- a list -/
  | lst (xs : List V)
  /-- a tuple (never changes) -/
  | tup (xs : List V)
  /-- a dict whose keys are ints and texts; one whose keys are tuples of ints and texts (the empty one is both) -/
  | dK (kvs : List (Key × V)) | dT (kvs : List (List Key × V))
  /-- a set of ints: its members, its size -/
  | set (S : Int → Bool) (n : Nat)
  /-- an instance of the class at C, its dict at dx, its attributes -/
  | ins (C dx : Addr) (fs : List (Str × V))
  /-- the dict of the instance at x -/
  | own (x : Addr)
  /-- the dict of an exception -/
  | xd (fs : List (Str × V))
  /-- a bound method, f of x -/
  | met (f x : Addr)
  /-- a range object lo, lo + 1, .. below hi -/
  | rng (lo hi : Int)
  /-- a thing that is known to the object (the script; a dict while a loop walks it): read, never written while it is so -/
  | frz (o : Obj) (u : HO)
  /-- a code object's table -/
  | tbl (ps : Array Value)
  /-- any other thing, by what is true of its one object (a def of one's own: SetO a S n := HO.ext fun h => ..) -/
  | ext (φ : Heap → Prop)

abbrev Hp := Addr → Option HO
def upd (H : Hp) (a : Addr) (o : HO) : Hp := fun b => if b = a then some o else H b
theorem upd_same {H : Hp} {a : Addr} {o : HO} : upd H a o a = some o := by unfold upd; rw [if_pos rfl]
theorem upd_ne {H : Hp} {a b : Addr} {o : HO} (h : b ≠ a) : upd H a o b = H b := by unfold upd; rw [if_neg h]
/-- two objects of different content stand apart -/
theorem ne_of {H : Hp} {a b : Addr} {o u : HO} (h : H a = some o) (h' : H b = some u) (d : o ≠ u) : a ≠ b := by
  intro e; subst e; rw [h] at h'; exact d (Option.some.inj h')
theorem ne_of_none {H : Hp} {a b : Addr} {o : HO} (h : H a = some o) (h' : H b = none) : a ≠ b := by
  intro e; subst e; rw [h] at h'; cases h'

section
variable (P : Program) (w : World)
def ObjOk (H : Hp) (h : Heap) (a : Addr) : HO → Prop
  | .lst xs => xs.length ≤ sizeLine ∧ ∃ (its : List Value) (n : Nat), Vals xs its ∧ h.get? a = some { cls := .type "list", data := .seq its.toArray n }
  | .tup xs => xs.length ≤ sizeLine ∧ ∃ its : List Value, Vals xs its ∧ IsTup h a its.toArray
  | .dK kvs => kvs.length ≤ sizeLine ∧ (a == sysModules) = false ∧ ∃ vs, KV kvs vs ∧ h.DictOf (mixKind P w) a vs
  | .dT kvs => kvs.length ≤ sizeLine ∧ (a == sysModules) = false ∧ ∃ xs : List (List Key × Addr × Value),
      Paired (fun (p : List Key × V) (q : List Key × Addr × Value) => p.1 = q.1 ∧ H q.2.1 = some (.tup (p.1.map kV)) ∧ RelV p.2 q.2.2) kvs xs ∧
      ∃ o es ep, h.get? a = some o ∧ o.ExactDict ∧ o.data = .dict es ep ∧ es.toList = xs.map (entryOfKey (tupleKind (mixKind P w))) ∧ (xs.map (·.1)).Nodup
  | .set S n => h.SetOf (intKind P w) a S n
  | .ins C dx fs => H dx = some (.own a) ∧ fs.length ≤ 1000 ∧ dx ≠ a ∧ h.get? a = some (PySem.W.instObj C dx) ∧
      ∃ mA, h.Ns1 dx mA ∧ (∀ f, RelO (fs.lookup f) (mA f)) ∧ PySem.Within mA (fs.map (·.1))
  | .own _ => ∃ o, h.get? a = some o
  | .xd fs => ∃ mA, h.Ns1 a mA ∧ ∀ f, RelO (fs.lookup f) (mA f)
  | .rng lo hi => ∃ t u v, h.get? a = some { cls := .type "range", data := .fields #[.int lo t, .int hi u, .int 1 v] }
  | .frz o u => h.get? a = some o ∧ ObjOk H h a u
  | .tbl ps => h.get? a = some { cls := .none, data := .fields ps }
  | .met f x => h.get? a = some (PySem.W.methodObj (.ref f) (.ref x))
  | .ext φ => φ h ∧ (∃ o, h.get? a = some o) ∧ ∀ h1 h2 : Heap, φ h1 → (∀ o, h1.get? a = some o → h2.get? a = some o) → φ h2
/-- the abstract heap is held -/
def HOk (H : Hp) (h : Heap) : Prop := ∀ a o, H a = some o → ObjOk P w H h a o
end

section
variable {P : Program} {w : World} {H H' : Hp} {h h' : Heap} {a : Addr} {o : HO}
theorem ObjOk.lt (x : ObjOk P w H h a o) : a < h.objs.size := by
  cases o with
  | lst xs => obtain ⟨_, _, _, _, e⟩ := x; exact Heap.lt_size e
  | tup xs => obtain ⟨_, _, _, p⟩ := x; exact p.lt
  | dK kvs => obtain ⟨_, _, _, _, o, _, _, e, _⟩ := x; exact Heap.lt_size e
  | dT kvs => obtain ⟨_, _, _, _, o, _, _, e, _⟩ := x; exact Heap.lt_size e
  | set S n => obtain ⟨o, _, _, _, e, _⟩ := x; exact Heap.lt_size e
  | ins C dx fs => obtain ⟨_, _, _, e, _⟩ := x; exact Heap.lt_size e
  | own y => obtain ⟨_, e⟩ := x; exact Heap.lt_size e
  | xd fs => obtain ⟨_, ⟨_, _, _, e, _⟩, _⟩ := x; exact Heap.lt_size e
  | rng lo hi => obtain ⟨_, _, _, e⟩ := x; exact Heap.lt_size e
  | frz ob u => obtain ⟨e, _⟩ := x; exact Heap.lt_size e
  | tbl ps => exact Heap.lt_size (show h.get? a = some _ from x)
  | met f y => exact Heap.lt_size (show h.get? a = some _ from x)
  | ext φ => obtain ⟨_, ⟨_, e⟩, _⟩ := x; exact Heap.lt_size e
theorem Paired.mapP {α β : Type} {F G : α → β → Prop} : ∀ {l₁ : List α} {l₂ : List β}, Paired F l₁ l₂ → (∀ a b, F a b → G a b) → Paired G l₁ l₂
  | _, _, .nil, _ => .nil
  | _, _, .cons r t, f => .cons (f _ _ r) (Paired.mapP t f)
/-- what an object's description leans on: its own object, its own dict, the tuples -/
theorem ObjOk.stay (x : ObjOk P w H h a o) (k : ∀ b u, (b = a ∨ H b = some (.own a)) → h.get? b = some u → h'.get? b = some u)
    (ho : ∀ b, H b = some (.own a) → H' b = some (.own a)) (ht : ∀ b xs, H b = some (.tup xs) → H' b = some (.tup xs)) : ObjOk P w H' h' a o := by
  induction o with
  | lst xs => obtain ⟨z, its, n, r, e⟩ := x; exact ⟨z, its, n, r, k _ _ (.inl rfl) e⟩
  | tup xs => obtain ⟨z, its, r, ob, e, c⟩ := x; exact ⟨z, its, r, ob, k _ _ (.inl rfl) e, c⟩
  | dK kvs => obtain ⟨z, y, vs, r, ob, es, ep, e, c⟩ := x; exact ⟨z, y, vs, r, ob, es, ep, k _ _ (.inl rfl) e, c⟩
  | dT kvs =>
    obtain ⟨z, y, xs, r, ob, es, ep, e, c⟩ := x
    exact ⟨z, y, xs, Paired.mapP r fun p q z => ⟨z.1, ht _ _ z.2.1, z.2.2⟩, ob, es, ep, k _ _ (.inl rfl) e, c⟩
  | set S n => obtain ⟨ob, es, ep, t, e, c⟩ := x; exact ⟨ob, es, ep, t, k _ _ (.inl rfl) e, c⟩
  | ins C dx fs =>
    obtain ⟨d, z, ne, e, mA, ⟨od, es, ep, e2, c⟩, r⟩ := x
    exact ⟨ho _ d, z, ne, k _ _ (.inl rfl) e, mA, ⟨od, es, ep, k _ _ (.inr d) e2, c⟩, r⟩
  | own y => obtain ⟨ob, e⟩ := x; exact ⟨ob, k _ _ (.inl rfl) e⟩
  | xd fs => obtain ⟨mA, ⟨od, es, ep, e, c⟩, r⟩ := x; exact ⟨mA, ⟨od, es, ep, k _ _ (.inl rfl) e, c⟩, r⟩
  | rng lo hi => obtain ⟨t, u, v, e⟩ := x; exact ⟨t, u, v, k _ _ (.inl rfl) e⟩
  | frz ob u ih => obtain ⟨e, q⟩ := x; exact ⟨k _ _ (.inl rfl) e, ih q⟩
  | tbl ps =>
    have e : h.get? a = some { cls := .none, data := .fields ps } := x
    show h'.get? a = some { cls := .none, data := .fields ps }
    exact k a _ (.inl rfl) e
  | met f y =>
    have e : h.get? a = some (PySem.W.methodObj (.ref f) (.ref y)) := x
    show h'.get? a = some (PySem.W.methodObj (.ref f) (.ref y))
    exact k a _ (.inl rfl) e
  | ext φ => obtain ⟨p, ⟨o, e⟩, st⟩ := x; exact ⟨st _ _ p fun o q => k _ _ (.inl rfl) q, ⟨o, k _ _ (.inl rfl) e⟩, st⟩
theorem HOk.lt (x : HOk P w H h) (e : H a = some o) : a < h.objs.size := (x a o e).lt
theorem HOk.fresh (x : HOk P w H h) (e : h.objs.size ≤ a) : H a = none := by
  cases q : H a with
  | none => rfl
  | some u => exact absurd (Nat.lt_of_lt_of_le (x.lt q) e) (Nat.lt_irrefl _)
/-- every object of the heap is kept -/
theorem HOk.kept (x : HOk P w H h) (k : ∀ b u, h.get? b = some u → h'.get? b = some u) : HOk P w H h' := fun a o e =>
  (x a o e).stay (fun b u _ q => k b u q) (fun _ q => q) fun _ _ q => q
/-- a new object is laid and tracked -/
theorem HOk.laid (x : HOk P w H h) (k : ∀ b u, h.get? b = some u → h'.get? b = some u) (hp : h.objs.size ≤ a) (new : ObjOk P w (upd H a o) h' a o) : HOk P w (upd H a o) h' := fun b u e => by
  have hn := x.fresh hp
  by_cases hb : b = a
  · subst hb; rw [upd_same] at e; cases e; exact new
  · rw [upd_ne hb] at e
    exact (x b u e).stay (fun c v _ q => k c v q) (fun c q => by rw [upd_ne (ne_of_none q hn)]; exact q) fun c xs q => by rw [upd_ne (ne_of_none q hn)]; exact q
end

/-- what may be read as u: it is u, or a known u -/
def Rd (H : Hp) (a : Addr) (u : HO) : Prop := H a = some u ∨ ∃ o, H a = some (.frz o u)
theorem Rd.ok {P : Program} {w : World} {H : Hp} {h : Heap} {a : Addr} {u : HO} (r : Rd H a u) (x : HOk P w H h) : ObjOk P w H h a u := by
  rcases r with r | ⟨o, r⟩
  · exact x a u r
  · obtain ⟨_, q⟩ := x a _ r
    exact q
/-- what may be written -/
def Mut : Option HO → Prop
  | some (.lst _) => True
  | some (.dK _) => True
  | some (.dT _) => True
  | some (.set _ _) => True
  | some (.ins _ _ _) => True
  | some (.ext _) => True
  | _ => False
section
variable {P : Program} {w : World} {H : Hp} {h h' : Heap} {x e : Addr} {o' : HO}
/-- the object at e is changed: x itself, or the dict of the instance x -/
theorem HOk.write (ok : HOk P w H h) (mu : Mut (H x)) (he : e = x ∨ H e = some (.own x)) (k : ∀ b u, b ≠ e → h.get? b = some u → h'.get? b = some u) (heo : ∃ u, h'.get? e = some u)
    (new : ObjOk P w (upd H x o') h' x o') : HOk P w (upd H x o') h' := fun b u q => by
  have nown : ∀ c y, H c = some (.own y) → c ≠ x := fun c y r z => by subst z; rw [r] at mu; exact mu
  have ntup : ∀ c xs, H c = some (.tup xs) → c ≠ x := fun c xs r z => by subst z; rw [r] at mu; exact mu
  by_cases hb : b = x
  · subst hb; rw [upd_same] at q; cases q; exact new
  · rw [upd_ne hb] at q
    by_cases hbe : b = e
    · have q' : H b = some (.own x) := by
        rcases he with z | z
        · exact absurd (hbe.trans z) hb
        · rw [hbe]; exact z
      rw [q] at q'; cases q'
      obtain ⟨v, hv⟩ := heo
      exact ⟨v, by rw [hbe]; exact hv⟩
    · refine (ok b u q).stay (fun c v hc r => k c v ?_ r) (fun c r => by rw [upd_ne (nown c b r)]; exact r) fun c xs r => by rw [upd_ne (ntup c xs r)]; exact r
      rcases hc with rfl | hc
      · exact hbe
      · rintro rfl
        rcases he with z | z
        · exact nown c b hc z
        · rw [hc] at z; cases z; exact hb rfl
end

/-! ### kept unless tracked; of the frames at fs (the callers') the slots may change (an exception that passes writes there); of the records at ex (iterators) nothing is said -/
structure Un (fs ex : List Addr) (H H' : Hp) (h h' : Heap) : Prop where
  keep : ∀ b o, h.get? b = some o → H b = none → b ∉ fs → b ∉ ex → h'.get? b = some o
  slot : ∀ b o, h.get? b = some o → H b = none → b ∈ fs → b ∉ ex → ∃ sl, h'.get? b = some { o with slots := sl }
  free : ∀ b o, h.get? b = some o → H b = none → b ∉ ex → H' b = none
  there : ∀ b o, h.get? b = some o → b ∉ ex → ∃ o', h'.get? b = some o'
  tups : ∀ b xs, H b = some (.tup xs) → H' b = some (.tup xs)
  frzs : ∀ b o u, H b = some (.frz o u) → H' b = some (.frz o u)
  tbls : ∀ b ps, H b = some (.tbl ps) → ∃ more, H' b = some (.tbl (ps ++ more))
section
variable {fs fs' ex ex' : List Addr} {H H1 H2 : Hp} {h h1 h2 h' : Heap} {a x e : Addr} {o : HO}
theorem Un.any (u : Un fs ex H H1 h h1) {b : Addr} {ob : Obj} (q : h.get? b = some ob) (n : H b = none) (hx : b ∉ ex) : ∃ sl, h1.get? b = some { ob with slots := sl } := by
  by_cases hb : b ∈ fs
  · exact u.slot b ob q n hb hx
  · exact ⟨ob.slots, u.keep b ob q n hb hx⟩
theorem Un.kept (k : ∀ b u, h.get? b = some u → h'.get? b = some u) : Un fs ex H H h h' :=
  ⟨fun b ob q _ _ _ => k b ob q, fun b ob q _ _ _ => ⟨ob.slots, k b ob q⟩, fun _ _ _ n _ => n, fun b ob q _ => ⟨ob, k b ob q⟩, fun _ _ q => q, fun _ _ _ q => q, fun _ ps q => ⟨#[], by rw [q]; simp⟩⟩
theorem Un.refl : Un fs ex H H h h := Un.kept fun _ _ q => q
theorem Un.laid (k : ∀ b u, h.get? b = some u → h'.get? b = some u) (hp : h.objs.size ≤ a) (hn : H a = none) : Un fs ex H (upd H a o) h h' where
  keep := fun b u q _ _ _ => k b u q
  slot := fun b u q _ _ _ => ⟨u.slots, k b u q⟩
  free := fun b u q n _ => by rw [upd_ne (Nat.ne_of_lt (Nat.lt_of_lt_of_le (Heap.lt_size q) hp))]; exact n
  there := fun b u q _ => ⟨u, k b u q⟩
  tups := fun b xs q => by rw [upd_ne (ne_of_none q hn)]; exact q
  frzs := fun b u xs q => by rw [upd_ne (ne_of_none q hn)]; exact q
  tbls := fun b ps q => ⟨#[], by rw [upd_ne (ne_of_none q hn), q]; simp⟩
theorem Un.write (mu : Mut (H x)) (he : e = x ∨ H e = some (.own x)) (k : ∀ b u, b ≠ e → h.get? b = some u → h'.get? b = some u) (heo : ∃ u, h'.get? e = some u) : Un fs ex H (upd H x o) h h' := by
  have hx : ∀ b, H b = none → b ≠ x := fun b n z => by subst z; rw [n] at mu; exact mu
  have hb : ∀ b, H b = none → b ≠ e := fun b n z => by
    subst z
    rcases he with r | r
    · exact hx b n r
    · rw [n] at r; cases r
  have hm : ∀ b u, H b = some u → ¬ Mut (some u) → b ≠ x := fun b u q nm z => by subst z; rw [q] at mu; exact nm mu
  refine ⟨fun b u q n _ _ => k b u (hb b n) q, fun b u q n _ _ => ⟨u.slots, k b u (hb b n) q⟩, fun b u q n _ => by rw [upd_ne (hx b n)]; exact n, fun b u q _ => ?_,
    fun b xs q => by rw [upd_ne (hm b _ q fun z => z)]; exact q, fun b u xs q => by rw [upd_ne (hm b _ q fun z => z)]; exact q, fun b ps q => ⟨#[], by rw [upd_ne (hm b _ q fun z => z), q]; simp⟩⟩
  by_cases hbe : b = e
  · subst hbe; exact heo
  · exact ⟨u, k b u hbe q⟩
end

/-! ### the heap without what is tracked -/
def trk (h : Heap) (H : Hp) : List Addr := (List.range h.objs.size).filter fun a => (H a).isSome
def hidT (h : Heap) (H : Hp) : Heap := PySem.W.hideAll h (trk h H)
theorem hidT_size (h : Heap) (H : Hp) : (hidT h H).objs.size = h.objs.size := PySem.W.hideAll_size _ _
theorem hidT_get {h : Heap} {H : Hp} {b : Addr} {o : Obj} (e : h.get? b = some o) (n : H b = none) : (hidT h H).get? b = some o :=
  PySem.W.hideAll_get _ e fun hm => by
    have q : (H b).isSome = true := (List.mem_filter.mp hm).2
    rw [n] at q; simp at q
theorem of_hidT {h : Heap} {H : Hp} {b : Addr} {o : Obj} (e : (hidT h H).get? b = some o) : h.get? b = some o ∧ H b = none := by
  have e' : h.get? b = some o := PySem.W.of_hideAll (trk h H) e
  refine ⟨e', ?_⟩
  cases q : H b with
  | none => rfl
  | some x =>
    have hm : b ∈ trk h H := List.mem_filter.mpr ⟨List.mem_range.mpr (Heap.lt_size e'), by simp [q]⟩
    have z : (hidT h H).get? b = none := PySem.W.hideAll_none (trk h H) hm
    rw [z] at e; cases e

/-! ### OpenK's ledger, filled with every new object but one -/
end L2

namespace L2
open PySem PySem.Spec PyProof.Rows

/-- the module's facts, over the base: the heap at the law's entry without what is tracked there -/
structure Mod (K : PySem.W.Frag) (mg : Str → Option Value) (base : Heap) : Prop where
  kin : K.In base
  glob : base.Ns mainGlobals mg
  blt : ∃ mb, base.Ns builtinsNs mb ∧ ∀ x : Str, x ≠ "__name__" → mb x = bootBuiltins x
  nolimit : base.NoLimit

/-- the context: a def's body (or a comprehension's block) running. base: fixed through the whole law; s₀, H₀: the entry; outer: the frames whose slots others may change (a def's callers); stack: all frames that run;
   ex: iterators that were made ahead of the entry and are walked here (a comprehension's); fn: the names whose cells were made at the entry (a def: all; a comprehension's block: its own); calm: not within an except suite; pn: pins that every state bears; xe: what is wanted of an exception that leaves the code -/
structure Cx where
  prog : Program
  w : World
  K : PySem.W.Frag
  mg : Str → Option Value
  base : Heap
  A : Around
  N : List Str
  s_0 : Shared
  H_0 : Hp
  env : Env
  outer : List Env
  stack : List Env
  ex : List Addr
  fn : Str → Bool
  calm : Bool
  pn : List (Addr × Obj)
  xe : Value → Shared → Prop
/-- the callers' frames -/
def frs (l : List Env) : List Addr := l.filterMap (·.frame)
abbrev Cx.fs (X : Cx) : List Addr := frs X.outer

def Vis (sc : Scope) (x : Str) : Prop := sc.names.lookup x = some .local ∨ sc.names.lookup x = some .cell ∨ sc.names.lookup x = some .free
def Loc (sc : Scope) (x : Str) : Prop := sc.names.lookup x = some .local ∨ sc.names.lookup x = some .cell
def Look (env : Env) (h : Heap) (m : Str → Option Value) (x : Str) (u : Value) : Prop :=
  (env.kindOf x = some .local ∧ m x = some u) ∨ ((env.kindOf x = some .cell ∨ env.kindOf x = some .free) ∧ ∃ c, env.cells.lookup x = some c ∧ h.IsCell c (some u))

structure Cx.Ok (X : Cx) : Prop where
  mod : Mod X.K X.mg X.base
  kind : X.env.scope.kind = .function
  glob : X.env.globals = mainGlobals
  blt : X.env.builtins = builtinsNs
  above : X.s_0.heap.objs.size ≤ X.env.locals
  inj : ∀ x y c, X.env.cells.lookup x = some c → X.env.cells.lookup y = some c → x = y
  has : ∀ x, (X.env.kindOf x = some .cell ∨ X.env.kindOf x = some .free) → ∃ c, X.env.cells.lookup x = some c
  cab : ∀ x c, X.fn x = true → X.env.cells.lookup x = some c → X.s_0.heap.objs.size ≤ c
  hd : X.calm = true → X.A.handled = none
  frames : X.A.frames = some X.stack
  stk : X.stack = X.outer ∨ (X.stack = X.env :: X.outer ∧ X.env.frame = some X.env.locals)
  exf : ∀ b ∈ X.ex, b ≠ X.env.locals ∧ ∀ x c, X.env.cells.lookup x = some c → c ≠ b
  bs : ∀ b o, X.base.get? b = some o → X.s_0.heap.get? b = some o ∧ X.H_0 b = none
  bsz : X.base.objs.size ≤ X.s_0.heap.objs.size
  noex : ∀ b o, X.base.get? b = some o → b ∉ X.ex
  exfs : ∀ b ∈ X.ex, b ∉ X.fs
  funs : X.s_0.heap.FunFrames X.base X.outer
  frf : ∀ b ∈ X.fs, X.H_0 b = none

structure Inv (X : Cx) (pins : List (Addr × Obj)) (σ : List (Option V)) (H : Hp) (s : Shared) : Prop where
  ok : X.Ok
  os : s.os = X.s_0.os
  bare : AllBare s.gens
  base : Un X.fs X.ex X.H_0 H X.s_0.heap s.heap
  loc : ∃ m, s.heap.Ns X.env.locals m ∧ ∀ (i : Nat) (x : Str) (v : V), X.N[i]? = some x → σ[i]? = some (some v) → Vis X.env.scope x → ∃ u, RelV v u ∧ Look X.env s.heap m x u
  cell : ∀ x c, X.env.cells.lookup x = some c → ∃ v, s.heap.IsCell c v
  free : H X.env.locals = none
  freeC : ∀ x c, X.env.cells.lookup x = some c → H c = none
  pin : ∀ p ∈ X.pn ++ pins, s.heap.get? p.1 = some p.2 ∧ H p.1 = none ∧ p.1 ≠ X.env.locals ∧ p.1 ∉ X.fs ∧ ∀ v, p.2.data ≠ .cell v
  hok : HOk X.prog X.w H s.heap
  len : σ.length = X.N.length

section
variable {X : Cx} {pins : List (Addr × Obj)} {σ : List (Option V)} {H H' : Hp} {s : Shared} {h' : Heap}

theorem Cx.Ok.nofr (ok : X.Ok) {b : Addr} {o : Obj} (e : X.base.get? b = some o) : b ∉ X.fs := fun hb => by
  have := (ok.funs.mem hb).1
  rw [e] at this; cases this
theorem Inv.bs (I : Inv X pins σ H s) : ∀ b o, X.base.get? b = some o → s.heap.get? b = some o ∧ H b = none := fun b o e =>
  ⟨I.base.keep b o (I.ok.bs b o e).1 (I.ok.bs b o e).2 (I.ok.nofr e) (I.ok.noex b o e), I.base.free b o (I.ok.bs b o e).1 (I.ok.bs b o e).2 (I.ok.noex b o e)⟩
theorem Inv.bk (I : Inv X pins σ H s) : ∀ b o, X.base.get? b = some o → s.heap.get? b = some o := fun b o e => (I.bs b o e).1
theorem Inv.mod (I : Inv X pins σ H s) : Mod X.K X.mg X.base := I.ok.mod
theorem Inv.kIn (I : Inv X pins σ H s) : X.K.In s.heap := I.ok.mod.kin.keeps I.bk
/-- the frame over the base: for OpenK's rules (K.In X.base is I.mod.kin) -/
theorem Inv.fr (I : Inv X pins σ H s) : ∃ m, Fr X.base X.env.locals s.heap m :=
  let ⟨m, hn, _⟩ := I.loc
  ⟨m, hn, I.bk, Nat.le_trans I.ok.bsz I.ok.above⟩
theorem Inv.lt (I : Inv X pins σ H s) : X.env.locals < s.heap.objs.size := let ⟨_, hn, _⟩ := I.loc; hn.lt
theorem Inv.sz (I : Inv X pins σ H s) : X.s_0.heap.objs.size ≤ s.heap.objs.size := Nat.le_trans I.ok.above (Nat.le_of_lt I.lt)
theorem Inv.nofs (I : Inv X pins σ H s) {a : Addr} (h : s.heap.objs.size ≤ a) : a ∉ X.fs := fun hb => by
  obtain ⟨_, o, ho, _⟩ := I.ok.funs.mem hb
  exact absurd (Nat.lt_of_lt_of_le (Heap.lt_size ho) (Nat.le_trans I.sz h)) (Nat.lt_irrefl _)
theorem Inv.cne (I : Inv X pins σ H s) : ∀ x c, X.env.cells.lookup x = some c → c ≠ X.env.locals := fun x c e z => by
  obtain ⟨v, o, ho, hd⟩ := I.cell x c e
  obtain ⟨m, ⟨o', es, ep, ho', hd', _⟩, _⟩ := I.loc
  rw [z, ho'] at ho; cases ho; rw [hd'] at hd; cases hd
theorem Inv.funs (I : Inv X pins σ H s) : s.heap.FunFrames X.base X.outer := by
  have all : ∀ (l : List Env), (∀ b ∈ frs l, b ∈ X.fs) → X.s_0.heap.FunFrames X.base l → s.heap.FunFrames X.base l := by
    intro l
    induction l with
    | nil => intro _ _; trivial
    | cons env r ih =>
      intro hs hl
      obtain ⟨hk, ⟨L, o, hf, hn, ho, hd⟩, hr⟩ := hl
      have hL : L ∈ X.fs := hs L (by unfold frs; rw [List.filterMap_cons, hf]; exact List.mem_cons_self)
      obtain ⟨sl, e⟩ := I.base.slot L o ho (I.ok.frf L hL) hL fun z => I.ok.exfs L z hL
      exact ⟨hk, ⟨L, _, hf, hn, e, hd⟩, ih (fun b hb => hs b (by unfold frs; rw [List.filterMap_cons, hf]; exact List.mem_cons_of_mem _ hb)) hr⟩
  exact all X.outer (fun _ hb => hb) I.ok.funs

/-- the frames that run, for a call -/
theorem Inv.stack (I : Inv X pins σ H s) : s.heap.FunFrames X.base X.stack := by
  rcases I.ok.stk with e | ⟨e, hf⟩
  · rw [e]; exact I.funs
  · rw [e]
    obtain ⟨m, hn, _⟩ := I.loc
    refine .cons (by rw [I.ok.kind]; decide) hf hn ?_ I.funs
    exact Heap.get?_none_of_le (Nat.le_trans I.ok.bsz I.ok.above)
theorem Inv.stkSub (I : Inv X pins σ H s) : ∀ b ∈ frs X.stack, b ∈ X.env.locals :: X.fs := fun b hb => by
  rcases I.ok.stk with e | ⟨e, hf⟩
  · rw [e] at hb; exact List.mem_cons_of_mem _ hb
  · rw [e] at hb
    unfold frs at hb
    rw [List.filterMap_cons, hf] at hb
    exact hb
theorem Inv.stkFree (I : Inv X pins σ H s) : ∀ b ∈ frs X.stack, H b = none := fun b hb => by
  rcases List.mem_cons.mp (I.stkSub b hb) with e | hb
  · rw [e]; exact I.free
  · obtain ⟨_, o, ho, _⟩ := I.ok.funs.mem hb
    exact I.base.free b o ho (I.ok.frf b hb) fun z => I.ok.exfs b z hb

/-- THE STEP: the untracked objects but the frame and the records at ch are kept (the callers' frames up to slots), the frame's map is kept, the new abstract heap is held -/
theorem Inv.step {g' : Array GenState} {t' : Nat} {d' : Drawn} {ch : List Addr} (I : Inv X pins σ H s)
    (hch : ∀ b ∈ ch, (b ∈ X.ex ∨ X.s_0.heap.objs.size ≤ b) ∧ b ≠ X.env.locals ∧ (∀ x c, X.env.cells.lookup x = some c → c ≠ b) ∧ ∀ p ∈ X.pn ++ pins, p.1 ≠ b)
    (keep : ∀ b o, b ≠ X.env.locals → b ∉ X.fs → b ∉ ch → s.heap.get? b = some o → H b = none → h'.get? b = some o)
    (slot : ∀ b o, b ≠ X.env.locals → b ∈ X.fs → b ∉ ch → s.heap.get? b = some o → H b = none → ∃ sl, h'.get? b = some { o with slots := sl }) (free : ∀ b o, b ∉ ch → s.heap.get? b = some o → H b = none → H' b = none)
    (there : ∀ b o, b ∉ ch → s.heap.get? b = some o → ∃ o', h'.get? b = some o')
    (tups : ∀ b xs, H b = some (.tup xs) → H' b = some (.tup xs)) (frzs : ∀ b o u, H b = some (.frz o u) → H' b = some (.frz o u)) (tbls : ∀ b ps, H b = some (.tbl ps) → ∃ more, H' b = some (.tbl (ps ++ more)))
    (ns : ∀ m, s.heap.Ns X.env.locals m → h'.Ns X.env.locals m) (hok : HOk X.prog X.w H' h') (hg : AllBare g') :
    Inv X pins σ H' { s with heap := h', gens := g', drawn := d', toks := t' } := by
  have neL : ∀ b o, X.s_0.heap.get? b = some o → b ≠ X.env.locals := fun b o e => Nat.ne_of_lt (Nat.lt_of_lt_of_le (Heap.lt_size e) I.ok.above)
  have neC : ∀ b o, X.s_0.heap.get? b = some o → b ∉ X.ex → b ∉ ch := fun b o e hx hb => by
    rcases (hch b hb).1 with z | z
    · exact hx z
    · exact absurd (Nat.lt_of_lt_of_le (Heap.lt_size e) z) (Nat.lt_irrefl _)
  have cellK : ∀ x c, X.env.cells.lookup x = some c → ∀ v, s.heap.IsCell c v → h'.IsCell c v := fun x c e v ⟨o, ho, hd⟩ => by
    have nch : c ∉ ch := fun z => (hch c z).2.2.1 x c e rfl
    by_cases hc : c ∈ X.fs
    · obtain ⟨sl, q⟩ := slot c o (I.cne x c e) hc nch ho (I.freeC x c e)
      exact ⟨_, q, hd⟩
    · exact ⟨o, keep c o (I.cne x c e) hc nch ho (I.freeC x c e), hd⟩
  refine ⟨I.ok, I.os, hg, ⟨fun b o e n hb hx => ?_, fun b o e n hb hx => ?_, fun b o e n hx => ?_, fun b o e hx => ?_, fun b xs e => tups b xs (I.base.tups b xs e), fun b o xs e => frzs b o xs (I.base.frzs b o xs e), fun b ps e => ?_⟩, ?_, fun x c e => ?_, ?_, fun x c e => ?_, fun p hp => ?_, hok, I.len⟩
  · exact keep b o (neL b o e) hb (neC b o e hx) (I.base.keep b o e n hb hx) (I.base.free b o e n hx)
  · obtain ⟨sl, e1⟩ := I.base.slot b o e n hb hx
    obtain ⟨sl', e2⟩ := slot b _ (neL b o e) hb (neC b o e hx) e1 (I.base.free b o e n hx)
    exact ⟨sl', e2⟩
  · obtain ⟨o', e1⟩ := I.base.there b o e hx
    exact free b o' (neC b o e hx) e1 (I.base.free b o e n hx)
  · obtain ⟨o', e1⟩ := I.base.there b o e hx
    exact there b o' (neC b o e hx) e1
  · obtain ⟨m1, e1⟩ := I.base.tbls b ps e
    obtain ⟨m2, e2⟩ := tbls b _ e1
    exact ⟨m1 ++ m2, by rw [e2, Array.append_assoc]⟩
  · obtain ⟨m, hn, hl⟩ := I.loc
    refine ⟨m, ns m hn, fun i x v e1 e2 e3 => ?_⟩
    obtain ⟨u, r, l⟩ := hl i x v e1 e2 e3
    refine ⟨u, r, ?_⟩
    rcases l with l | ⟨k, c, e, z⟩
    · exact .inl l
    · exact .inr ⟨k, c, e, cellK x c e _ z⟩
  · obtain ⟨v, z⟩ := I.cell x c e
    exact ⟨v, cellK x c e v z⟩
  · obtain ⟨m, ⟨o, _, _, ho, _⟩, _⟩ := I.loc
    exact free _ o (fun z => (hch _ z).2.1 rfl) ho I.free
  · obtain ⟨v, o, ho, hd⟩ := I.cell x c e
    exact free c o (fun z => (hch c z).2.2.1 x c e rfl) ho (I.freeC x c e)
  · obtain ⟨e, n, ne, nf, d⟩ := I.pin p hp
    have nch : p.1 ∉ ch := fun z => (hch p.1 z).2.2.2 p hp rfl
    exact ⟨keep p.1 p.2 ne nf nch e n, free p.1 p.2 nch e n, ne, nf, d⟩
/-- .. where the frame's own object is kept too -/
theorem Inv.un {t' : Nat} (I : Inv X pins σ H s) (u : Un X.fs [] H H' s.heap h') (hok : HOk X.prog X.w H' h') : Inv X pins σ H' { s with heap := h', toks := t' } := by
  obtain ⟨m, ⟨o, es, ep, ho, r⟩, _⟩ := id I.loc
  obtain ⟨sl, hL⟩ := u.any ho I.free (by simp)
  exact I.step (g' := s.gens) (d' := s.drawn) (ch := []) (fun _ z => nomatch z) (fun b o _ hb _ e n => u.keep b o e n hb (by simp)) (fun b o _ hb _ e n => u.slot b o e n hb (by simp)) (fun b o _ e n => u.free b o e n (by simp)) (fun b o _ e => u.there b o e (by simp)) u.tups u.frzs u.tbls (fun m' hm => by
    obtain ⟨o', es', ep', ho', r'⟩ := hm
    rw [ho] at ho'; cases ho'
    exact ⟨_, es', ep', hL, r'⟩) hok I.bare
/-- behind a call (or a comprehension's block): the slots of this frame may have changed too, the records at ch may have turned -/
theorem Inv.call {g' : Array GenState} {t' : Nat} {d' : Drawn} {ch : List Addr} (I : Inv X pins σ H s) (u : Un (frs X.stack) ch H H' s.heap h') (hok : HOk X.prog X.w H' h') (hg : AllBare g')
    (hch : ∀ b ∈ ch, (b ∈ X.ex ∨ X.s_0.heap.objs.size ≤ b) ∧ b ≠ X.env.locals ∧ (∀ x c, X.env.cells.lookup x = some c → c ≠ b) ∧ ∀ p ∈ X.pn ++ pins, p.1 ≠ b) :
    Inv X pins σ H' { s with heap := h', gens := g', drawn := d', toks := t' } := by
  obtain ⟨m, ⟨o, es, ep, ho, r⟩, _⟩ := id I.loc
  obtain ⟨sl, hL⟩ := u.any ho I.free fun z => (hch _ z).2.1 rfl
  exact I.step (ch := ch) hch (fun b o hL hb hc e n => u.keep b o e n (fun z => (List.mem_cons.mp (I.stkSub b z)).elim hL hb) hc) (fun b o _ _ hc e n => u.any e n hc) (fun b o hc e n => u.free b o e n hc) (fun b o hc e => u.there b o e hc) u.tups u.frzs u.tbls (fun m' hm => by
    obtain ⟨o', es', ep', ho', r'⟩ := hm
    rw [ho] at ho'; cases ho'
    exact ⟨_, es', ep', hL, r'⟩) hok hg
/-- an untracked record of ours (an iterator) has turned -/
theorem Inv.turned {t' : Nat} {it : Addr} (I : Inv X pins σ H s) (k : ∀ b o, b ≠ it → s.heap.get? b = some o → h'.get? b = some o) (hn : H it = none) (hL : it ≠ X.env.locals)
    (h1 : it ∈ X.ex ∨ X.s_0.heap.objs.size ≤ it) (h2 : ∀ x c, X.env.cells.lookup x = some c → c ≠ it) (h3 : ∀ p ∈ X.pn ++ pins, p.1 ≠ it) : Inv X pins σ H { s with heap := h', toks := t' } := by
  have nit : ∀ b u, H b = some u → b ≠ it := fun b u e z => by rw [z, hn] at e; cases e
  refine I.step (g' := s.gens) (d' := s.drawn) (ch := [it]) (fun b hb => ?_) (fun b o _ _ hc e _ => k b o (fun z => hc (by simp [z])) e) (fun b o _ _ hc e _ => ⟨o.slots, k b o (fun z => hc (by simp [z])) e⟩) (fun _ _ _ _ n => n)
    (fun b o hc e => ⟨o, k b o (fun z => hc (by simp [z])) e⟩) (fun _ _ e => e) (fun _ _ _ e => e) (fun b ps e => ⟨#[], by rw [e]; simp⟩) (fun m hm => ?_) (fun b u e => ?_) I.bare
  · have e : b = it := by simpa using hb
    subst e
    exact ⟨h1, hL, h2, h3⟩
  · obtain ⟨o, es, ep, ho, r⟩ := hm
    exact ⟨o, es, ep, k _ o (Ne.symm hL) ho, r⟩
  · refine (I.hok b u e).stay (fun c v hc q => k c v ?_ q) (fun _ q => q) fun _ _ q => q
    rcases hc with z | z
    · rw [z]; exact nit b u e
    · exact nit c _ z
theorem Inv.tok (I : Inv X pins σ H s) (t : Nat) : Inv X pins σ H { s with toks := t } := I.un (h' := s.heap) (t' := t) Un.refl I.hok
/-- all objects kept -/
theorem Inv.kept {t' : Nat} (I : Inv X pins σ H s) (k : ∀ b u, s.heap.get? b = some u → h'.get? b = some u) : Inv X pins σ H { s with heap := h', toks := t' } := I.un (Un.kept k) (I.hok.kept k)
/-- a new object laid and tracked -/
theorem Inv.laid {a : Addr} {o : HO} {t' : Nat} (I : Inv X pins σ H s) (k : ∀ b u, s.heap.get? b = some u → h'.get? b = some u) (hp : s.heap.objs.size ≤ a) (new : ObjOk X.prog X.w (upd H a o) h' a o) :
    Inv X pins σ (upd H a o) { s with heap := h', toks := t' } := I.un (Un.laid k hp (I.hok.fresh hp)) (I.hok.laid k hp new)
/-- an object written -/
theorem Inv.write {x e : Addr} {o : HO} {t' : Nat} (I : Inv X pins σ H s) (mu : Mut (H x)) (he : e = x ∨ H e = some (.own x)) (k : ∀ b u, b ≠ e → s.heap.get? b = some u → h'.get? b = some u) (heo : ∃ u, h'.get? e = some u)
    (new : ObjOk X.prog X.w (upd H x o) h' x o) : Inv X pins σ (upd H x o) { s with heap := h', toks := t' } := I.un (Un.write mu he k heo) (I.hok.write mu he k heo new)
/-- forgetting slots, pins -/
theorem Inv.weak {σ' : List (Option V)} (I : Inv X pins σ H s) (hl : σ'.length = σ.length) (w : ∀ (i : Nat) v, σ'[i]? = some (some v) → σ[i]? = some (some v)) : Inv X pins σ' H s :=
  ⟨I.ok, I.os, I.bare, I.base, let ⟨m, hn, hl'⟩ := I.loc; ⟨m, hn, fun i x v e1 e2 e3 => hl' i x v e1 (w i v e2) e3⟩, I.cell, I.free, I.freeC, I.pin, I.hok, hl.trans I.len⟩
theorem Inv.pins_of {pins' : List (Addr × Obj)} (I : Inv X pins σ H s) (h : ∀ p ∈ pins', s.heap.get? p.1 = some p.2 ∧ H p.1 = none ∧ p.1 ≠ X.env.locals ∧ p.1 ∉ X.fs ∧ ∀ v, p.2.data ≠ .cell v) : Inv X pins' σ H s :=
  ⟨I.ok, I.os, I.bare, I.base, I.loc, I.cell, I.free, I.freeC, fun p hp => (List.mem_append.mp hp).elim (fun z => I.pin p (List.mem_append_left _ z)) (h p), I.hok, I.len⟩

theorem nodup_ix {N : List Str} (hN : N.Nodup) {i j : Nat} {x : Str} (a : N[i]? = some x) (b : N[j]? = some x) : i = j := by
  obtain ⟨h1, e1⟩ := List.getElem?_eq_some_iff.mp a
  obtain ⟨h2, e2⟩ := List.getElem?_eq_some_iff.mp b
  exact (List.getElem_inj hN).mp (e1.trans e2.symm)

/-- a name is stored; what changed -/
theorem store_ok2 {M : Model} {A : Around} {E : Value → Shared → Prop} {i : Nat} {x : Str} {v : V} {u : Value} {Q : Unit → Shared → Prop} (I : Inv X pins σ H s) (hN : X.N.Nodup) (hi : X.N[i]? = some x) (hx : Loc X.env.scope x) (r : RelV v u)
    (h : ∀ s', Inv X pins (σ.set i (some v)) H s' → (∃ a, Heap.SameBut a s.heap s'.heap ∧ (a = X.env.locals ∨ X.env.cells.lookup x = some a)) → Q () s') (hf : X.fn x = true ∨ X.env.scope.names.lookup x = some .local := by first | exact .inl rfl | exact .inr rfl | assumption) : wpAny M A (storeName X.env x u) Q E s := by
  obtain ⟨m, hn, hl⟩ := id I.loc
  have hcls : (X.env.scope.kind == .class || (X.env.scope.kind == .module && X.env.locals != X.env.globals)) = false := by rw [I.ok.kind]; rfl
  have hiσ : i < σ.length := by rw [I.len]; exact (List.getElem?_eq_some_iff.mp hi).1
  have cne := I.cne
  have tracked : ∀ {a : Addr} {h' : Heap}, (∃ o, s.heap.get? a = some o ∧ H a = none) → Heap.SameBut a s.heap h' → HOk X.prog X.w H h' := fun {a h'} ha hs b ob e => by
    obtain ⟨_, _, hfree⟩ := ha
    refine (I.hok b ob e).stay (fun c w' hc q => (hs.2 c ?_).trans q) (fun _ q => q) fun _ _ q => q
    rintro rfl
    rcases hc with rfl | hc
    · rw [hfree] at e; cases e
    · rw [hfree] at hc; cases hc
  rcases hx with hk | hk
  · refine wpAny_storeName_local hk hn (fun h' hn' hs => ?_) hcls
    obtain ⟨oL, _, _, hoL, _⟩ := id hn
    refine h _ ⟨I.ok, I.os, I.bare, ⟨fun b o e n hb hx => ?_, fun b o e n hb hx => ?_, I.base.free, fun b o e hx => ?_, I.base.tups, I.base.frzs, I.base.tbls⟩, ⟨_, hn', fun j y v' e1 e2 e3 => ?_⟩, fun y c e => ?_, I.free, I.freeC, fun p hp => ?_, tracked ⟨oL, hoL, I.free⟩ hs, by simpa using I.len⟩ ⟨_, hs, .inl rfl⟩
    · exact (hs.2 b (Nat.ne_of_lt (Nat.lt_of_lt_of_le (Heap.lt_size e) I.ok.above))).trans (I.base.keep b o e n hb hx)
    · obtain ⟨sl, e1⟩ := I.base.slot b o e n hb hx
      exact ⟨sl, (hs.2 b (Nat.ne_of_lt (Nat.lt_of_lt_of_le (Heap.lt_size e) I.ok.above))).trans e1⟩
    · obtain ⟨o', e1⟩ := I.base.there b o e hx
      exact ⟨o', (hs.2 b (Nat.ne_of_lt (Nat.lt_of_lt_of_le (Heap.lt_size e) I.ok.above))).trans e1⟩
    · by_cases hj : j = i
      · subst hj
        rw [hi] at e1; cases e1
        rw [List.getElem?_set_self hiσ] at e2
        cases e2
        exact ⟨u, r, .inl ⟨hk, by simp⟩⟩
      · rw [List.getElem?_set_ne (Ne.symm hj)] at e2
        obtain ⟨u', r', q⟩ := hl j y v' e1 e2 e3
        refine ⟨u', r', ?_⟩
        rcases q with ⟨k, e⟩ | ⟨k, c, e, z⟩
        · refine .inl ⟨k, ?_⟩
          have : y ≠ x := fun e => hj (nodup_ix hN e1 (e ▸ hi))
          simp [this, e]
        · exact .inr ⟨k, c, e, z.sameBut hs (cne y c e)⟩
    · obtain ⟨w', z⟩ := I.cell y c e
      exact ⟨w', z.sameBut hs (cne y c e)⟩
    · obtain ⟨e, n, ne, nf, d⟩ := I.pin p hp
      exact ⟨(hs.2 p.1 ne).trans e, n, ne, nf, d⟩
  · have hfn : X.fn x = true := by
      rcases hf with z | z
      · exact z
      · rw [z] at hk; cases hk
    obtain ⟨c, hc⟩ := I.ok.has x (.inl hk)
    obtain ⟨w', z⟩ := I.cell x c hc
    refine wpAny_storeName_cell I.ok.kind hk hc z (fun h' hc' hs => ?_)
    obtain ⟨oc, hoc, hocd⟩ := id z
    refine h { s with heap := h' } ⟨I.ok, I.os, I.bare, ⟨fun b o e n hb hx => ?_, fun b o e n hb hx => ?_, I.base.free, fun b o e hx => ?_, I.base.tups, I.base.frzs, I.base.tbls⟩, ⟨m, hn.sameBut hs (Ne.symm (cne x c hc)), fun j y v' e1 e2 e3 => ?_⟩, fun y c' e => ?_, I.free, I.freeC, fun p hp => ?_, tracked ⟨oc, hoc, I.freeC x c hc⟩ hs, by simpa using I.len⟩ ⟨c, hs, .inr hc⟩
    · exact (hs.2 b (Nat.ne_of_lt (Nat.lt_of_lt_of_le (Heap.lt_size e) (I.ok.cab x c hfn hc)))).trans (I.base.keep b o e n hb hx)
    · obtain ⟨sl, e1⟩ := I.base.slot b o e n hb hx
      exact ⟨sl, (hs.2 b (Nat.ne_of_lt (Nat.lt_of_lt_of_le (Heap.lt_size e) (I.ok.cab x c hfn hc)))).trans e1⟩
    · obtain ⟨o', e1⟩ := I.base.there b o e hx
      exact ⟨o', (hs.2 b (Nat.ne_of_lt (Nat.lt_of_lt_of_le (Heap.lt_size e) (I.ok.cab x c hfn hc)))).trans e1⟩
    · by_cases hj : j = i
      · subst hj
        rw [hi] at e1; cases e1
        rw [List.getElem?_set_self hiσ] at e2
        cases e2
        exact ⟨u, r, .inr ⟨.inl hk, c, hc, hc'⟩⟩
      · rw [List.getElem?_set_ne (Ne.symm hj)] at e2
        obtain ⟨u', r', q⟩ := hl j y v' e1 e2 e3
        refine ⟨u', r', ?_⟩
        rcases q with q | ⟨k, c', e, z'⟩
        · exact .inl q
        · refine .inr ⟨k, c', e, z'.sameBut hs ?_⟩
          rintro rfl
          exact hj (nodup_ix hN e1 (I.ok.inj _ _ _ e hc ▸ hi))
    · by_cases hcc : c' = c
      · subst hcc; exact ⟨_, hc'⟩
      · obtain ⟨w2, z2⟩ := I.cell y c' e
        exact ⟨w2, z2.sameBut hs hcc⟩
    · obtain ⟨e, n, ne, nf, d⟩ := I.pin p hp
      refine ⟨(hs.2 p.1 ?_).trans e, n, ne, nf, d⟩
      intro q
      rw [q, hoc] at e
      have q' : oc = p.2 := Option.some.inj e
      exact d w' (by rw [← q']; exact hocd)
theorem store_ok {M : Model} {A : Around} {E : Value → Shared → Prop} {i : Nat} {x : Str} {v : V} {u : Value} {Q : Unit → Shared → Prop} (I : Inv X pins σ H s) (hN : X.N.Nodup) (hi : X.N[i]? = some x) (hx : Loc X.env.scope x) (r : RelV v u)
    (h : ∀ s', Inv X pins (σ.set i (some v)) H s' → Q () s') (hf : X.fn x = true ∨ X.env.scope.names.lookup x = some .local := by first | exact .inl rfl | exact .inr rfl | assumption) : wpAny M A (storeName X.env x u) Q E s :=
  store_ok2 I hN hi hx r (fun s' I' _ => h s' I') hf
/-- behind a call or a block, the state as it is -/
theorem Inv.call' {s' : Shared} {ch : List Addr} (I : Inv X pins σ H s) (ho : s'.os = s.os) (u : Un (frs X.stack) ch H H' s.heap s'.heap) (hok : HOk X.prog X.w H' s'.heap) (hg : AllBare s'.gens)
    (hch : ∀ b ∈ ch, (b ∈ X.ex ∨ X.s_0.heap.objs.size ≤ b) ∧ b ≠ X.env.locals ∧ (∀ x c, X.env.cells.lookup x = some c → c ≠ b) ∧ ∀ p ∈ X.pn ++ pins, p.1 ≠ b) : Inv X pins σ H' s' := by
  obtain ⟨h', g', d', t', o'⟩ := s'
  have e : o' = s.os := ho
  subst e
  exact I.call (g' := g') (t' := t') (d' := d') u hok hg hch
end

/-! ### the judgements -/
/-- an exception: its class, its own dict's address (where it has one), the abstract heap behind it -/
abbrev XK := Value → Option Addr → Hp → Prop
abbrev St := List (Option V)
abbrev VK := V → Hp → Prop
/-- an expression's reading; a test's; an argument list's -/
abbrev TE := St → Hp → VK → Prop
abbrev TT := St → Hp → (Bool → Hp → Prop) → Prop
abbrev TA := St → Hp → (List V → Hp → Prop) → Prop
/-- what is wanted behind a statement -/
structure Ends where
  nx : St → Hp → Prop
  rt : VK
  bk : St → Hp → Prop := fun _ _ => False
  ct : St → Hp → Prop := fun _ _ => False
abbrev TS := Ends → St → Hp → Prop

def EP (X : Cx) (pins : List (Addr × Obj)) (σ : St) (Q : VK) (u : Value) (s' : Shared) : Prop := ∃ v H', Inv X pins σ H' s' ∧ RelV v u ∧ Q v H'
def TP (X : Cx) (pins : List (Addr × Obj)) (σ : St) (Q : Bool → Hp → Prop) (b : Bool) (s' : Shared) : Prop := ∃ H', Inv X pins σ H' s' ∧ Q b H'
def AP (X : Cx) (pins : List (Addr × Obj)) (σ : St) (Q : List V → Hp → Prop) (us : List Value) (s' : Shared) : Prop := ∃ vs H', Inv X pins σ H' s' ∧ Vals vs us ∧ Q vs H'
def SP (X : Cx) (pins : List (Addr × Obj)) (D : Ends) (f : Flow) (s' : Shared) : Prop :=
  match f with
  | .next => ∃ σ' H', Inv X pins σ' H' s' ∧ D.nx σ' H'
  | .brk => ∃ σ' H', Inv X pins σ' H' s' ∧ D.bk σ' H'
  | .cont => ∃ σ' H', Inv X pins σ' H' s' ∧ D.ct σ' H'
  | .ret u => ∃ v σ' H', Inv X pins σ' H' s' ∧ RelV v u ∧ D.rt v H'

def PE (X : Cx) (e : Expr) (t : TE) : Prop :=
  ∀ (pins : List (Addr × Obj)) (s : Shared) (σ : St) (H : Hp) (Q : VK), Inv X pins σ H s → t σ H Q → wpAny (model X.prog X.w) X.A (eval e X.env) (EP X pins σ Q) X.xe s
def PT (X : Cx) (e : Expr) (t : TT) : Prop :=
  ∀ (pins : List (Addr × Obj)) (s : Shared) (σ : St) (H : Hp) (Q : Bool → Hp → Prop), Inv X pins σ H s → t σ H Q → wpAny (model X.prog X.w) X.A (isTrue e X.env (eval e X.env)) (TP X pins σ Q) X.xe s
/-- a test whatever its 'whole' is (and, or) -/
def PW (X : Cx) (e : Expr) (t : TT) : Prop :=
  ∀ (whole : Sem Value) (pins : List (Addr × Obj)) (s : Shared) (σ : St) (H : Hp) (Q : Bool → Hp → Prop), Inv X pins σ H s → t σ H Q → wpAny (model X.prog X.w) X.A (isTrue e X.env whole) (TP X pins σ Q) X.xe s
theorem PW.pt {X : Cx} {e : Expr} {t : TT} (h : PW X e t) : PT X e t := h _
/-- an argument list (no star), from the left -/
def PA (X : Cx) (es : List Expr) (t : TA) : Prop :=
  ∀ (pos : Pos) (pins : List (Addr × Obj)) (s : Shared) (σ : St) (H : Hp) (Q : List V → Hp → Prop), Inv X pins σ H s → t σ H Q → wpAny (model X.prog X.w) X.A (spliced (backTo pos (starEach es X.env))) (AP X pins σ Q) X.xe s
def PS (X : Cx) (st : Stmt) (t : TS) : Prop :=
  ∀ (pins : List (Addr × Obj)) (s : Shared) (σ : St) (H : Hp) (D : Ends), Inv X pins σ H s → t D σ H → wpAny (model X.prog X.w) X.A (exec st X.env) (SP X pins D) X.xe s
def PSs (X : Cx) (st : List Stmt) (t : TS) : Prop :=
  ∀ (pins : List (Addr × Obj)) (s : Shared) (σ : St) (H : Hp) (D : Ends), Inv X pins σ H s → t D σ H → wpAny (model X.prog X.w) X.A (execs st X.env) (SP X pins D) X.xe s
/-- weaken the end -/
theorem thn {α : Type} {t : Sem α} {Q Q' : α → Shared → Prop} {M : Model} {A : Around} {E : Value → Shared → Prop} {s : Shared} (h : wpAny M A t Q E s) (hQ : ∀ a s, Q a s → Q' a s) : wpAny M A t Q' E s := wpAny_mono h hQ fun _ _ x => x
end L2

namespace L2
open PySem PySem.Spec PyProof.Rows
section
variable {X : Cx}

/-- two expressions in a row -/
theorem bin {a b : Expr} {ta tb : TE} (ha : PE X a ta) (hb : PE X b tb) {pins : List (Addr × Obj)} {s : Shared} {σ : St} {H : Hp} {R : V → V → Hp → Prop} (I : Inv X pins σ H s) (h : ta σ H fun x H1 => tb σ H1 fun y H2 => R x y H2)
    {α : Type} {Q : α → Shared → Prop} {f : Value → Value → Sem α}
    (hf : ∀ v u s2 x y H2, Inv X pins σ H2 s2 → RelV x v → RelV y u → R x y H2 → wpAny (model X.prog X.w) X.A (f v u) Q X.xe s2) :
    wpAny (model X.prog X.w) X.A (eval a X.env) (fun v s₁ => wpAny (model X.prog X.w) X.A (eval b X.env) (fun u s₂ => wpAny (model X.prog X.w) X.A (f v u) Q X.xe s₂) X.xe s₁) X.xe s := by
  refine thn (ha pins s σ H _ I h) fun v s1 ⟨x, H1, I1, r1, q1⟩ => ?_
  refine thn (hb pins s1 σ H1 _ I1 q1) fun u s2 ⟨y, H2, I2, r2, q2⟩ => ?_
  exact hf v u s2 x y H2 I2 r1 r2 q2

/-! ### names and constants -/
def tVar (i : Nat) : TE := fun σ H Q => ∃ v, σ[i]? = some (some v) ∧ Q v H
def tC (v : V) : TE := fun _ H Q => Q v H
theorem pe_var {i : Nat} {x : Str} {pos : Pos} (hN : X.N[i]? = some x) (hv : Vis X.env.scope x) (hd : (x == ("__debug__" : Str)) = false := by decide) (hcd : (x == ("__classdict__" : Str)) = false := by decide) : PE X (.Name x pos) (tVar i) := by
  intro pins s σ H Q I h
  obtain ⟨v, e, h⟩ := h
  obtain ⟨m, hn, hl⟩ := I.loc
  obtain ⟨u, r, l⟩ := hl i x v hN e hv
  have fin : EP X pins σ Q u s := ⟨v, H, I, r, h⟩
  rcases l with ⟨hk, hm⟩ | ⟨hk, c, hc, hcell⟩
  · exact wpAny_Name (wpAny_loadName_local I.ok.kind hk hn hm fin) hd
  · rcases hk with hk | hk
    · exact wpAny_Name (wpAny_loadName_cell I.ok.kind hk hc hcell fin) hd
    · exact wpAny_Name (wpAny_loadName_free I.ok.kind hk hc hcell fin hcd) hd
theorem pe_int {i j pos} : PE X (.Constant (.int i) j pos) (tC (.int i)) := fun _ _ _ H _ I h => wpAny_Constant_int ⟨.int i, H, I.tok _, ⟨_, rfl⟩, h⟩
theorem pe_bl {b j pos} : PE X (.Constant (.bool b) j pos) (tC (.bl b)) := fun _ _ _ H _ I h => Constant_bool ⟨.bl b, H, I, rfl, h⟩

/-- a global name of the def -/
def Gl (X : Cx) (x : Str) : Prop := X.env.kindOf x = some .globalImplicit
theorem ld_glob {E : Value → Shared → Prop} {pins : List (Addr × Obj)} {s : Shared} {σ : St} {H : Hp} {x : Str} {u : Value} {pos : Pos} {Q : Value → Shared → Prop} (I : Inv X pins σ H s) (hg : Gl X x) (hm : X.mg x = some u) (h : Q u s)
    (hd : (x == ("__debug__" : Str)) = false := by decide) : wpAny (model X.prog X.w) X.A (eval (.Name x pos) X.env) Q E s :=
  Calls.Name_function_global I.ok.kind hg (Calls.loadGlobal_global (by rw [I.ok.glob]; exact I.mod.glob.keeps I.bk) hm h) hd
theorem ld_blt {E : Value → Shared → Prop} {pins : List (Addr × Obj)} {s : Shared} {σ : St} {H : Hp} {x : Str} {u : Value} {pos : Pos} {Q : Value → Shared → Prop} (I : Inv X pins σ H s) (hg : Gl X x) (hm : X.mg x = none) (hv : bootBuiltins x = some u) (h : Q u s)
    (hn : x ≠ "__name__" := by decide) (hd : (x == ("__debug__" : Str)) = false := by decide) : wpAny (model X.prog X.w) X.A (eval (.Name x pos) X.env) Q E s := by
  obtain ⟨mb, h1, h2⟩ := I.mod.blt
  exact Calls.Name_function_global I.ok.kind hg (Calls.loadGlobal_builtin (by rw [I.ok.glob]; exact I.mod.glob.keeps I.bk) hm (by rw [I.ok.blt]; exact h1.keeps I.bk) ((h2 x hn).trans hv) h) hd
/-- a module's constant, a class, a function, as a value -/
theorem pe_glob {x : Str} {v : V} {u : Value} {pos : Pos} (hg : Gl X x) (hm : X.mg x = some u) (r : RelV v u) (hd : (x == ("__debug__" : Str)) = false := by decide) : PE X (.Name x pos) (tC v) :=
  fun _ _ _ H _ I h => ld_glob I hg hm ⟨v, H, I, r, h⟩ hd

/-! ### arithmetic -/
variable {a b : Expr} {ta tb : TE} {pos : Pos}

/-! ### comparisons -/
def PC (X : Cx) (op : CmpOp) (a b : Expr) (t : TE) : Prop :=
  ∀ (pins : List (Addr × Obj)) (s : Shared) (σ : St) (H : Hp) (Q : VK), Inv X pins σ H s → t σ H Q →
    wpAny (model X.prog X.w) X.A (eval a X.env) (fun v s₁ => wpAny (model X.prog X.w) X.A (eval b X.env) (fun u s₂ => wpAny (model X.prog X.w) X.A (compareOp op v u) (EP X pins σ Q) X.xe s₂) X.xe s₁) X.xe s
theorem nobehind (b : Expr) {op : CmpOp} (h : op ≠ .In) (h2 : op ≠ .NotIn) : behindInMarks op b = false := by
  have e1 : (op == CmpOp.In) = false := by cases op <;> first | rfl | exact absurd rfl h
  have e2 : (op == CmpOp.NotIn) = false := by cases op <;> first | rfl | exact absurd rfl h2
  cases b <;> simp [behindInMarks, e1, e2]
/-- is None -/
def tIsN (ta : TE) : TE := fun σ H Q => ta σ H fun x H1 => Q (.bl (decide (x = .non))) H1
theorem RelV.none_iff {x : V} {v : Value} (r : RelV x v) : (v == Value.none) = decide (x = .non) := by
  cases x with
  | non => cases r; rfl
  | bl _ => cases r; rfl
  | int _ => obtain ⟨t, rfl⟩ := r; rfl
  | str _ => obtain ⟨t, rfl⟩ := r; rfl
  | byt _ => obtain ⟨t, rfl⟩ := r; rfl
  | flt _ => obtain ⟨t, rfl⟩ := r; rfl
  | ref _ => cases r; rfl
  | ty _ => cases r; rfl
theorem pc_isN {j pos'} (ha : PE X a ta) : PC X .Is a (.Constant .none j pos') (tIsN ta) := by
  intro pins s σ H Q I h
  refine thn (ha pins s σ H _ I h) fun v s1 ⟨x, H1, I1, r1, q1⟩ => ?_
  exact Constant_none (is_none_gen ⟨.bl _, H1, I1, by rw [r1.none_iff]; rfl, q1⟩)
/-- a comparison as a value, as a test -/
def tB (t : TE) : TT := fun σ H Q => t σ H fun x H1 => ∃ c, x = .bl c ∧ Q c H1
theorem pt_cmp {op : CmpOp} {t : TE} (h : PC X op a b t) (h1 : behindInMarks op b = false := by first | exact nobehind _ (by decide) (by decide) | rfl) : PT X (.Compare a [op] [b] pos) (tB t) := by
  intro pins s σ H Q I hw
  refine wpAny_isTrue_Compare1 (thn (h pins s σ H _ I hw) fun v s1 h1 => thn h1 fun u s2 h2 => thn h2 fun c s3 ⟨x, H1, I1, r1, q1⟩ => ?_) h1
  obtain ⟨d, rfl, q⟩ := q1
  cases r1
  exact wpAny_truthy_bool ⟨H1, I1, q⟩
/-- an expression whose value is a bool, as a test -/
theorem pt_val {e : Expr} {t : TE} (h : PE X e t) (he : ∀ whole, isTrue e X.env whole = (do let v ← whole; standAt e.pos; holding [v] (truthy v)) := by intro _; rfl) : PT X e (tB t) := by
  intro pins s σ H Q I hw
  refine isTrue_plain (thn (h pins s σ H _ I hw) fun v s1 ⟨x, H1, I1, r1, q1⟩ => ?_) (he _)
  obtain ⟨d, rfl, q⟩ := q1
  cases r1
  exact wpAny_truthy_bool ⟨H1, I1, q⟩

/-! ### and, or, not -/
variable {tA tB' : TT} {rest : List Expr}
def tAnd (t u : TT) : TT := fun σ H Q => t σ H fun c H1 => if c = true then u σ H1 Q else Q false H1
def tOr (t u : TT) : TT := fun σ H Q => t σ H fun c H1 => if c = true then Q true H1 else u σ H1 Q
def tNot (t : TT) : TT := fun σ H Q => t σ H fun c H1 => Q (!c) H1
theorem pw_and1 (ha : PT X a tA) : PW X (.BoolOp .And [a] pos) tA := by
  intro wh pins s σ H Q I h
  refine isTrue_and (thn (ha pins s σ H Q I h) fun c s1 e => ?_)
  cases c with
  | true => exact isTrue_and_nil e
  | false => exact e
theorem pw_or1 (ha : PT X a tA) : PW X (.BoolOp .Or [a] pos) tA := by
  intro wh pins s σ H Q I h
  refine isTrue_or (thn (ha pins s σ H Q I h) fun c s1 e => ?_)
  cases c with
  | false => exact isTrue_or_nil e
  | true => exact e
theorem pw_and (ha : PT X a tA) (hb : PW X (.BoolOp .And (b :: rest) pos) tB') : PW X (.BoolOp .And (a :: b :: rest) pos) (tAnd tA tB') := by
  intro wh pins s σ H Q I h
  refine isTrue_and (thn (ha pins s σ H _ I h) fun c s1 ⟨H1, I1, q1⟩ => ?_)
  cases c with
  | true => exact hb wh pins s1 σ H1 Q I1 q1
  | false => exact ⟨H1, I1, q1⟩
theorem pw_or (ha : PT X a tA) (hb : PW X (.BoolOp .Or (b :: rest) pos) tB') : PW X (.BoolOp .Or (a :: b :: rest) pos) (tOr tA tB') := by
  intro wh pins s σ H Q I h
  refine isTrue_or (thn (ha pins s σ H _ I h) fun c s1 ⟨H1, I1, q1⟩ => ?_)
  cases c with
  | true => exact ⟨H1, I1, q1⟩
  | false => exact hb wh pins s1 σ H1 Q I1 q1
theorem pt_not (ha : PT X a tA) : PT X (.UnaryOp .Not a pos) (tNot tA) := by
  intro pins s σ H Q I h
  exact isTrue_not (ha pins s σ H (fun c H1 => Q (!c) H1) I h)
end
end L2

namespace L2
open PySem PySem.Spec PyProof.Rows

/-! ### a list, a tuple that is read: tracked, frozen, or an object of the module -/
def SqL (K : PySem.W.Frag) (H : Hp) (a : Addr) (xs : List V) : Prop :=
  Rd H a (.lst xs) ∨
    ∃ (o : Obj) (its : Array Value) (n : Nat), K.lookup a = some o ∧ o.cls = .type "list" ∧ o.dict = none ∧ o.data = .seq its n ∧ its.size ≤ sizeLine ∧ Vals xs its.toList
def SqT (K : PySem.W.Frag) (H : Hp) (a : Addr) (xs : List V) : Prop :=
  Rd H a (.tup xs) ∨
    ∃ (o : Obj) (its : Array Value) (n : Nat), K.lookup a = some o ∧ o.cls = .type "tuple" ∧ o.data = .seq its n ∧ its.size ≤ sizeLine ∧ Vals xs its.toList
def absV : Value → Option V
  | .none => some .non
  | .bool b => some (.bl b)
  | .int i _ => some (.int i)
  | .str x _ => some (.str x)
  | .bytes b _ => some (.byt b)
  | .float b _ => some (.flt b)
  | .ref a => some (.ref a)
  | .type n => some (.ty n)
  | _ => none
theorem RelV.abs {x : V} {u : Value} (r : RelV x u) : absV u = some x := by
  cases x with
  | non => cases r; rfl
  | bl _ => cases r; rfl
  | int _ => obtain ⟨t, rfl⟩ := r; rfl
  | str _ => obtain ⟨t, rfl⟩ := r; rfl
  | byt _ => obtain ⟨t, rfl⟩ := r; rfl
  | flt _ => obtain ⟨t, rfl⟩ := r; rfl
  | ref _ => cases r; rfl
  | ty _ => cases r; rfl
theorem RelV.inj {x y : V} {u : Value} (r : RelV x u) (q : RelV y u) : x = y := Option.some.inj (r.abs.symm.trans q.abs)
theorem Vals.inj : ∀ {xs ys : List V} {us : List Value}, Vals xs us → Vals ys us → xs = ys
  | _, _, _, .nil, .nil => rfl
  | _, _, _, .cons r t, .cons r' t' => by rw [r.inj r', Vals.inj t t']
section
variable {X : Cx} {pins : List (Addr × Obj)} {σ : St} {H : Hp} {s : Shared} {a : Addr} {xs ys : List V}
theorem SqL.of {K : PySem.W.Frag} (h : H a = some (.lst xs)) : SqL K H a xs := .inl (.inl h)
theorem SqT.of {K : PySem.W.Frag} (h : H a = some (.tup xs)) : SqT K H a xs := .inl (.inl h)
theorem Inv.list (I : Inv X pins σ H s) (h : SqL X.K H a xs) : ∃ its : List Value, Vals xs its ∧ PlainL s.heap a its.toArray ∧ xs.length ≤ sizeLine := by
  rcases h with h | ⟨o, its, n, hk, hc, hd, hs, hz, r⟩
  · obtain ⟨z, its, n, r, e⟩ := h.ok I.hok
    exact ⟨its, r, ⟨_, n, e, rfl, rfl, rfl⟩, z⟩
  · refine ⟨its.toList, r, ⟨o, n, I.kIn a o hk, hc, hd, by simpa using hs⟩, ?_⟩
    have e := r.length
    simp only [Array.length_toList] at e
    omega
theorem Inv.tuple (I : Inv X pins σ H s) (h : SqT X.K H a xs) : ∃ its : List Value, Vals xs its ∧ IsTup s.heap a its.toArray ∧ xs.length ≤ sizeLine := by
  rcases h with h | ⟨o, its, n, hk, hc, hs, hz, r⟩
  · obtain ⟨z, its, r, p⟩ := h.ok I.hok
    exact ⟨its, r, p, z⟩
  · refine ⟨its.toList, r, ⟨o, I.kIn a o hk, hc, n, by simpa using hs⟩, ?_⟩
    have e := r.length
    simp only [Array.length_toList] at e
    omega
theorem Inv.list_inj (I : Inv X pins σ H s) (h : SqL X.K H a xs) (h' : SqL X.K H a ys) : xs = ys := by
  obtain ⟨its, r, ⟨o, n, e, _, _, d⟩, _⟩ := I.list h
  obtain ⟨its', r', ⟨o', n', e', _, _, d'⟩, _⟩ := I.list h'
  rw [e] at e'; cases e'
  rw [d] at d'
  injection d' with d1 _
  have : its = its' := by simpa using congrArg Array.toList d1
  subst this
  exact r.inj r'
theorem Inv.tuple_inj (I : Inv X pins σ H s) (h : SqT X.K H a xs) (h' : SqT X.K H a ys) : xs = ys := by
  obtain ⟨its, r, ⟨o, e, _, n, d⟩, _⟩ := I.tuple h
  obtain ⟨its', r', ⟨o', e', _, n', d'⟩, _⟩ := I.tuple h'
  rw [e] at e'; cases e'
  rw [d] at d'
  injection d' with d1 _
  have : its = its' := by simpa using congrArg Array.toList d1
  subst this
  exact r.inj r'
end

/-! ### another wish about exceptions -/
abbrev Cx.wish (X : Cx) (E : Value → Shared → Prop) : Cx := { X with xe := E }
/-- no exception leaves -/
abbrev Cx.nox (X : Cx) : Cx := X.wish fun _ _ => False
theorem Cx.Ok.wish {X : Cx} (ok : X.Ok) (E : Value → Shared → Prop) : (X.wish E).Ok :=
  ⟨ok.mod, ok.kind, ok.glob, ok.blt, ok.above, ok.inj, ok.has, ok.cab, ok.hd, ok.frames, ok.stk, ok.exf, ok.bs, ok.bsz, ok.noex, ok.exfs, ok.funs, ok.frf⟩
theorem Cx.Ok.unwish {X : Cx} {E : Value → Shared → Prop} (ok : (X.wish E).Ok) : X.Ok :=
  ⟨ok.mod, ok.kind, ok.glob, ok.blt, ok.above, ok.inj, ok.has, ok.cab, ok.hd, ok.frames, ok.stk, ok.exf, ok.bs, ok.bsz, ok.noex, ok.exfs, ok.funs, ok.frf⟩
section
variable {X : Cx} {pins : List (Addr × Obj)} {σ : St} {H : Hp} {s : Shared} {E : Value → Shared → Prop}
theorem Inv.wish (I : Inv X pins σ H s) (E : Value → Shared → Prop) : Inv (X.wish E) pins σ H s := ⟨I.ok.wish E, I.os, I.bare, I.base, I.loc, I.cell, I.free, I.freeC, I.pin, I.hok, I.len⟩
theorem Inv.unwish (I : Inv (X.wish E) pins σ H s) : Inv X pins σ H s := ⟨I.ok.unwish, I.os, I.bare, I.base, I.loc, I.cell, I.free, I.freeC, I.pin, I.hok, I.len⟩
theorem SP.unwish {D : Ends} {f : Flow} {s' : Shared} (h : SP (X.wish E) pins D f s') : SP X pins D f s' := by
  cases f with
  | next => obtain ⟨σ', H', I, q⟩ := h; exact ⟨σ', H', I.unwish, q⟩
  | brk => obtain ⟨σ', H', I, q⟩ := h; exact ⟨σ', H', I.unwish, q⟩
  | cont => obtain ⟨σ', H', I, q⟩ := h; exact ⟨σ', H', I.unwish, q⟩
  | ret u => obtain ⟨v, σ', H', I, r, q⟩ := h; exact ⟨v, σ', H', I.unwish, r, q⟩
theorem PSs.nox {st : List Stmt} {t : TS} (h : PSs X.nox st t) : PSs X st t := fun pins s σ H D I hw =>
  wpAny_mono (h pins s σ H D (I.wish _) hw) (fun _ _ q => q.unwish) fun _ _ z => False.elim z
end

/-! ### blocks and small statements -/
section
variable {X : Cx} {st : Stmt} {rest : List Stmt} {t u : TS} {e : Expr} {te : TE} {pos : Pos}
def tNext : TS := fun D σ H => D.nx σ H
def tSeq (t u : TS) : TS := fun D σ H => t { D with nx := u D } σ H
theorem pss_nil : PSs X [] tNext := fun _ _ σ H _ I h => wpAny_execs_nil ⟨σ, H, I, h⟩
theorem pss_cons (h1 : PS X st t) (h2 : PSs X rest u) : PSs X (st :: rest) (tSeq t u) := by
  intro pins s σ H D I h
  refine wpAny_execs_cons (thn (h1 pins s σ H { D with nx := u D } I h) fun f s1 q => ?_)
  cases f with
  | next =>
    obtain ⟨σ', H', I', q⟩ := q
    exact h2 pins s1 σ' H' D I' q
  | ret v => exact q
  | brk => exact q
  | cont => exact q
theorem pss_one (h1 : PS X st t) : PSs X [st] t := by
  intro pins s σ H D I h
  refine wpAny_execs_cons (thn (h1 pins s σ H D I h) fun f s1 q => ?_)
  cases f with
  | next => exact wpAny_execs_nil q
  | ret v => exact q
  | brk => exact q
  | cont => exact q
/-- in a def's body nothing is shown -/
theorem Inv.quiet {pins : List (Addr × Obj)} {σ : St} {H : Hp} {s : Shared} (I : Inv X pins σ H s) : interactive X.env = false := by simp [interactive, I.ok.kind]
/-- an expression whose value is dropped -/
def tDrop (te : TE) : TS := fun D σ H => te σ H fun _ H1 => D.nx σ H1
theorem ps_expr (he : PE X e te) (hs : swapsWith e none pos.line X.env = pure false := by rfl) : PS X (.Expr e pos) (tDrop te) := by
  intro pins s σ H D I h
  exact wpAny_Expr_any (thn (he pins s σ H _ I h) fun v s1 ⟨x, H1, I1, r1, q1⟩ => ⟨σ, H1, I1, q1⟩) I.quiet hs
def tRet (te : TE) : TS := fun D σ H => te σ H D.rt
theorem ps_ret (he : PE X e te) : PS X (.Return (some e) pos) (tRet te) := by
  intro pins s σ H D I h
  exact wpAny_Return_some (thn (he pins s σ H _ I h) fun v s1 ⟨x, H1, I1, r1, q1⟩ => ⟨x, σ, H1, I1, r1, q1⟩)
def tIfS (c : TT) (t u : TS) : TS := fun D σ H => c σ H fun b H1 => if b = true then t D σ H1 else u D σ H1
theorem ps_if {c : Expr} {a b : List Stmt} {tc : TT} (hc : PT X c tc) (ha : PSs X a t) (hb : PSs X b u) : PS X (.If c a b pos) (tIfS tc t u) := by
  intro pins s σ H D I h
  refine wpAny_If (thn (hc pins s σ H _ I h) fun d s1 ⟨H1, I1, q1⟩ => ?_)
  cases d with
  | true => exact ha pins s1 σ H1 D I1 q1
  | false => exact hb pins s1 σ H1 D I1 q1
end

/-! ### targets -/
abbrev TG := V → St → Hp → (St → Hp → Prop) → Prop
abbrev TGs := List V → St → Hp → (St → Hp → Prop) → Prop
def PG (X : Cx) (target : Expr) (t : TG) : Prop :=
  ∀ (pins : List (Addr × Obj)) (s : Shared) (σ : St) (H : Hp) (v : V) (u : Value) (Q : St → Hp → Prop), Inv X pins σ H s → RelV v u → t v σ H Q →
    wpAny (model X.prog X.w) X.A (assign target X.env u) (fun _ s' => ∃ σ' H', Inv X pins σ' H' s' ∧ Q σ' H') X.xe s
/-- several targets, one after another -/
def PGs (X : Cx) (ts : List Expr) (t : TGs) : Prop :=
  ∀ (pins : List (Addr × Obj)) (s : Shared) (σ : St) (H : Hp) (vs : List V) (us : List Value) (Q : St → Hp → Prop), Inv X pins σ H s → Vals vs us → t vs σ H Q →
    wpAny (model X.prog X.w) X.A (assignInOrder ((assignEach ts X.env).map (·.2)) us) (fun _ s' => ∃ σ' H', Inv X pins σ' H' s' ∧ Q σ' H') X.xe s
/-- a op= b, by values -/
abbrev TIp := V → V → Hp → VK → Prop
def PIp (X : Cx) (op : Operator) (t : TIp) : Prop :=
  ∀ (pins : List (Addr × Obj)) (s : Shared) (σ : St) (H : Hp) (x y : V) (v u : Value) (Q : VK), Inv X pins σ H s → RelV x v → RelV y u → t x y H Q →
    wpAny (model X.prog X.w) X.A (inplaceOp op v u) (EP X pins σ Q) X.xe s
section
variable {X : Cx} {pos : Pos}
def gName (i : Nat) : TG := fun v σ H Q => Q (σ.set i (some v)) H
theorem pg_name {i : Nat} {x : Str} (hN : X.N.Nodup) (hi : X.N[i]? = some x) (hx : Loc X.env.scope x) (hf : X.fn x = true ∨ X.env.scope.names.lookup x = some .local := by first | exact .inl rfl | exact .inr rfl | assumption) : PG X (.Name x pos) (gName i) := by
  intro pins s σ H v u Q I r h
  exact wpAny_assign_Name (store_ok I hN hi hx r (fun s' I' => ⟨_, H, I', h⟩) hf)
def gNil : TGs := fun vs σ H Q => vs = [] ∧ Q σ H
def gCons (t : TG) (u : TGs) : TGs := fun vs σ H Q => ∃ v r, vs = v :: r ∧ t v σ H fun σ' H' => u r σ' H' Q
theorem pgs_nil : PGs X [] gNil := by
  intro pins s σ H vs us Q I r h
  obtain ⟨e, h⟩ := h
  subst e
  cases r
  exact assignInOrder_nil ⟨σ, H, I, h⟩
theorem pgs_cons {e : Expr} {es : List Expr} {t : TG} {u : TGs} (h1 : PG X e t) (h2 : PGs X es u)
    (hs : (assignEach (e :: es) X.env).map (·.2) = assign e X.env :: (assignEach es X.env).map (·.2) := by rfl) : PGs X (e :: es) (gCons t u) := by
  intro pins s σ H vs us Q I r h
  obtain ⟨v, vr, e1, h⟩ := h
  subst e1
  cases r with
  | cons r rr =>
    rw [hs]
    refine assignInOrder_cons (thn (h1 pins s σ H _ _ _ I r h) fun _ s1 ⟨σ1, H1, I1, q1⟩ => ?_)
    exact h2 pins s1 σ1 H1 _ _ Q I1 rr q1
/-- (a, b, ..) = a tuple of that length -/
def gTup (K : PySem.W.Frag) (n : Nat) (t : TGs) : TG := fun v σ H Q => ∃ a xs, v = .ref a ∧ SqT K H a xs ∧ xs.length = n ∧ t xs σ H Q
theorem pg_tup {es : List Expr} {k : Nat} {t : TGs} {n : Nat} (hc : X.calm = true) (h : PGs X es t)
    (hn : (assignEach es X.env).length = n := by rfl) (hst : (assignEach es X.env).findIdx? (·.1) = none := by rfl) : PG X (.Tuple es k pos) (gTup X.K n t) := by
  intro pins s σ H v u Q I r hw
  obtain ⟨a, xs, e1, hq, hl, hw⟩ := hw
  subst e1
  cases r
  obtain ⟨its, rv, ht, hz⟩ := I.tuple hq
  refine assign_Tuple_tuple (I.ok.hd hc) ht (by simp [hn, ← hl, rv.length]) hst fun h' hx => ?_
  have I1 : Inv X pins σ H { s with heap := h' } := I.kept (t' := s.toks) fun b o e => hx b o (Nat.ne_of_lt (Heap.lt_size e)) e
  exact h pins _ σ H xs _ Q I1 (by simpa using rv) hw
/-- target = value -/
def tAsg (te : TE) (g : TG) : TS := fun D σ H => te σ H fun x H1 => g x σ H1 D.nx
/-- name = value -/
theorem ps_set {i : Nat} {x : Str} {e : Expr} {te : TE} {pos' : Pos} (hN : X.N.Nodup) (hi : X.N[i]? = some x) (hx : Loc X.env.scope x) (he : PE X e te) (hs : swapsWith e (some (.Name x pos')) pos.line X.env = pure false := by rfl) (hf : X.fn x = true ∨ X.env.scope.names.lookup x = some .local := by first | exact .inl rfl | exact .inr rfl | assumption) :
    PS X (.Assign [.Name x pos'] e pos) (tAsg te (gName i)) := by
  intro pins s σ H D I h
  refine wpAny_Assign_Name (thn (he pins s σ H _ I h) fun v s1 ⟨y, H1, I1, r1, q1⟩ => ?_) hs
  exact store_ok I1 hN hi hx r1 (fun s2 I2 => ⟨_, H1, I2, q1⟩) hf
/-- name op= e -/
def tAug (i : Nat) (te : TE) (ti : TIp) : TS := fun D σ H => ∃ x, σ[i]? = some (some x) ∧ te σ H fun y H1 => ti x y H1 fun z H2 => D.nx (σ.set i (some z)) H2
theorem ps_aug {i : Nat} {x : Str} {e : Expr} {te : TE} {op : Operator} {ti : TIp} {pos' : Pos} (hN : X.N.Nodup) (hi : X.N[i]? = some x) (hx : Loc X.env.scope x) (he : PE X e te) (ho : PIp X op ti) (hf : X.fn x = true ∨ X.env.scope.names.lookup x = some .local := by first | exact .inl rfl | exact .inr rfl | assumption) :
    PS X (.AugAssign (.Name x pos') op e pos) (tAug i te ti) := by
  intro pins s σ H D I h
  obtain ⟨v, e1, h⟩ := h
  obtain ⟨m, hn, hl⟩ := I.loc
  have vis : Vis X.env.scope x := by rcases hx with k | k; exact .inl k; exact .inr (.inl k)
  obtain ⟨u, r, l⟩ := hl i x v hi e1 vis
  refine wpAny_AugAssign_Name ?_
  have go : wpAny (model X.prog X.w) X.A (eval e X.env) (fun w s₂ => wpAny (model X.prog X.w) X.A (inplaceOp op u w) (fun r s₃ => wpAny (model X.prog X.w) X.A (storeName X.env x r) (fun _ => SP X pins D .next) X.xe s₃) X.xe s₂) X.xe s := by
    refine thn (he pins s σ H _ I h) fun w s1 ⟨y, H1, I1, r1, q1⟩ => ?_
    refine thn (ho pins s1 σ H1 v y u w _ I1 r r1 q1) fun z s2 ⟨zv, H2, I2, r2, q2⟩ => ?_
    exact store_ok I2 hN hi hx r2 (fun s3 I3 => ⟨_, H2, I3, q2⟩) hf
  rcases l with ⟨hk, hm⟩ | ⟨hk, c, hc, hcell⟩
  · exact wpAny_loadName_local I.ok.kind hk hn hm go
  · rcases hk with hk | hk
    · exact wpAny_loadName_cell I.ok.kind hk hc hcell go
    · rcases hx with k | k
      · have : X.env.scope.names.lookup x = some .free := hk
        rw [k] at this; cases this
      · have : X.env.scope.names.lookup x = some .free := hk
        rw [k] at this; cases this
/-- ints -/
def ipI (f : Int → Int → Int) : TIp := fun x y H Q => ∃ i j, x = .int i ∧ y = .int j ∧ Q (.int (f i j)) H
theorem ip_add : PIp X .Add (ipI fun i j => i + j) := by
  intro pins s σ H x y v u Q I r1 r2 h
  obtain ⟨i, j, e1, e2, q⟩ := h
  subst e1; subst e2
  obtain ⟨t, rfl⟩ := r1
  obtain ⟨t', rfl⟩ := r2
  exact iadd_int ⟨.int _, H, I.tok _, ⟨_, rfl⟩, q⟩
end

/-! ### while -/
section
variable {X : Cx} {pos : Pos}
/-- the invariant W with its measure -/
def tWhile (c : TT) (tb : TS) : TS := fun D σ H => ∃ W : Nat → St → Hp → Prop, (∃ m, W m σ H) ∧ ∀ m σ H, W m σ H →
  c σ H fun b H1 => if b = true then ∃ N : St → Hp → Prop, (∀ σ' H', N σ' H' → ∃ m', m' < m ∧ W m' σ' H') ∧ tb { D with nx := N, ct := N, bk := D.nx } σ H1 else D.nx σ H1
theorem ps_while {c : Expr} {body : List Stmt} {tc : TT} {tb : TS} (hp : PassesOwn (model X.prog X.w) X.A X.env X.xe) (hc : PT X c tc) (hb : PSs X body tb) : PS X (.While c body [] pos) (tWhile tc tb) := by
  intro pins s σ H D I h
  obtain ⟨W, ⟨m0, w0⟩, turn⟩ := h
  refine wpAny_While (codeAny_whileLoop (fun n s' => ∃ σ' H', Inv X pins σ' H' s' ∧ W n σ' H') ?_ m0 ⟨σ, H, I, w0⟩)
  rintro n s1 ⟨σ1, H1, I1, w1⟩
  refine wpAny_passesOwn hp (thn (hc pins s1 σ1 H1 _ I1 (turn n σ1 H1 w1)) fun b s2 ⟨H2, I2, q2⟩ => ?_)
  cases b with
  | true =>
    obtain ⟨N, hN, q2⟩ := q2
    rw [if_pos rfl]
    refine wpAny_passesOwn hp (thn (hb pins s2 σ1 H2 _ I2 q2) fun f s3 q3 => ?_)
    cases f with
    | next =>
      obtain ⟨σ3, H3, I3, n3⟩ := q3
      obtain ⟨m', hm, w3⟩ := hN σ3 H3 n3
      exact ⟨m', hm, σ3, H3, I3, w3⟩
    | cont =>
      obtain ⟨σ3, H3, I3, n3⟩ := q3
      obtain ⟨m', hm, w3⟩ := hN σ3 H3 n3
      exact ⟨m', hm, σ3, H3, I3, w3⟩
    | brk => exact q3
    | ret v => exact q3
  | false =>
    rw [if_neg Bool.false_ne_true]
    exact wpAny_execs_nil ⟨σ1, H2, I2, q2⟩
end

/-! ### what a loop or a comprehension walks -/
/-- at turn i: it yields x (the heap may grow), or it stops -/
structure It where
  go : Nat → Hp → Prop
  yld : Nat → Hp → V → Hp → Prop
  stop : Nat → Hp → Prop
/-- the iterator's own objects may turn: they are not the frame's, not pinned, younger than the entry (or a comprehension's own) -/
def FpOk (X : Cx) (pins : List (Addr × Obj)) (H : Hp) (b : Addr) : Prop :=
  H b = none ∧ b ≠ X.env.locals ∧ b ∉ X.fs ∧ (b ∈ X.ex ∨ X.s_0.heap.objs.size ≤ b) ∧ (∀ x c, X.env.cells.lookup x = some c → c ≠ b) ∧ ∀ p ∈ X.pn ++ pins, p.1 ≠ b
theorem Inv.fpOk {X : Cx} {pins : List (Addr × Obj)} {σ : St} {H H' : Hp} {s : Shared} {b : Addr} (I : Inv X pins σ H s) (hb : s.heap.objs.size ≤ b) (hn : H' b = none) : FpOk X pins H' b := by
  refine ⟨hn, Nat.ne_of_gt (Nat.lt_of_lt_of_le I.lt hb), I.nofs hb, .inr (Nat.le_trans I.sz hb), fun x c e z => ?_, fun p hp z => ?_⟩
  · obtain ⟨v, q⟩ := I.cell x c e
    exact absurd (Nat.lt_of_lt_of_le q.lt (by rw [z]; exact hb)) (Nat.lt_irrefl _)
  · exact absurd (Nat.lt_of_lt_of_le (Heap.lt_size (I.pin p hp).1) (by rw [z]; exact hb)) (Nat.lt_irrefl _)
structure Turn (P : Program) (w : World) (K : PySem.W.Frag) (tg : Expr) (J : It) (fp : List Addr) (it : Addr) (tn : Nat → Heap → Prop) : Prop where
  mem : it ∈ fp
  obj : ∀ i h, tn i h → ∀ b ∈ fp, ∃ o, h.get? b = some o ∧ ∀ v, o.data ≠ .cell v
  keep : ∀ i h h', tn i h → (∀ b ∈ fp, ∀ o, h.get? b = some o → h'.get? b = some o) → tn i h'
  item : ∀ (X : Cx), X.prog = P → X.w = w → X.K = K → X.calm = true → ∀ (i : Nat) (pins : List (Addr × Obj)) (s : Shared) (σ : St) (H : Hp) (E : Value → Shared → Prop), Inv X pins σ H s → (∀ b ∈ fp, FpOk X pins H b) → tn i s.heap → J.go i H →
    wpAny (model P w) X.A (pyNext (.ref it)) (fun r s1 => ∃ u, r = some u ∧
      wpAny (model P w) X.A (letOwnedTupleGo tg (.ref it) u) (fun _ s2 => ∃ x H', Inv X pins σ H' s2 ∧ RelV x u ∧ J.yld i H x H' ∧ tn (i + 1) s2.heap ∧ ∀ b ∈ fp, H' b = none) E s1) E s
  done : ∀ (X : Cx), X.prog = P → X.w = w → X.K = K → X.calm = true → ∀ (i : Nat) (pins : List (Addr × Obj)) (s : Shared) (σ : St) (H : Hp) (E : Value → Shared → Prop), Inv X pins σ H s → (∀ b ∈ fp, FpOk X pins H b) → tn i s.heap → J.stop i H →
    wpAny (model P w) X.A (pyNext (.ref it)) (fun r s1 => r = none ∧ Inv X pins σ H s1) E s
  self : ∀ (A : Around) (i : Nat) (s : Shared) (Q : Value → Shared → Prop) (E : Value → Shared → Prop), tn i s.heap → Q (.ref it) s → wpAny (model P w) A (pyIter (.ref it)) Q E s
abbrev TI := St → Hp → (It → Hp → Prop) → Prop
/-- an iterator has come -/
def PIE (X : Cx) (pins : List (Addr × Obj)) (σ : St) (tg : Expr) (R : It → Hp → Prop) (itv : Value) (s2 : Shared) : Prop :=
  ∃ (it : Addr) (fp : List Addr) (tn : Nat → Heap → Prop) (J : It) (H' : Hp), itv = .ref it ∧ Inv X pins σ H' s2 ∧ Turn X.prog X.w X.K tg J fp it tn ∧ tn 0 s2.heap ∧ (∀ b ∈ fp, FpOk X pins H' b) ∧ R J H'
def PI (X : Cx) (tg iter : Expr) (wi : TI) : Prop :=
  ∀ (pins : List (Addr × Obj)) (s : Shared) (σ : St) (H : Hp) (R : It → Hp → Prop), Inv X pins σ H s → wi σ H R →
    wpAny (model X.prog X.w) X.A (eval iter X.env) (fun v s1 => wpAny (model X.prog X.w) X.A (pyIter v) (PIE X pins σ tg R) X.xe s1) X.xe s

/-- the step ahead of the store is nothing for an iterator that keeps no tuple -/
theorem go_of {M : Model} {A : Around} {E : Value → Shared → Prop} {s : Shared} {tg : Expr} {it : Addr} {u : Value} {o : Obj} {n : String} {vs : Array Value} {Q : Unit → Shared → Prop} (ho : s.heap.get? it = some o) (hc : o.cls = .type n) (hd : o.data = .fields vs)
    (hn : ["enumerate", "zip", "dict_itemiterator", "dict_reverseitemiterator", "odict_iterator", "itertools.zip_longest", "itertools.pairwise"].contains n = false) (hQ : Q () s) : wpAny M A (letOwnedTupleGo tg (.ref it) u) Q E s := by
  unfold letOwnedTupleGo
  cases tg <;> first
    | exact wpAny_pure hQ
    | (cases u <;> first
        | exact wpAny_pure hQ
        | (refine wpAny_bind (wpAny_load ho ?_)
           rw [hc, hd]
           show wpAny M A (if (["enumerate", "zip", "dict_itemiterator", "dict_reverseitemiterator", "odict_iterator", "itertools.zip_longest", "itertools.pairwise"].contains n && vs[0]? == some (rawInt _)) = true then _ else _) Q E s
           rw [if_neg (by intro h; rw [hn, Bool.false_and] at h; cases h)]
           exact wpAny_pure hQ))

/-- the list at a, as it stands at each turn (a loop may append to it) -/
def Itl (K : PySem.W.Frag) (a : Addr) : It :=
  ⟨fun i H => ∃ xs x, SqL K H a xs ∧ xs[i]? = some x, fun i H x H' => H' = H ∧ ∀ xs, SqL K H a xs → xs[i]? = some x, fun i H => ∃ xs, SqL K H a xs ∧ xs.length ≤ i⟩
def Itt (K : PySem.W.Frag) (a : Addr) : It :=
  ⟨fun i H => ∃ xs x, SqT K H a xs ∧ xs[i]? = some x, fun i H x H' => H' = H ∧ ∀ xs, SqT K H a xs → xs[i]? = some x, fun i H => ∃ xs, SqT K H a xs ∧ xs.length ≤ i⟩
/-- lo, lo + 1, .. (n of them) -/
def Itr (lo : Int) (n : Nat) : It := ⟨fun i _ => i < n, fun i H x H' => H' = H ∧ x = .int (lo + i), fun i _ => n ≤ i⟩
theorem turn_list {P : Program} {w : World} {K : PySem.W.Frag} {tg : Expr} (a it : Addr) : Turn P w K tg (Itl K a) [it] it (fun i h => h.IsListIter it a i) where
  mem := by simp
  obj := fun i h st b hb => by
    have e : b = it := by simpa using hb
    subst e
    obtain ⟨o, e, c, d⟩ := st
    exact ⟨o, e, fun v z => by rw [d] at z; cases z⟩
  keep := fun i h h' st k => st.at fun o e => k it (by simp) o e
  item := by
    intro X hP hw hK hc i pins s σ H E I hf st hg
    subst hP hw hK
    obtain ⟨xs, x, hq, hx⟩ := hg
    obtain ⟨its, rv, p, hz⟩ := I.list hq
    obtain ⟨u, hu, ru⟩ := rv.get hx
    obtain ⟨f0, f1, f2, f3, f4, f5⟩ := hf it (by simp)
    refine wpAny_pyNext_list_item st p.isList (x := u) (by simpa using hu) fun h' st' sb => ?_
    have I1 : Inv X pins σ H { s with heap := h' } := I.turned (t' := s.toks) (fun b o hb e => (sb.2 b hb).trans e) f0 f1 f3 f4 f5
    obtain ⟨o, e, c, d⟩ := id st'
    exact ⟨u, rfl, go_of (s := { s with heap := h' }) e c d (by decide) ⟨x, H, I1, ru, ⟨rfl, fun ys hy => by rw [I.list_inj hy hq]; exact hx⟩, st', fun b hb => (hf b hb).1⟩⟩
  done := by
    intro X hP hw hK hc i pins s σ H E I hf st hg
    subst hP hw hK
    obtain ⟨xs, hq, hx⟩ := hg
    obtain ⟨its, rv, p, hz⟩ := I.list hq
    obtain ⟨f0, f1, f2, f3, f4, f5⟩ := hf it (by simp)
    have hl := rv.length
    exact wpAny_pyNext_list_end (I.ok.hd hc) st p.isList (by simp; omega) fun h' eb => ⟨rfl, I.turned (t' := s.toks) (fun b o hb e => eb b o hb e) f0 f1 f3 f4 f5⟩
  self := fun _ _ _ _ _ st h => wpAny_pyIter_listiter st h
theorem turn_tuple {P : Program} {w : World} {K : PySem.W.Frag} {tg : Expr} (a it : Addr) : Turn P w K tg (Itt K a) [it] it (fun i h => h.IsTupleIter it a i) where
  mem := by simp
  obj := fun i h st b hb => by
    have e : b = it := by simpa using hb
    subst e
    obtain ⟨o, e, c, d⟩ := st
    exact ⟨o, e, fun v z => by rw [d] at z; cases z⟩
  keep := fun i h h' st k => st.at fun o e => k it (by simp) o e
  item := by
    intro X hP hw hK hc i pins s σ H E I hf st hg
    subst hP hw hK
    obtain ⟨xs, x, hq, hx⟩ := hg
    obtain ⟨its, rv, p, hz⟩ := I.tuple hq
    obtain ⟨u, hu, ru⟩ := rv.get hx
    obtain ⟨f0, f1, f2, f3, f4, f5⟩ := hf it (by simp)
    refine wpAny_pyNext_tuple_item st (show s.heap.IsTuple a its.toArray from p) (x := u) (by simpa using hu) fun h' st' sb => ?_
    have I1 : Inv X pins σ H { s with heap := h' } := I.turned (t' := s.toks) (fun b o hb e => (sb.2 b hb).trans e) f0 f1 f3 f4 f5
    obtain ⟨o, e, c, d⟩ := id st'
    exact ⟨u, rfl, go_of (s := { s with heap := h' }) e c d (by decide) ⟨x, H, I1, ru, ⟨rfl, fun ys hy => by rw [I.tuple_inj hy hq]; exact hx⟩, st', fun b hb => (hf b hb).1⟩⟩
  done := by
    intro X hP hw hK hc i pins s σ H E I hf st hg
    subst hP hw hK
    obtain ⟨xs, hq, hx⟩ := hg
    obtain ⟨its, rv, p, hz⟩ := I.tuple hq
    obtain ⟨f0, f1, f2, f3, f4, f5⟩ := hf it (by simp)
    have hl := rv.length
    exact wpAny_pyNext_tuple_end (I.ok.hd hc) st (show s.heap.IsTuple a its.toArray from p) (by simp; omega) fun h' eb => ⟨rfl, I.turned (t' := s.toks) (fun b o hb e => eb b o hb e) f0 f1 f3 f4 f5⟩
  self := fun _ _ _ _ _ st h => wpAny_pyIter_tupleiter st h
theorem turn_range {P : Program} {w : World} {K : PySem.W.Frag} {tg : Expr} (it : Addr) (lo : Int) (n : Nat) : Turn P w K tg (Itr lo n) [it] it (fun i h => IsRangeIter h it (lo + (i : Nat) * 1) ((n : Int) - (i : Nat)) 1) where
  mem := by simp
  obj := fun i h st b hb => by
    have e : b = it := by simpa using hb
    subst e
    exact ⟨_, st, fun v z => by
      have z' : Data.fields _ = Data.cell v := z
      cases z'⟩
  keep := fun i h h' st k => k it (by simp) _ st
  item := by
    intro X hP hw hK hc i pins s σ H E I hf st hg
    subst hP hw hK
    obtain ⟨f0, f1, f2, f3, f4, f5⟩ := hf it (by simp)
    have W := Walks.range (prog := X.prog) (w := X.w) (I.ok.hd hc) it lo 1 n
    refine W.item i s _ _ hg st fun v h' tk hv st' kk => ?_
    obtain ⟨t, rfl⟩ := hv
    have I1 : Inv X pins σ H { s with heap := h', toks := tk } := I.turned (fun b o hb e => kk b o (by simpa using hb) e) f0 f1 f3 f4 f5
    refine ⟨_, rfl, go_of (s := { s with heap := h', toks := tk }) (n := "range_iterator") st' rfl rfl (by decide) ⟨.int (lo + i), H, I1, ⟨t, ?_⟩, ⟨rfl, rfl⟩, st', fun b hb => (hf b hb).1⟩⟩
    rw [Int.mul_one]
  done := by
    intro X hP hw hK hc i pins s σ H E I hf st hg
    subst hP hw hK
    obtain ⟨f0, f1, f2, f3, f4, f5⟩ := hf it (by simp)
    exact wpAny_pyNext_range_end (I.ok.hd hc) st (by have : n ≤ i := hg; omega) fun h' eb => ⟨rfl, I.turned (t' := s.toks) (fun b o hb e => eb b o hb e) f0 f1 f3 f4 f5⟩
  self := fun _ _ _ _ _ st h => wpAny_pyIter_rangeiter st h
end L2

namespace L2
open PySem PySem.Spec PyProof.Rows
section
variable {X : Cx} {tg : Expr}
def iList (K : PySem.W.Frag) (tl : TE) : TI := fun σ H R => tl σ H fun x H1 => ∃ a, x = .ref a ∧ (∃ xs, SqL K H1 a xs) ∧ R (Itl K a) H1
def iTup (K : PySem.W.Frag) (tl : TE) : TI := fun σ H R => tl σ H fun x H1 => ∃ a, x = .ref a ∧ (∃ xs, SqT K H1 a xs) ∧ R (Itt K a) H1
theorem pi_list {l : Expr} {tl : TE} (hl : PE X l tl) : PI X tg l (iList X.K tl) := by
  intro pins s σ H R I h
  refine thn (hl pins s σ H _ I h) fun v s1 ⟨x, H1, I1, r1, q1⟩ => ?_
  obtain ⟨a, e, ⟨xs, hq⟩, q⟩ := q1
  subst e
  cases r1
  obtain ⟨its, rv, p, hz⟩ := I1.list hq
  refine wpAny_pyIter_list p.isList ?_
  refine ⟨s1.heap.objs.size, [s1.heap.objs.size], _, _, H1, rfl, I1.kept (t' := s1.toks) fun b o e => Heap.get?_push_of_some _ e, turn_list a _, ⟨_, Heap.get?_push_size _ rfl, rfl, rfl⟩, fun b hb => ?_, q⟩
  have e : b = s1.heap.objs.size := by simpa using hb
  subst e
  exact I1.fpOk (Nat.le_refl _) (I1.hok.fresh (Nat.le_refl _))
theorem pi_tup {l : Expr} {tl : TE} (hl : PE X l tl) : PI X tg l (iTup X.K tl) := by
  intro pins s σ H R I h
  refine thn (hl pins s σ H _ I h) fun v s1 ⟨x, H1, I1, r1, q1⟩ => ?_
  obtain ⟨a, e, ⟨xs, hq⟩, q⟩ := q1
  subst e
  cases r1
  obtain ⟨its, rv, p, hz⟩ := I1.tuple hq
  refine wpAny_pyIter_tuple (show s1.heap.IsTuple a its.toArray from p) ?_
  refine ⟨s1.heap.objs.size, [s1.heap.objs.size], _, _, H1, rfl, I1.kept (t' := s1.toks) fun b o e => Heap.get?_push_of_some _ e, turn_tuple a _, ⟨_, Heap.get?_push_size _ rfl, rfl, rfl⟩, fun b hb => ?_, q⟩
  have e : b = s1.heap.objs.size := by simpa using hb
  subst e
  exact I1.fpOk (Nat.le_refl _) (I1.hok.fresh (Nat.le_refl _))
/-- a range object just made, walked -/
theorem range_it {pins : List (Addr × Obj)} {σ : St} {H : Hp} {s : Shared} {R : It → Hp → Prop} {E : Value → Shared → Prop} {lo hi : Int} {t u v : Tok} {tk : Nat} (I : Inv X pins σ H s) (h1 : -(2 ^ 62) ≤ lo) (h2 : lo < 2 ^ 62) (h3 : -(2 ^ 62) ≤ hi) (h4 : hi < 2 ^ 62)
    (q : R (Itr lo (hi - lo).toNat) H) : wpAny (model X.prog X.w) X.A (pyIter (.ref s.heap.objs.size)) (PIE X pins σ tg R) E { s with heap := s.heap.push { cls := .type "range", data := .fields #[.int lo t, .int hi u, .int 1 v] }, toks := tk } := by
  refine wpAny_pyIter_range (IsRange.new ..) (small_one h1 h2 h3 h4) ?_
  have I1 : Inv X pins σ H { s with heap := s.heap.push { cls := .type "range", data := .fields #[.int lo t, .int hi u, .int 1 v] }, toks := tk } := I.kept fun b o e => Heap.get?_push_of_some _ e
  refine ⟨(s.heap.push { cls := .type "range", data := .fields #[.int lo t, .int hi u, .int 1 v] }).objs.size, [(s.heap.push { cls := .type "range", data := .fields #[.int lo t, .int hi u, .int 1 v] }).objs.size], _, _, H, rfl,
    I1.kept (t' := tk) fun b o e => Heap.get?_push_of_some _ e, turn_range _ lo (hi - lo).toNat, ?_, fun b hb => ?_, q⟩
  · have e1 : lo + ((0 : Nat) : Int) * 1 = lo := by simp
    have e2 : (((hi - lo).toNat : Nat) : Int) - ((0 : Nat) : Int) = Builtin.Range.rangeSize lo hi 1 := by rw [rangeSize_one]; split <;> omega
    show IsRangeIter _ _ (lo + ((0 : Nat) : Int) * 1) ((((hi - lo).toNat : Nat) : Int) - ((0 : Nat) : Int)) 1
    rw [e1, e2]
    exact Heap.get?_push_size _ rfl
  · have e : b = (s.heap.push { cls := .type "range", data := .fields #[.int lo t, .int hi u, .int 1 v] }).objs.size := by simpa using hb
    subst e
    exact I1.fpOk (Nat.le_refl _) (I1.hok.fresh (Nat.le_refl _))
def iRng1 (ta : TA) : TI := fun σ H R => ta σ H fun vs H1 => ∃ j : Int, vs = [.int j] ∧ -(2 ^ 62) ≤ j ∧ j < 2 ^ 62 ∧ R (Itr 0 j.toNat) H1
theorem pi_range1 {a : Expr} {ta : TA} {p pos : Pos} (hg : Gl X "range") (hm : X.mg "range" = none) (ha : PA X [a] ta) (hs : starEach [a] X.env = [(false, eval a X.env)] := by rfl) : PI X tg (.Call (.Name "range" p) [a] [] pos) (iRng1 ta) := by
  intro pins s σ H R I h
  refine Call_ (ld_blt I hg hm boot_range (PyProof.Rows.callWith_type1 (thn (ha pos pins s σ H _ I h) fun us s1 ⟨vs, H1, I1, r1, q1⟩ => ?_) hs rfl))
  obtain ⟨j, e, q1, q2, q⟩ := q1
  subst e
  cases r1 with
  | cons r rr =>
    cases rr
    obtain ⟨t, rfl⟩ := r
    exact call_range_1 (range_it I1 (by omega) (by omega) q1 q2 (by simpa using q))

/-! ### for -/
/-- W: the invariant by the turn and a measure; N: what the body is to reach -/
def tFor (wi : TI) (g : TG) (tb : TS) : TS := fun D σ H => wi σ H fun J H1 => ∃ W : Nat → Nat → St → Hp → Prop, (∃ m, W 0 m σ H1) ∧ ∀ i m σ H, W i m σ H →
  (J.stop i H ∧ D.nx σ H) ∨ (J.go i H ∧ ∃ N : St → Hp → Prop, (∀ σ' H', N σ' H' → ∃ m', m' < m ∧ W (i + 1) m' σ' H') ∧ ∀ x H', J.yld i H x H' → g x σ H' fun σ2 H2 => tb { D with nx := N, ct := N, bk := D.nx } σ2 H2)
/-- the records at fp as they stand -/
def pinsAt (fp : List Addr) (h : Heap) : List (Addr × Obj) := fp.filterMap fun b => (h.get? b).map fun o => (b, o)
theorem mem_pinsAt {fp : List Addr} {h : Heap} {b : Addr} {o : Obj} (hb : b ∈ fp) (e : h.get? b = some o) : (b, o) ∈ pinsAt fp h := List.mem_filterMap.mpr ⟨b, hb, by rw [e]; rfl⟩
theorem of_pinsAt {fp : List Addr} {h : Heap} {p : Addr × Obj} (hp : p ∈ pinsAt fp h) : p.1 ∈ fp ∧ h.get? p.1 = some p.2 := by
  obtain ⟨b, hb, e⟩ := List.mem_filterMap.mp hp
  cases q : h.get? b with
  | none => rw [q] at e; cases e
  | some o =>
    rw [q] at e
    have e' : (b, o) = p := Option.some.inj e
    subst e'
    exact ⟨hb, q⟩
theorem Inv.pinned {pins : List (Addr × Obj)} {σ : St} {H : Hp} {s : Shared} {fp : List Addr} (I : Inv X pins σ H s) (hf : ∀ b ∈ fp, FpOk X pins H b) (ho : ∀ b ∈ fp, ∃ o, s.heap.get? b = some o ∧ ∀ v, o.data ≠ .cell v) : Inv X (pins ++ pinsAt fp s.heap) σ H s :=
  I.pins_of fun p hp => (List.mem_append.mp hp).elim (fun z => I.pin p (List.mem_append_right _ z)) fun z => by
    obtain ⟨hb, e⟩ := of_pinsAt z
    obtain ⟨f0, f1, f2, _⟩ := hf p.1 hb
    obtain ⟨o, e', d⟩ := ho p.1 hb
    rw [e] at e'; cases e'
    exact ⟨e, f0, f1, f2, d⟩
theorem Inv.unpinned {pins pl : List (Addr × Obj)} {σ : St} {H : Hp} {s : Shared} (I : Inv X (pins ++ pl) σ H s) : Inv X pins σ H s := I.pins_of fun p hp => I.pin p (List.mem_append_right _ (List.mem_append_left _ hp))
theorem ps_for {iter : Expr} {body : List Stmt} {wi : TI} {g : TG} {tb : TS} {pos : Pos} (hp : PassesOwn (model X.prog X.w) X.A X.env X.xe) (hc : X.calm = true) (hi : PI X tg iter wi) (hg : PG X tg g) (hb : PSs X body tb)
    (hs : ∀ x, foldedSetIterable iter X.env x = pure x := by intro _; rfl) : PS X (.For tg iter body [] pos) (tFor wi g tb) := by
  intro pins s σ H D I h
  refine wpAny_For (thn (hi pins s σ H _ I h) fun v s1 h1 => thn h1 fun itv s2 h2 => ?_) hs
  obtain ⟨it, fp, tn, J, H2, e, I2, T, st2, f2, W, ⟨m0, w0⟩, turn⟩ := h2
  subst e
  -- what stays true of the iterator's objects through the loop
  have stat : ∀ {H' : Hp}, (∀ b ∈ fp, H' b = none) → ∀ b ∈ fp, FpOk X pins H' b := fun hn b hb => ⟨hn b hb, (f2 b hb).2⟩
  refine codeAny_forLoop_any (fun n s' => ∃ i σ' H', Inv X pins σ' H' s' ∧ tn i s'.heap ∧ (∀ b ∈ fp, H' b = none) ∧ W i n σ' H') ?_ m0 ⟨0, σ, H2, I2, st2, fun b hb => (f2 b hb).1, w0⟩
  rintro n s3 ⟨i, σ3, H3, I3, st3, fr3, w3⟩
  rcases turn i n σ3 H3 w3 with ⟨stop, qn⟩ | ⟨go, N, hN, step⟩
  · refine wpAny_passesOwn hp (thn (T.done X rfl rfl rfl hc i pins s3 σ3 H3 X.xe I3 (stat fr3) st3 stop) fun r s4 ⟨hr, I4⟩ => ?_)
    subst hr
    exact wpAny_execs_nil ⟨σ3, H3, I4, qn⟩
  · refine wpAny_passesOwn hp (thn (T.item X rfl rfl rfl hc i pins s3 σ3 H3 X.xe I3 (stat fr3) st3 go) fun r s4 ⟨u, hr, h4⟩ => ?_)
    subst hr
    refine wpAny_passesOwn hp (thn h4 fun _ s5 ⟨x, H5, I5, r5, y5, st5, fr5⟩ => ?_)
    have I5' := I5.pinned (stat fr5) (T.obj _ _ st5)
    refine wpAny_passesOwn hp (thn (hg _ s5 σ3 H5 x u _ I5' r5 (step x H5 y5)) fun _ s6 ⟨σ6, H6, I6, q6⟩ => ?_)
    refine wpAny_passesOwn hp (thn (hb _ s6 σ6 H6 _ I6 q6) fun f s7 q7 => ?_)
    have again : ∀ {σ7 : St} {H7 : Hp}, Inv X (pins ++ pinsAt fp s5.heap) σ7 H7 s7 → N σ7 H7 → ∃ m, m < n ∧ ∃ i σ' H', Inv X pins σ' H' s7 ∧ tn i s7.heap ∧ (∀ b ∈ fp, H' b = none) ∧ W i m σ' H' := fun {σ7 H7} I7 n7 => by
      obtain ⟨m', hm, w7⟩ := hN σ7 H7 n7
      refine ⟨m', hm, i + 1, σ7, H7, I7.unpinned, T.keep _ _ _ st5 fun b hb o e => (I7.pin (b, o) (List.mem_append_right _ (List.mem_append_right _ (mem_pinsAt hb e)))).1, fun b hb => ?_, w7⟩
      obtain ⟨o, e, d⟩ := T.obj _ _ st5 b hb
      exact (I7.pin (b, o) (List.mem_append_right _ (List.mem_append_right _ (mem_pinsAt hb e)))).2.1
    cases f with
    | next => obtain ⟨σ7, H7, I7, n7⟩ := q7; exact again I7 n7
    | cont => obtain ⟨σ7, H7, I7, n7⟩ := q7; exact again I7 n7
    | brk => obtain ⟨σ7, H7, I7, q7⟩ := q7; exact ⟨σ7, H7, I7.unpinned, q7⟩
    | ret v => obtain ⟨x7, σ7, H7, I7, r7, q7⟩ := q7; exact ⟨x7, σ7, H7, I7.unpinned, r7, q7⟩
end

/-! ### the forms one uses -/
/-- over a list that the body leaves as it is -/
theorem for_list {K : PySem.W.Frag} {a : Addr} {xs : List V} {g : TG} {tb : TS} {D : Ends} {σ : St} {H : Hp} (Pv : Nat → St → Hp → Prop) (h0 : Pv 0 σ H) (hl : ∀ i σ H, i ≤ xs.length → Pv i σ H → SqL K H a xs)
    (hs : ∀ i x σ H, xs[i]? = some x → Pv i σ H → g x σ H fun σ2 H2 => tb { D with nx := Pv (i + 1), ct := Pv (i + 1), bk := D.nx } σ2 H2) (hd : ∀ σ H, Pv xs.length σ H → D.nx σ H) :
    ∃ W : Nat → Nat → St → Hp → Prop, (∃ m, W 0 m σ H) ∧ ∀ i m σ H, W i m σ H →
      ((Itl K a).stop i H ∧ D.nx σ H) ∨ ((Itl K a).go i H ∧ ∃ N : St → Hp → Prop, (∀ σ' H', N σ' H' → ∃ m', m' < m ∧ W (i + 1) m' σ' H') ∧ ∀ x H', (Itl K a).yld i H x H' → g x σ H' fun σ2 H2 => tb { D with nx := N, ct := N, bk := D.nx } σ2 H2) := by
  refine ⟨fun i m σ H => m = xs.length - i ∧ i ≤ xs.length ∧ Pv i σ H, ⟨xs.length, by simp, Nat.zero_le _, h0⟩, ?_⟩
  rintro i m σ H ⟨rfl, hi, p⟩
  have q := hl i σ H hi p
  by_cases hlt : i < xs.length
  · refine .inr ⟨⟨xs, xs[i], q, by simp [hlt]⟩, Pv (i + 1), fun σ' H' p' => ⟨xs.length - (i + 1), by omega, rfl, hlt, p'⟩, fun x H' y => ?_⟩
    obtain ⟨e, y⟩ := y
    subst e
    exact hs i x σ _ (y xs q) p
  · have e : i = xs.length := by omega
    subst e
    exact .inl ⟨⟨xs, q, Nat.le_refl _⟩, hd σ H p⟩
theorem for_tup {K : PySem.W.Frag} {a : Addr} {xs : List V} {g : TG} {tb : TS} {D : Ends} {σ : St} {H : Hp} (Pv : Nat → St → Hp → Prop) (h0 : Pv 0 σ H) (hl : ∀ i σ H, i ≤ xs.length → Pv i σ H → SqT K H a xs)
    (hs : ∀ i x σ H, xs[i]? = some x → Pv i σ H → g x σ H fun σ2 H2 => tb { D with nx := Pv (i + 1), ct := Pv (i + 1), bk := D.nx } σ2 H2) (hd : ∀ σ H, Pv xs.length σ H → D.nx σ H) :
    ∃ W : Nat → Nat → St → Hp → Prop, (∃ m, W 0 m σ H) ∧ ∀ i m σ H, W i m σ H →
      ((Itt K a).stop i H ∧ D.nx σ H) ∨ ((Itt K a).go i H ∧ ∃ N : St → Hp → Prop, (∀ σ' H', N σ' H' → ∃ m', m' < m ∧ W (i + 1) m' σ' H') ∧ ∀ x H', (Itt K a).yld i H x H' → g x σ H' fun σ2 H2 => tb { D with nx := N, ct := N, bk := D.nx } σ2 H2) := by
  refine ⟨fun i m σ H => m = xs.length - i ∧ i ≤ xs.length ∧ Pv i σ H, ⟨xs.length, by simp, Nat.zero_le _, h0⟩, ?_⟩
  rintro i m σ H ⟨rfl, hi, p⟩
  have q := hl i σ H hi p
  by_cases hlt : i < xs.length
  · refine .inr ⟨⟨xs, xs[i], q, by simp [hlt]⟩, Pv (i + 1), fun σ' H' p' => ⟨xs.length - (i + 1), by omega, rfl, hlt, p'⟩, fun x H' y => ?_⟩
    obtain ⟨e, y⟩ := y
    subst e
    exact hs i x σ _ (y xs q) p
  · have e : i = xs.length := by omega
    subst e
    exact .inl ⟨⟨xs, q, Nat.le_refl _⟩, hd σ H p⟩
theorem for_range {lo : Int} {n : Nat} {g : TG} {tb : TS} {D : Ends} {σ : St} {H : Hp} (Pv : Nat → St → Hp → Prop) (h0 : Pv 0 σ H)
    (hs : ∀ i σ H, i < n → Pv i σ H → g (.int (lo + i)) σ H fun σ2 H2 => tb { D with nx := Pv (i + 1), ct := Pv (i + 1), bk := D.nx } σ2 H2) (hd : ∀ σ H, Pv n σ H → D.nx σ H) :
    ∃ W : Nat → Nat → St → Hp → Prop, (∃ m, W 0 m σ H) ∧ ∀ i m σ H, W i m σ H →
      ((Itr lo n).stop i H ∧ D.nx σ H) ∨ ((Itr lo n).go i H ∧ ∃ N : St → Hp → Prop, (∀ σ' H', N σ' H' → ∃ m', m' < m ∧ W (i + 1) m' σ' H') ∧ ∀ x H', (Itr lo n).yld i H x H' → g x σ H' fun σ2 H2 => tb { D with nx := N, ct := N, bk := D.nx } σ2 H2) := by
  refine ⟨fun i m σ H => m = n - i ∧ i ≤ n ∧ Pv i σ H, ⟨n, by simp, Nat.zero_le _, h0⟩, ?_⟩
  rintro i m σ H ⟨rfl, hi, p⟩
  by_cases hlt : i < n
  · refine .inr ⟨hlt, Pv (i + 1), fun σ' H' p' => ⟨n - (i + 1), by omega, rfl, hlt, p'⟩, fun x H' y => ?_⟩
    obtain ⟨e, y⟩ := y
    subst e y
    exact hs i σ _ hlt p
  · have e : i = n := by omega
    subst e
    exact .inl ⟨Nat.le_refl _, hd σ H p⟩
end L2

namespace L2
open PySem PySem.Spec PyProof.Rows

abbrev R2 := V → V → Hp → VK → Prop
/-- a two-place operation on values: f is binaryOp op, inplaceOp op or compareOp op -/
def OpR (X : Cx) (f : Value → Value → Sem Value) (r : R2) : Prop :=
  ∀ (pins : List (Addr × Obj)) (s : Shared) (σ : St) (H : Hp) (x y : V) (v u : Value) (Q : VK), Inv X pins σ H s → RelV x v → RelV y u → r x y H Q →
    wpAny (model X.prog X.w) X.A (f v u) (EP X pins σ Q) X.xe s
/-- a one-place operation -/
def UnR (X : Cx) (f : Value → Sem Value) (r : V → Hp → VK → Prop) : Prop :=
  ∀ (pins : List (Addr × Obj)) (s : Shared) (σ : St) (H : Hp) (x : V) (v : Value) (Q : VK), Inv X pins σ H s → RelV x v → r x H Q →
    wpAny (model X.prog X.w) X.A (f v) (EP X pins σ Q) X.xe s
/-- a call of a value that is known (a builtin, a type) with values -/
def CallR (X : Cx) (f : Value) (r : List V → Hp → VK → Prop) : Prop :=
  ∀ (pins : List (Addr × Obj)) (s : Shared) (σ : St) (H : Hp) (xs : List V) (us : List Value) (Q : VK), Inv X pins σ H s → Vals xs us → r xs H Q →
    wpAny (model X.prog X.w) X.A (call f us) (EP X pins σ Q) X.xe s

def tOp (r : R2) (ta tb : TE) : TE := fun σ H Q => ta σ H fun x H1 => tb σ H1 fun y H2 => r x y H2 Q
def tUn (r : V → Hp → VK → Prop) (ta : TE) : TE := fun σ H Q => ta σ H fun x H1 => r x H1 Q
def rI0 (g : Int → Int → V) : R2 := fun x y H Q => ∃ i j, x = .int i ∧ y = .int j ∧ Q (g i j) H
def rU (g : Int → V) : V → Hp → VK → Prop := fun x H Q => ∃ i, x = .int i ∧ Q (g i) H

section
variable {X : Cx} {a b c : Expr} {ta tb tc : TE} {pos : Pos}

theorem binT (ha : PE X a ta) (hb : PE X b tb) {pins : List (Addr × Obj)} {s : Shared} {σ : St} {H : Hp} {R : V → V → Hp → Prop} (I : Inv X pins σ H s)
    (h : ta σ H fun x H1 => tb σ H1 fun y H2 => R x y H2) {Q : Value → Shared → Prop} {f : Value → Value → Sem Value}
    (hf : ∀ v u s2 x y H2, Inv X pins σ H2 s2 → RelV x v → RelV y u → R x y H2 → wpAny (model X.prog X.w) X.A (f v u) Q X.xe s2) :
    wpAny (model X.prog X.w) X.A (eval a X.env) (fun v s₁ => wpAny (model X.prog X.w) X.A (eval b X.env) (fun u s₂ => wpAny (model X.prog X.w) X.A (f v u) Q X.xe s₂) X.xe s₁) X.xe s := by
  refine thn (ha pins s σ H _ I h) fun v s1 ⟨x, H1, I1, r1, q1⟩ => ?_
  refine thn (hb pins s1 σ H1 _ I1 q1) fun u s2 ⟨y, H2, I2, r2, q2⟩ => ?_
  exact hf v u s2 x y H2 I2 r1 r2 q2

theorem pe_op {op : Operator} {r : R2} (ho : OpR X (binaryOp op) r) (ha : PE X a ta) (hb : PE X b tb) : PE X (.BinOp a op b pos) (tOp r ta tb) := by
  intro pins s σ H Q I h
  exact wpAny_BinOp (binT ha hb I h fun v u s2 x y H2 I2 rx ry q => ho pins s2 σ H2 x y v u Q I2 rx ry q)
theorem pe_un {op : UnaryOp} {r : V → Hp → VK → Prop} (ho : UnR X (unaryOp op) r) (ha : PE X a ta) : PE X (.UnaryOp op a pos) (tUn r ta) := by
  intro pins s σ H Q I h
  exact UnaryOp_ (thn (ha pins s σ H _ I h) fun v s1 ⟨x, H1, I1, r1, q1⟩ => ho pins s1 σ H1 x v Q I1 r1 q1)

/-! ### ints -/
theorem opI0 {f : Value → Value → Sem Value} {g : Int → Int → Int}
    (rule : ∀ (i j : Int) (t u : Tok) (s : Shared) (Q : Value → Shared → Prop) (E : Value → Shared → Prop), Q (.int (g i j) s.toks) { s with toks := s.toks + 1 } → wpAny (model X.prog X.w) X.A (f (.int i t) (.int j u)) Q E s) :
    OpR X f (rI0 fun i j => .int (g i j)) := by
  intro pins s σ H x y v u Q I rx ry h
  obtain ⟨i, j, rfl, rfl, q⟩ := h
  obtain ⟨t, rfl⟩ := rx
  obtain ⟨t', rfl⟩ := ry
  exact rule i j t t' s _ _ ⟨.int (g i j), H, I.tok _, ⟨_, rfl⟩, q⟩
theorem opB0 {f : Value → Value → Sem Value} {g : Int → Int → Bool}
    (rule : ∀ (i j : Int) (t u : Tok) (s : Shared) (Q : Value → Shared → Prop) (E : Value → Shared → Prop), Q (.bool (g i j)) s → wpAny (model X.prog X.w) X.A (f (.int i t) (.int j u)) Q E s) :
    OpR X f (rI0 fun i j => .bl (g i j)) := by
  intro pins s σ H x y v u Q I rx ry h
  obtain ⟨i, j, rfl, rfl, q⟩ := h
  obtain ⟨t, rfl⟩ := rx
  obtain ⟨t', rfl⟩ := ry
  exact rule i j t t' s _ _ ⟨.bl (g i j), H, I, rfl, q⟩


theorem op_add : OpR X (binaryOp .Add) (rI0 fun i j => .int (i + j)) := opI0 fun _ _ _ _ _ _ _ q => add_int q
theorem op_sub : OpR X (binaryOp .Sub) (rI0 fun i j => .int (i - j)) := opI0 fun _ _ _ _ _ _ _ q => sub_int q


theorem unI {f : Value → Sem Value} {g : Int → Int}
    (rule : ∀ (i : Int) (t : Tok) (s : Shared) (Q : Value → Shared → Prop) (E : Value → Shared → Prop), Q (.int (g i) s.toks) { s with toks := s.toks + 1 } → wpAny (model X.prog X.w) X.A (f (.int i t)) Q E s) :
    UnR X f (rU fun i => .int (g i)) := by
  intro pins s σ H x v Q I rx h
  obtain ⟨i, rfl, q⟩ := h
  obtain ⟨t, rfl⟩ := rx
  exact rule i t s _ _ ⟨.int (g i), H, I.tok _, ⟨_, rfl⟩, q⟩
theorem un_neg : UnR X (unaryOp .USub) (rU fun i => .int (-i)) := unI fun _ _ _ _ _ q => neg_int q

/-! ### bools among ints: n += (a < b) -/
end

/-! ### comparisons -/
/-- the scalars that == tells apart as data does -/
def scal : V → V → Bool
  | .non, .non => true | .non, .int _ => true | .int _, .non => true | .non, .bl _ => true | .bl _, .non => true | .non, .str _ => true | .str _, .non => true
  | .int _, .int _ => true | .bl _, .bl _ => true | .str _, .str _ => true | .byt _, .byt _ => true
  | .int _, .str _ => true | .str _, .int _ => true | .bl _, .str _ => true | .str _, .bl _ => true
  | _, _ => false
def rEq : R2 := fun x y H Q => scal x y = true ∧ Q (.bl (decide (x = y))) H
def rNe : R2 := fun x y H Q => scal x y = true ∧ Q (.bl (!decide (x = y))) H

theorem dec_int {i j : Int} : decide (V.int i = V.int j) = (i == j) := by
  rw [Bool.eq_iff_iff]
  simp
theorem dec_bl {i j : Bool} : decide (V.bl i = V.bl j) = (i == j) := by
  rw [Bool.eq_iff_iff]
  simp
theorem dec_str {i j : Str} : decide (V.str i = V.str j) = (i == j) := by
  rw [Bool.eq_iff_iff]
  simp
theorem dec_byt {i j : Array UInt8} : decide (V.byt i = V.byt j) = (i.toList == j.toList) := by
  rw [Bool.eq_iff_iff]
  cases i
  cases j
  simp

section
variable {X : Cx} {a b c : Expr} {ta tb tc : TE} {pos : Pos}
theorem fin_bl {pins : List (Addr × Obj)} {σ : St} {H : Hp} {s : Shared} {Q : VK} {k k' : Bool} (I : Inv X pins σ H s) (q : Q (.bl k) H) (e : k = k') : EP X pins σ Q (.bool k') s := by
  subst e
  exact ⟨.bl k, H, I, rfl, q⟩
theorem op_eq : OpR X (compareOp .Eq) rEq := by
  intro pins s σ H x y v u Q I rx ry h
  obtain ⟨hs, q⟩ := h
  cases x with
  | non =>
    cases rx
    cases y with
    | non => cases ry; exact PySem.EqNone.eq_none_none (fin_bl I q (by simp))
    | bl j => cases ry; exact PySem.EqNone.eq_none_bool (fin_bl I q (by simp))
    | int j => obtain ⟨t', rfl⟩ := ry; exact PySem.EqNone.eq_none_int (fin_bl I q (by simp))
    | str j => obtain ⟨t', rfl⟩ := ry; exact PySem.EqNone.eq_none_str (fin_bl I q (by simp))
    | _ => exact absurd (show false = true from hs) Bool.false_ne_true
  | bl i =>
    cases rx
    cases y with
    | non => cases ry; exact PySem.EqNone.eq_bool_none (fin_bl I q (by simp))
    | bl j => cases ry; exact eq_bool (fin_bl I q dec_bl)
    | str j => obtain ⟨t', rfl⟩ := ry; exact PySem.EqMixed.eq_bool_str (fin_bl I q (by simp))
    | _ => exact absurd (show false = true from hs) Bool.false_ne_true
  | int i =>
    obtain ⟨t, rfl⟩ := rx
    cases y with
    | non => cases ry; exact PySem.EqNone.eq_int_none (fin_bl I q (by simp))
    | int j => obtain ⟨t', rfl⟩ := ry; exact eq_int (fin_bl I q dec_int)
    | str j => obtain ⟨t', rfl⟩ := ry; exact PySem.EqMixed.eq_int_str (fin_bl I q (by simp))
    | _ => exact absurd (show false = true from hs) Bool.false_ne_true
  | str i =>
    obtain ⟨t, rfl⟩ := rx
    cases y with
    | non => cases ry; exact PySem.EqNone.eq_str_none (fin_bl I q (by simp))
    | bl j => cases ry; exact PySem.EqMixed.eq_str_bool (fin_bl I q (by simp))
    | int j => obtain ⟨t', rfl⟩ := ry; exact PySem.EqMixed.eq_str_int (fin_bl I q (by simp))
    | str j => obtain ⟨t', rfl⟩ := ry; exact eq_str (fin_bl I q dec_str)
    | _ => exact absurd (show false = true from hs) Bool.false_ne_true
  | byt i =>
    obtain ⟨t, rfl⟩ := rx
    cases y with
    | byt j => obtain ⟨t', rfl⟩ := ry; exact PySem.W.eq_bytes (fin_bl I q dec_byt)
    | _ => exact absurd (show false = true from hs) Bool.false_ne_true
  | _ => cases y <;> exact absurd (show false = true from hs) Bool.false_ne_true
theorem op_ne : OpR X (compareOp .NotEq) rNe := by
  intro pins s σ H x y v u Q I rx ry h
  obtain ⟨hs, q⟩ := h
  cases x with
  | non =>
    cases rx
    cases y with
    | non => cases ry; exact PySem.EqNone.ne_none_none (fin_bl I q (by simp))
    | bl j => cases ry; exact PySem.EqNone.ne_none_bool (fin_bl I q (by simp))
    | int j => obtain ⟨t', rfl⟩ := ry; exact PySem.EqNone.ne_none_int (fin_bl I q (by simp))
    | str j => obtain ⟨t', rfl⟩ := ry; exact PySem.EqNone.ne_none_str (fin_bl I q (by simp))
    | _ => exact absurd (show false = true from hs) Bool.false_ne_true
  | bl i =>
    cases rx
    cases y with
    | non => cases ry; exact PySem.EqNone.ne_bool_none (fin_bl I q (by simp))
    | bl j => cases ry; exact ne_bool (fin_bl I q (congrArg not dec_bl))
    | str j => obtain ⟨t', rfl⟩ := ry; exact PySem.EqMixed.ne_bool_str (fin_bl I q (by simp))
    | _ => exact absurd (show false = true from hs) Bool.false_ne_true
  | int i =>
    obtain ⟨t, rfl⟩ := rx
    cases y with
    | non => cases ry; exact PySem.EqNone.ne_int_none (fin_bl I q (by simp))
    | int j => obtain ⟨t', rfl⟩ := ry; exact ne_int (fin_bl I q (congrArg not dec_int))
    | str j => obtain ⟨t', rfl⟩ := ry; exact PySem.EqMixed.ne_int_str (fin_bl I q (by simp))
    | _ => exact absurd (show false = true from hs) Bool.false_ne_true
  | str i =>
    obtain ⟨t, rfl⟩ := rx
    cases y with
    | non => cases ry; exact PySem.EqNone.ne_str_none (fin_bl I q (by simp))
    | bl j => cases ry; exact PySem.EqMixed.ne_str_bool (fin_bl I q (by simp))
    | int j => obtain ⟨t', rfl⟩ := ry; exact PySem.EqMixed.ne_str_int (fin_bl I q (by simp))
    | str j => obtain ⟨t', rfl⟩ := ry; exact ne_str (fin_bl I q (congrArg not dec_str))
    | _ => exact absurd (show false = true from hs) Bool.false_ne_true
  | byt i =>
    obtain ⟨t, rfl⟩ := rx
    cases y with
    | byt j => obtain ⟨t', rfl⟩ := ry; exact PySem.W.ne_bytes (fin_bl I q (congrArg not dec_byt))
    | _ => exact absurd (show false = true from hs) Bool.false_ne_true
  | _ => cases y <;> exact absurd (show false = true from hs) Bool.false_ne_true

theorem op_lt : OpR X (compareOp .Lt) (rI0 fun i j => .bl (decide (i < j))) := opB0 fun _ _ _ _ _ _ _ q => lt_int q
theorem op_le : OpR X (compareOp .LtE) (rI0 fun i j => .bl (decide (i ≤ j))) := opB0 fun _ _ _ _ _ _ _ q => le_int q
theorem op_gt : OpR X (compareOp .Gt) (rI0 fun i j => .bl (decide (j < i))) := opB0 fun _ _ _ _ _ _ _ q => gt_int q
theorem op_ge : OpR X (compareOp .GtE) (rI0 fun i j => .bl (decide (j ≤ i))) := opB0 fun _ _ _ _ _ _ _ q => ge_int q




theorem nomark (b : Expr) {op : CmpOp} (h : op ≠ .In := by decide) (h2 : op ≠ .NotIn := by decide) : behindInMarks op b = false := by
  have e1 : (op == CmpOp.In) = false := by cases op <;> first | rfl | exact absurd rfl h
  have e2 : (op == CmpOp.NotIn) = false := by cases op <;> first | rfl | exact absurd rfl h2
  cases b <;> simp [behindInMarks, e1, e2]
/-- a comparison as a value; hm: nomark b, or (for in, not in) by with_unfolding_all rfl -/
theorem pe_cmpR {op : CmpOp} {r : R2} (ho : OpR X (compareOp op) r) (ha : PE X a ta) (hb : PE X b tb) (hm : behindInMarks op b = false) : PE X (.Compare a [op] [b] pos) (tOp r ta tb) := by
  intro pins s σ H Q I h
  exact wpAny_Compare1 (binT ha hb I h fun v u s2 x y H2 I2 rx ry q => ho pins s2 σ H2 x y v u Q I2 rx ry q) hm
/-- a reading of a value as a test -/
def tTest (t : TE) : TT := fun σ H Q => t σ H fun x H' => ∃ k, x = .bl k ∧ Q k H'
theorem pt_cmpR {op : CmpOp} {r : R2} (ho : OpR X (compareOp op) r) (ha : PE X a ta) (hb : PE X b tb) (hm : behindInMarks op b = false) : PT X (.Compare a [op] [b] pos) (tTest (tOp r ta tb)) := by
  intro pins s σ H Q I h
  refine wpAny_isTrue_Compare1 (thn (ha pins s σ H _ I h) fun v s1 ⟨x, H1, I1, r1, q1⟩ => thn (hb pins s1 σ H1 _ I1 q1) fun u s2 ⟨y, H2, I2, r2, q2⟩ =>
    thn (ho pins s2 σ H2 x y v u _ I2 r1 r2 q2) fun c s3 ⟨z, H3, I3, r3, k, e, q3⟩ => ?_) hm
  subst e
  cases r3
  exact wpAny_truthy_bool ⟨H3, I3, q3⟩

/-! ### truth -/
theorem line63 : (sizeLine : Nat) < 2 ^ 63 := by rw [sizeLine_eq]; decide

/-! ### strs and bytes -/


/-! ### scalar builtins, by CallR -/
theorem vals1 {x : V} {us : List Value} (r : Vals [x] us) : ∃ u, us = [u] ∧ RelV x u := by
  cases r with
  | cons r1 r2 => cases r2; exact ⟨_, rfl, r1⟩
theorem vals2 {x y : V} {us : List Value} (r : Vals [x, y] us) : ∃ u w', us = [u, w'] ∧ RelV x u ∧ RelV y w' := by
  cases r with
  | cons r1 r2 =>
    cases r2 with
    | cons r3 r4 => cases r4; exact ⟨_, _, rfl, r1, r3⟩
theorem call_max2 (hc : X.calm = true) : CallR X (.builtin "max") (fun xs H Q => ∃ i j, xs = [.int i, .int j] ∧ Q (.int (if j > i then j else i)) H) := by
  intro pins s σ H xs us Q I r h
  obtain ⟨i, j, rfl, q⟩ := h
  obtain ⟨u, w', rfl, ⟨t, rfl⟩, ⟨t', rfl⟩⟩ := vals2 r
  refine max_two_ints (I.ok.hd hc) fun h' tk k => ⟨_, H, I.kept k, ?_, q⟩
  by_cases hj : j > i
  · rw [if_pos hj, if_pos hj]; exact ⟨_, rfl⟩
  · rw [if_neg hj, if_neg hj]; exact ⟨_, rfl⟩
end
end L2

namespace L2
open PySem PySem.Spec PyProof.Rows

/-! ### an instance, its attributes a map -/
structure ObjM (h : Heap) (x dx C : Addr) (mA : Str → Option Value) : Prop where
  obj : h.get? x = some (PySem.W.instObj C dx)
  ns : h.Ns1 dx mA
  ne : dx ≠ x

theorem lookIn_ns {h : Heap} {dx : Addr} {mA : Str → Option Value} (n : h.Ns1 dx mA) : ∃ od, h.get? dx = some od ∧ ∀ name, PySem.W.lookIn name od = some (mA name) := by
  obtain ⟨o, es, ep, ho, hd, hk, _, hm⟩ := n
  refine ⟨o, ho, fun name => ?_⟩
  have e := hm name
  unfold nsFind findBy at e
  rw [← Array.find?_toList] at e
  unfold PySem.W.lookIn
  rw [hd]
  dsimp only
  split
  · rename_i y q
    rw [q] at e
    exact congrArg some e
  · rename_i q
    rw [q] at e
    have a : es.toList.any (·.refKey) = false := by
      rw [List.any_eq_false]
      intro y hy
      obtain ⟨z, t, hkey⟩ := hk y (Array.mem_toList_iff.mp hy)
      simp [DictEntry.refKey, hkey]
    have a' : ¬ es.toList.any (·.refKey) = true := by rw [a]; exact Bool.false_ne_true
    rw [if_neg a']
    exact congrArg some e

theorem ObjM.look {h : Heap} {x dx C : Addr} {mA : Str → Option Value} (I : ObjM h x dx C mA) : ∃ od, PySem.W.InstAt h x (PySem.W.instObj C dx) C (some od) ∧ ∀ name, PySem.W.lookIn name od = some (mA name) :=
  let ⟨od, ho, hl⟩ := lookIn_ns I.ns
  ⟨od, ⟨I.obj, rfl, rfl, ho⟩, hl⟩

section
variable {prog : Program} {w : World} {A : Around} {E : Value → Shared → Prop} {s : Shared} {K : PySem.W.Frag} {x dx C f : Addr} {mA : Str → Option Value} {name : Str} {v : Value}

theorem get_map {expr : Bool} {Q : Value → Shared → Prop} (X : K.In s.heap) (I : ObjM s.heap x dx C mA) (hg : PySem.W.plainGet K C name = true) (hh : PySem.W.hasDictIn K C = true)
    (ha : PySem.W.findIn K (.ref C) name = some none) (hv : mA name = some v) (hv' : PySem.W.handedIn v = true) (h : Q v { s with toks := s.toks + 1 }) :
    wpAny (model prog w) A (getAttr (.ref x) name expr) Q E s := by
  obtain ⟨od, J, hl⟩ := I.look
  exact PySem.W.get_value X J (PySem.W.plainGet_of hg).1 (PySem.W.findObj_own hh ha rfl (by rw [hl, hv])) hv' h


theorem get_meth {pl : Sem Bool} {Q : Value × List Value → Shared → Prop} (X : K.In s.heap) (I : ObjM s.heap x dx C mA) (hg : PySem.W.plainGet K C name = true)
    (hf : PySem.W.findIn K (.ref C) name = some (some (.ref f))) (ht : PySem.W.isFn K (.ref f) = true) (hv : mA name = none) (h : Q (.ref f, [.ref x]) s) :
    wpAny (model prog w) A (getMethod (.ref x) name pl) Q E s := by
  obtain ⟨od, J, hl⟩ := I.look
  exact PySem.W.method_fn X J (PySem.W.plainGet_of hg).1 (PySem.W.plainGet_of hg).2 hf (beq_iff_eq.mp ht) (by show (PySem.W.lookIn name od).map (·.isSome) = some false; rw [hl, hv]; rfl) h

theorem set_map {ns : List Str} {Q : Unit → Shared → Prop} (X : K.In s.heap) (I : ObjM s.heap x dx C mA)
    (hs : PySem.W.findIn K (.ref C) "__setattr__" = some (some (.builtin "object.__setattr__"))) (hp : PySem.W.plainOver K C = true) (ht : PySem.W.takerIn K C name = some none) (hh : PySem.W.hasDictIn K C = true)
    (hw : PySem.Within mA ns) (hsz : ns.length ≤ sizeLine)
    (h : ∀ h', ObjM h' x dx C (fun y => if y = name then some v else mA y) → Heap.SameBut dx s.heap h' → Q () { s with heap := h', toks := s.toks + 2 }) :
    wpAny (model prog w) A (setAttr (.ref x) name v) Q E s := by
  obtain ⟨od, J, hl⟩ := I.look
  refine PySem.W.set_plain X J hs (PySem.W.osa_open (s := { s with toks := s.toks + 1 }) (r := none) X J hp ht fun b => ?_)
  obtain ⟨cd, hc, hd'⟩ := PySem.W.any_some hh
  have hx : s.heap.get? x = some ⟨.ref C, some dx, .plain, #[]⟩ := I.obj
  refine wpAny_bind (wpAny_pure (wpAny_bind (wpAny_bind (wpAny_loadPart hx (wpAny_bind (PySem.W.Looks.here (s := { s with toks := s.toks + 1 }) (PySem.W.looks_clsIn X hc) ?_))))))
  rw [hd']
  refine wpAny_pure (a := some dx) (wpAny_bind (wpAny_pure (wpAny_bind ?_)))
  refine wpAny_nsSet1 (s := { s with toks := s.toks + 1 }) I.ns fun h' hn2 hs2 => ?_
  obtain ⟨oD, esD, epD, hoD, hdD, hcD⟩ := hn2.count (PySem.Within.cons name v hw)
  refine wpAny_bind (wpAny_lookBehind hoD (by rw [hdD]; exact pastItsLine_dict (Nat.le_trans hcD (by rw [List.length_cons]; omega))) ?_)
  exact wpAny_pure (h _ ⟨(hs2.2 _ (Ne.symm I.ne)).trans I.obj, hn2, I.ne⟩ hs2)

/-- C(..): the dict at the heap's end, the instance behind it; then its __init__ -/
theorem make_map {R : Result → Shared → Prop} {vs : List Value} {kw : List (Str × Value)} (X : K.In s.heap) (hm : PySem.W.makesIn K C = true)
    (hi : PySem.W.findIn K (.ref C) "__init__" = some (some (.ref f))) (hf : PySem.W.typeIn K (.ref f) = some (.type "function"))
    (h : codeAny (model prog w) (A.under (.builtin "type.__call__" ⟨.ref C :: vs, kw⟩)) (.call (.ref f) ⟨.ref (s.heap.objs.size + 1) :: vs, kw⟩) (PySem.W.InitBack (s.heap.objs.size + 1) R)
      { s with heap := (s.heap.push PySem.W.emptyDict).push (PySem.W.instObj C s.heap.objs.size) }) :
    codeAny (model prog w) A (.call (.ref C) ⟨vs, kw⟩) R s := by
  obtain ⟨hh, g, d, t, os⟩ := s
  exact PySem.W.make_core (PySem.W.makes_of X hm) (PySem.W.looks_findIn X hi) (fun self => PySem.W.bind_fn X self hf) (.inl rfl) h
end

/-! ### the attributes as a list of pairs -/
def putF (f : Str) (v : V) : List (Str × V) → List (Str × V)
  | [] => [(f, v)]
  | (g, x) :: r => if g = f then (g, v) :: r else (g, x) :: putF f v r
theorem lookup_putF (f g : Str) (v : V) : ∀ fs : List (Str × V), (putF f v fs).lookup g = if g = f then some v else fs.lookup g
  | [] => by
    show List.lookup g [(f, v)] = _
    by_cases h : g = f
    · have hb : (g == f) = true := beq_iff_eq.mpr h
      simp only [List.lookup, hb, if_pos h]
    · have hb : (g == f) = false := beq_eq_false_iff_ne.mpr h
      simp only [List.lookup, hb, if_neg h]
  | (k, x) :: r => by
    have ih := lookup_putF f g v r
    rw [show putF f v ((k, x) :: r) = (if k = f then (k, v) :: r else (k, x) :: putF f v r) from rfl]
    by_cases hk : k = f
    · rw [if_pos hk]
      by_cases h : g = k
      · have hb : (g == k) = true := beq_iff_eq.mpr h
        simp only [List.lookup, hb, if_pos (h.trans hk)]
      · have hb : (g == k) = false := beq_eq_false_iff_ne.mpr h
        simp only [List.lookup, hb, if_neg (fun e : g = f => h (e.trans hk.symm))]
    · rw [if_neg hk]
      by_cases h : g = k
      · have hb : (g == k) = true := beq_iff_eq.mpr h
        simp only [List.lookup, hb, if_neg (fun e : g = f => hk (h.symm.trans e))]
      · have hb : (g == k) = false := beq_eq_false_iff_ne.mpr h
        simp only [List.lookup, hb]
        exact ih
theorem keys_putF (f : Str) (v : V) : ∀ fs : List (Str × V), f ∈ (putF f v fs).map (·.1) ∧ ∀ g, g ∈ fs.map (·.1) → g ∈ (putF f v fs).map (·.1)
  | [] => ⟨by simp [putF], fun g h => by simp at h⟩
  | (k, x) :: r => by
    obtain ⟨i1, i2⟩ := keys_putF f v r
    rw [show putF f v ((k, x) :: r) = (if k = f then (k, v) :: r else (k, x) :: putF f v r) from rfl]
    by_cases hk : k = f
    · rw [if_pos hk]
      subst hk
      exact ⟨by simp, fun g h => by simpa using h⟩
    · rw [if_neg hk]
      refine ⟨?_, fun g h => ?_⟩
      · rw [List.map_cons]
        exact List.mem_cons_of_mem _ i1
      · rw [List.map_cons] at h ⊢
        rcases List.mem_cons.mp h with e | e
        · exact List.mem_cons.mpr (.inl e)
        · exact List.mem_cons_of_mem _ (i2 g e)
theorem length_putF (f : Str) (v : V) : ∀ fs : List (Str × V), (putF f v fs).length ≤ fs.length + 1
  | [] => by simp [putF]
  | (k, x) :: r => by
    have ih := length_putF f v r
    rw [show putF f v ((k, x) :: r) = (if k = f then (k, v) :: r else (k, x) :: putF f v r) from rfl]
    by_cases hk : k = f
    · rw [if_pos hk, List.length_cons, List.length_cons]; omega
    · rw [if_neg hk, List.length_cons, List.length_cons]; omega

theorem RelO.some_of {v : V} {o : Option Value} (r : RelO (some v) o) : ∃ u, o = some u ∧ RelV v u := by
  cases o with
  | none => exact (show False from r).elim
  | some u => exact ⟨u, rfl, r⟩
theorem RelO.none_of {o : Option Value} (r : RelO none o) : o = none := by
  cases o with
  | none => rfl
  | some u => exact (show False from r).elim
theorem handed_of {v : V} {u : Value} (r : RelV v u) : PySem.W.handedIn u = true := by
  cases v with
  | non => cases (show u = Value.none from r); rfl
  | bl b => cases (show u = Value.bool b from r); rfl
  | int i => obtain ⟨t, e⟩ := (show ∃ t, u = Value.int i t from r); cases e; rfl
  | str x => obtain ⟨t, e⟩ := (show ∃ t, u = Value.str x t from r); cases e; rfl
  | byt b => obtain ⟨t, e⟩ := (show ∃ t, u = Value.bytes b t from r); cases e; rfl
  | flt b => obtain ⟨t, e⟩ := (show ∃ t, u = Value.float b t from r); cases e; rfl
  | ref a => cases (show u = Value.ref a from r); rfl
  | ty n => cases (show u = Value.type n from r); rfl

section
variable {P : Program} {w : World} {H H' : Hp} {h h' : Heap} {a C dx : Addr} {fs fs' : List (Str × V)}
theorem ins_get (hok : HOk P w H h) (e : H a = some (.ins C dx fs)) : ∃ mA, ObjM h a dx C mA ∧ (∀ f, RelO (fs.lookup f) (mA f)) ∧ PySem.Within mA (fs.map (·.1)) ∧ fs.length ≤ 1000 ∧ H dx = some (.own a) := by
  obtain ⟨d, z, ne, ob, mA, n, r, q⟩ := (show ObjOk P w H h a (.ins C dx fs) from hok a _ e)
  exact ⟨mA, ⟨ob, n, ne⟩, r, q, z, d⟩
end

/-! ### what of the text a class must have -/
structure Cls (K : PySem.W.Frag) (C : Addr) : Prop where
  pg : PySem.W.plainGet K C Str.empty = true
  hd : PySem.W.hasDictIn K C = true
  po : PySem.W.plainOver K C = true
  sa : PySem.W.findIn K (.ref C) "__setattr__" = some (some (.builtin "object.__setattr__"))
theorem Cls.get {K : PySem.W.Frag} {C : Addr} (c : Cls K C) (f : Str) : PySem.W.plainGet K C f = true := c.pg
/-- no class of it has the name -/
def NoAttr (K : PySem.W.Frag) (C : Addr) (f : Str) : Prop := PySem.W.findIn K (.ref C) f = some none
theorem NoAttr.taker {K : PySem.W.Frag} {C : Addr} {f : Str} (n : NoAttr K C f) : PySem.W.takerIn K C f = some none := by
  unfold PySem.W.takerIn
  rw [show PySem.W.findIn K (.ref C) f = some none from n]
  rfl
/-- a method: a plain def of the class or of one above it -/
structure Meth (K : PySem.W.Frag) (C : Addr) (m : Str) (f : Addr) : Prop where
  at_ : PySem.W.findIn K (.ref C) m = some (some (.ref f))
  fn : PySem.W.isFn K (.ref f) = true
  kp : PySem.W.keepIn K (.ref f) = true

section
variable {X : Cx} {pins : List (Addr × Obj)} {σ : St} {H : Hp} {s : Shared} {a C dx : Addr} {fs : List (Str × V)} {f : Str} {v : V} {A : Around} {E : Value → Shared → Prop}

theorem getattr_ok {b : Bool} {Q : Value → Shared → Prop} (I : Inv X pins σ H s) (e : H a = some (.ins C dx fs)) (c : Cls X.K C) (n : NoAttr X.K C f) (l : fs.lookup f = some v)
    (h : ∀ u s', Inv X pins σ H s' → RelV v u → Q u s') : wpAny (model X.prog X.w) A (getAttr (.ref a) f b) Q E s := by
  obtain ⟨mA, O, r, _, _, _⟩ := ins_get I.hok e
  obtain ⟨u, hu, ru⟩ := RelO.some_of (v := v) (o := mA f) (by rw [← l]; exact r f)
  exact get_map I.kIn O (c.get f) c.hd n hu (handed_of ru) (h u _ (I.tok _) ru)


theorem getmeth_ok {m : Str} {g : Addr} {pl : Sem Bool} {Q : Value × List Value → Shared → Prop} (I : Inv X pins σ H s) (e : H a = some (.ins C dx fs)) (c : Cls X.K C) (k : Meth X.K C m g) (l : fs.lookup m = none)
    (h : Q (.ref g, [.ref a]) s) : wpAny (model X.prog X.w) A (getMethod (.ref a) m pl) Q E s := by
  obtain ⟨mA, O, r, _, _, _⟩ := ins_get I.hok e
  have hn : mA m = none := RelO.none_of (by rw [← l]; exact r m)
  exact get_meth I.kIn O (c.get m) k.at_ k.fn hn h

theorem setattr_ok {y : V} {u : Value} {Q : Unit → Shared → Prop} (I : Inv X pins σ H s) (e : H a = some (.ins C dx fs)) (c : Cls X.K C) (n : NoAttr X.K C f) (hl : fs.length < 1000) (ry : RelV y u)
    (h : ∀ s', Inv X pins σ (upd H a (.ins C dx (putF f y fs))) s' → Q () s') : wpAny (model X.prog X.w) A (setAttr (.ref a) f u) Q E s := by
  obtain ⟨mA, O, r, wi, _, ho⟩ := ins_get I.hok e
  have hz : (fs.map (·.1)).length ≤ sizeLine := by rw [List.length_map, sizeLine_eq]; omega
  refine set_map I.kIn O c.sa c.po n.taker c.hd wi hz fun h' O' sb => h _ ?_
  have hd : ∃ o, h'.get? dx = some o := let ⟨o, _, _, e', _⟩ := O'.ns; ⟨o, e'⟩
  refine I.write (x := a) (e := dx) (by rw [e]; exact True.intro) (.inr ho) (fun b q hb z => (sb.2 b hb).trans z) hd ?_
  refine ⟨by rw [upd_ne O.ne]; exact ho, ?_, O.ne, O'.obj, _, O'.ns, fun g => ?_, fun g hg => ?_⟩
  · have := length_putF f y fs; omega
  · show RelO ((putF f y fs).lookup g) (if g = f then some u else mA g)
    rw [lookup_putF]
    by_cases q : g = f
    · rw [if_pos q, if_pos q]; exact ry
    · rw [if_neg q, if_neg q]; exact r g
  · by_cases q : g = f
    · rw [q]; exact (keys_putF f y fs).1
    · refine (keys_putF f y fs).2 g (wi g fun z => hg ?_)
      show (if g = f then some u else mA g) = none
      rw [if_neg q]; exact z

/-- a new instance, tracked, without attributes -/
theorem Inv.made (I : Inv X pins σ H s) : Inv X pins σ (upd (upd H s.heap.objs.size (.own (s.heap.objs.size + 1))) (s.heap.objs.size + 1) (.ins C s.heap.objs.size []))
    { s with heap := (s.heap.push PySem.W.emptyDict).push (PySem.W.instObj C s.heap.objs.size) } := by
  have e1 : (s.heap.push PySem.W.emptyDict).get? s.heap.objs.size = some PySem.W.emptyDict := Heap.get?_push_size s.heap rfl
  have e2 : ((s.heap.push PySem.W.emptyDict).push (PySem.W.instObj C s.heap.objs.size)).get? (s.heap.objs.size + 1) = some (PySem.W.instObj C s.heap.objs.size) := by
    have := Heap.get?_push_size (s.heap.push PySem.W.emptyDict) (o := PySem.W.instObj C s.heap.objs.size) rfl
    rwa [Heap.size_push] at this
  have e3 : (s.heap.push PySem.W.emptyDict).Ns s.heap.objs.size (fun _ => none) := ⟨PySem.W.emptyDict, #[], _, e1, rfl, (fun e he => absurd he (by simp)), fun _ => rfl⟩
  have I1 := I.laid (a := s.heap.objs.size) (o := .own (s.heap.objs.size + 1)) (h' := s.heap.push PySem.W.emptyDict) (t' := s.toks) (fun b u q => Heap.get?_push_of_some _ q) (Nat.le_refl _) ⟨_, e1⟩
  refine I1.laid (a := s.heap.objs.size + 1) (o := .ins C s.heap.objs.size []) (t' := s.toks) (fun b u q => Heap.get?_push_of_some _ q) (Nat.le_of_eq (Heap.size_push _ _)) ?_
  have ne : s.heap.objs.size ≠ s.heap.objs.size + 1 := Nat.ne_of_lt (Nat.lt_succ_self _)
  refine ⟨by rw [upd_ne ne, upd_same], Nat.zero_le _, ne, e2, fun _ => none, (Heap.Ns1.of_empty e3).at fun o q => Heap.get?_push_of_some _ q, fun _ => True.intro, fun y hy => absurd rfl hy⟩

/-- e.f where nothing but the object is asked: through attributeBase (super) and the last hold -/
theorem attr_of {prog : Program} {w : World} {env : Env} {e : Expr} {f : Str} {pos : Pos} {s : Shared} {Q : Value → Shared → Prop} (hb : attributeBase e f env (eval e env) = eval e env)
    (h : wpAny (model prog w) A (eval e env) (fun o s₁ => wpAny (model prog w) A (getAttr o f true) Q E s₁) E s) : wpAny (model prog w) A (eval (.Attribute e f pos) env) Q E s :=
  Attribute_any_ h (by rw [arm_eval_Attribute, hb])
end

/-! ### readings and rules -/
/-- e.f, an attribute of the instance -/
def tFld (K : PySem.W.Frag) (ta : TE) (f : Str) : TE := fun σ H Q => ta σ H fun x H1 => ∃ a C dx fs v, x = .ref a ∧ H1 a = some (.ins C dx fs) ∧ Cls K C ∧ NoAttr K C f ∧ fs.lookup f = some v ∧ Q v H1
/-- e.f = value -/
def sFld (K : PySem.W.Frag) (ta tv : TE) (f : Str) : TS := fun D σ H => tv σ H fun y H1 => ta σ H1 fun x H2 => ∃ a C dx fs, x = .ref a ∧ H2 a = some (.ins C dx fs) ∧ Cls K C ∧ NoAttr K C f ∧ fs.length < 1000 ∧
  D.nx σ (upd H2 a (.ins C dx (putF f y fs)))

section
variable {X : Cx} {o e value : Expr} {f : Str} {pos pos' tpos : Pos} {ta tv : TE}
theorem pe_fld (he : PE X e ta) (hb : attributeBase e f X.env (eval e X.env) = eval e X.env) : PE X (.Attribute e f pos) (tFld X.K ta f) := by
  intro pins s σ H Q I h
  refine attr_of hb (thn (he pins s σ H _ I h) fun u s1 ⟨x, H1, I1, rx, a, C, dx, fs, v, ex, ea, c, n, l, q⟩ => ?_)
  subst ex
  obtain rfl : u = Value.ref a := rx
  exact getattr_ok I1 ea c n l fun u' s2 I2 ru => ⟨v, H1, I2, ru, q⟩
theorem ps_fld (ha : PE X o ta) (hv : PE X value tv) (hs : swapsWith value (some (.Attribute o f pos')) pos.line X.env = pure false) : PS X (.Assign [.Attribute o f pos'] value pos) (sFld X.K ta tv f) := by
  intro pins s σ H D I h
  refine plainObj_wpAny_Assign_Attribute (thn (hv pins s σ H _ I h) fun u s1 ⟨y, H1, I1, ry, q⟩ => thn (ha pins s1 σ H1 _ I1 q) fun ov s2 ⟨x, H2, I2, rx, a, C, dx, fs, ex, ea, c, n, l, q2⟩ => ?_) hs
  subst ex
  obtain rfl : ov = Value.ref a := rx
  exact setattr_ok I2 ea c n l ry fun s3 I3 => ⟨σ, _, I3, q2⟩

/-- what is between an instance and its method: the tree of a method call -/
theorem methcall_of {pl : Sem Bool} {m : Str} {apos : Pos} {args : List Expr} {pins : List (Addr × Obj)} {s : Shared} {σ : St} {H : Hp} {Q : Value → Shared → Prop} {te : TE} (he : PE X e te) (I : Inv X pins σ H s)
    (h : te σ H fun x H1 => ∃ a C dx fs g, x = .ref a ∧ H1 a = some (.ins C dx fs) ∧ Cls X.K C ∧ Meth X.K C m g ∧ fs.lookup m = none ∧
      ∀ s1, Inv X pins σ H1 s1 → wpAny (model X.prog X.w) X.A (callWith pos (.ref g) [.ref a] (backTo pos (starEach args X.env)) (backToKw pos (keywordEach [] X.env))) Q X.xe s1)
    (ht : eval (.Call (.Attribute e m apos) args [] pos) X.env = (do
      let ov ← eval e X.env
      standAt apos.atName
      let (f, first) ← holding [ov] (getMethod ov m pl)
      callWith pos f first (backTo pos (starEach args X.env)) (backToKw pos (keywordEach [] X.env)))) :
    wpAny (model X.prog X.w) X.A (eval (.Call (.Attribute e m apos) args [] pos) X.env) Q X.xe s := by
  refine PySem.W.methodCall_KW (pl := pl) (thn (he pins s σ H _ I h) fun u s1 ⟨x, H1, I1, rx, a, C, dx, fs, g, ex, ea, c, k, l, q⟩ => ?_) ht
  subst ex
  obtain rfl : u = Value.ref a := rx
  exact getmeth_ok I1 ea c k l (q s1 I1)
end

/-! ### isinstance -/
section
variable {X : Cx} {pins : List (Addr × Obj)} {σ : St} {H : Hp} {s : Shared} {A : Around} {E : Value → Shared → Prop} {Q : Value → Shared → Prop} {c : Value} {b : Bool}
end
end L2

namespace L2
open PySem PySem.Spec PyProof.Rows

/-! ### room -/
structure Room (k : Nat) (A : Around) : Prop where
  hd : A.handled = none
  dp : A.depth + 3 * k + 5 < recursionLimit
  un : A.units + 16 * k + 200 < cLine
theorem Room.mono {j k : Nat} {A : Around} (r : Room k A) (h : j ≤ k) : Room j A := ⟨r.hd, by have := r.dp; omega, by have := r.un; omega⟩
theorem Room.deeper {k : Nat} {A : Around} (r : Room (k + 1) A) (env : Env) : Room k (A.deeper env) :=
  ⟨r.hd, by have := r.dp; show A.depth + 1 + 3 * k + 5 < _; omega, by have := r.un; show A.units + 3 + 16 * k + 200 < _; omega⟩
theorem make_depth {A : Around} {C : Addr} {us : List Value} {kw : List (Str × Value)} : (A.under (.builtin "type.__call__" ⟨.ref C :: us, kw⟩)).depth = A.depth + 1 := by
  first | rfl | simp [Around.under, Code.weight, Code.isCreation, Code.isGuard, Code.isCaller, Code.frames, Code.isFrame, guardIds]
theorem make_units {A : Around} {C : Addr} {us : List Value} {kw : List (Str × Value)} : (A.under (.builtin "type.__call__" ⟨.ref C :: us, kw⟩)).units = A.units + 1 := by
  first | rfl | simp [Around.under, Code.cUnits, Code.frames, Code.isFrame]
theorem Room.make {k : Nat} {A : Around} (r : Room (k + 1) A) (C : Addr) (us : List Value) (kw : List (Str × Value)) : Room k (A.under (.builtin "type.__call__" ⟨.ref C :: us, kw⟩)) :=
  ⟨r.hd, by have := r.dp; rw [make_depth]; omega, by have := r.un; rw [make_units]; omega⟩
theorem Room.depth {k : Nat} {A : Around} (r : Room k A) : A.depth < recursionLimit := by have := r.dp; omega

/-! ### argument lists and displays -/
def tNil : TA := fun _ H Q => Q [] H
def tCons (ta : TE) (tr : TA) : TA := fun σ H Q => ta σ H fun x H1 => tr σ H1 fun xs H2 => Q (x :: xs) H2
section
variable {X : Cx} {e : Expr} {es : List Expr} {te : TE} {t : TA} {pos : Pos}
theorem pa_nil : PA X [] tNil := fun _ _ _ _ H Q I h => Calls.spliced_nil ⟨[], H, I, .nil, h⟩
theorem pa_cons (ha : PE X e te) (hr : PA X es t) (hs : starEach (e :: es) X.env = (false, eval e X.env) :: starEach es X.env := by rfl) : PA X (e :: es) (tCons te t) := by
  intro pos pins s σ H Q I h
  rw [hs]
  show wpAny _ _ (spliced ((false, eval e X.env) :: backTo pos (starEach es X.env))) _ _ s
  refine Calls.spliced_cons (thn (ha pins s σ H _ I h) fun u s1 ⟨x, H1, I1, r1, q1⟩ => ?_)
  exact thn (hr pos pins s1 σ H1 _ I1 q1) fun us s2 ⟨xs, H2, I2, r2, q2⟩ => ⟨x :: xs, H2, I2, .cons r1 r2, q2⟩

/-- a tuple, a list of written items -/
def tTup (t : TA) : TE := fun σ H Q => t σ H fun xs H1 => xs.length ≤ sizeLine ∧ ∀ p, H1 p = none → Q (.ref p) (upd H1 p (.tup xs))
def tLst (t : TA) : TE := fun σ H Q => t σ H fun xs H1 => xs.length ≤ sizeLine ∧ ∀ p, H1 p = none → Q (.ref p) (upd H1 p (.lst xs))
theorem pe_tup {x1} (h : PA X es t) : PE X (.Tuple es x1 pos) (tTup t) := by
  intro pins s σ H Q I hq
  refine wpAny_Tuple_spliced (thn (h pos pins s σ H _ I hq) fun us s1 ⟨xs, H1, I1, r, z, q⟩ => ⟨by rw [← r.length]; exact z, ?_⟩)
  have hf : H1 s1.heap.objs.size = none := I1.hok.fresh (Nat.le_refl _)
  refine ⟨.ref s1.heap.objs.size, upd H1 s1.heap.objs.size (.tup xs), I1.laid (t' := s1.toks) (fun b u e => Heap.get?_push_of_some _ e) (Nat.le_refl _) ?_, rfl, q _ hf⟩
  exact ⟨z, us, r, ⟨_, Heap.get?_push_size _ rfl, rfl, _, rfl⟩⟩
theorem pe_lst (h : PA X es t) : PE X (.List es pos) (tLst t) := by
  intro pins s σ H Q I hq
  refine wpAny_List_spliced (thn (h pos pins s σ H _ I hq) fun us s1 ⟨xs, H1, I1, r, z, q⟩ => ⟨by rw [← r.length]; exact z, ?_⟩)
  have hf : H1 s1.heap.objs.size = none := I1.hok.fresh (Nat.le_refl _)
  refine ⟨.ref s1.heap.objs.size, upd H1 s1.heap.objs.size (.lst xs), I1.laid (t' := s1.toks) (fun b u e => Heap.get?_push_of_some _ e) (Nat.le_refl _) ?_, rfl, q _ hf⟩
  exact ⟨z, us, 0, r, Heap.get?_push_size _ rfl⟩
end

/-! ### what a def promises -/
/-- a def's promise: the bound arguments in the parameters' order, the heap, the wanted end, the wanted exception -/
abbrev Sp := List V → Hp → VK → XK → Prop
/-- how an exception lies behind a call (file 08 gives it): the callers' frames, abstract heap and state ahead of the call, the wish, the exception, the state -/
abbrev CXT := List Env → Hp → Shared → XK → Value → Shared → Prop

/-- the state at a call -/
structure Env0 (P : Program) (w : World) (K : PySem.W.Frag) (mg : Str → Option Value) (base : Heap) (A : Around) (outer : List Env) (s : Shared) (H : Hp) : Prop where
  frames : A.frames = some outer
  mod : Mod K mg base
  bs : ∀ b o, base.get? b = some o → s.heap.get? b = some o ∧ H b = none
  bsz : base.objs.size ≤ s.heap.objs.size
  funs : s.heap.FunFrames base outer
  frf : ∀ b ∈ frs outer, H b = none
  hok : HOk P w H s.heap
  bare : AllBare s.gens
/-- a call's end -/
def CE (outer : List Env) (P : Program) (w : World) (H : Hp) (s : Shared) (Q : VK) (u : Value) (s' : Shared) : Prop :=
  ∃ v H', s'.os = s.os ∧ AllBare s'.gens ∧ Un (frs outer) [] H H' s.heap s'.heap ∧ HOk P w H' s'.heap ∧ RelV v u ∧ Q v H'
def CR (CX : CXT) (outer : List Env) (P : Program) (w : World) (H : Hp) (s : Shared) (Q : VK) (E : XK) (r : Result) (s' : Shared) : Prop :=
  match r with
  | .ok (.ret u) => CE outer P w H s Q u s'
  | .ok _ => False
  | .error e => CX outer H s E e s'
structure FnOk (P : Program) (w : World) (K : PySem.W.Frag) (mg : Str → Option Value) (base : Heap) (CX : CXT) (k : Nat) (f : Addr) (fd : FuncData) (ps : List Str) (sp : Sp) : Prop where
  len : ∀ vs H Q E, sp vs H Q E → vs.length = ps.length
  run : ∀ (A : Around) (outer : List Env) (s : Shared) (H : Hp) (args : Args) (us : List Value) (vs : List V) (Q : VK) (E : XK), Room k A → Env0 P w K mg base A outer s H → BindsTo s fd args (ps.zip us) → Vals vs us → sp vs H Q E →
    codeAny (model P w) A (.call (.ref f) args) (CR CX outer P w H s Q E) s

theorem Env0.make {P : Program} {w : World} {K : PySem.W.Frag} {mg : Str → Option Value} {base : Heap} {A : Around} {outer : List Env} {s : Shared} {H : Hp} (e : Env0 P w K mg base A outer s H) (C : Addr) (us : List Value) (kw : List (Str × Value)) :
    Env0 P w K mg base (A.under (.builtin "type.__call__" ⟨.ref C :: us, kw⟩)) outer s H := ⟨by first | exact e.frames | (simpa [Around.under, Code.envs, Code.isFrame, pushEnvs] using e.frames), e.mod, e.bs, e.bsz, e.funs, e.frf, e.hok, e.bare⟩

section
variable {X : Cx} {pins : List (Addr × Obj)} {σ : St} {H : Hp} {s s' : Shared}
/-- from a body: what a callee wants -/
theorem Inv.env0 (I : Inv X pins σ H s) : Env0 X.prog X.w X.K X.mg X.base X.A X.stack s H :=
  ⟨I.ok.frames, I.ok.mod, I.bs, Nat.le_trans I.ok.bsz I.sz, I.stack, I.stkFree, I.hok, I.bare⟩
/-- behind a call -/
theorem Inv.after {Q : VK} {u : Value} (I : Inv X pins σ H s) (h : CE X.stack X.prog X.w H s Q u s') : EP X pins σ Q u s' := by
  obtain ⟨v, H', os, bare, un, hok, r, q⟩ := h
  obtain ⟨hh, g, d, t, os'⟩ := s'
  obtain rfl : os' = s.os := os
  exact ⟨v, H', I.call (h' := hh) (g' := g) (d' := d) (t' := t) (ch := []) un hok bare (fun b z => absurd z (by simp)), r, q⟩
end

/-! ### calls -/
/-- f(..): the written arguments, then the defaults dvs; E: what is wanted of an exception -/
def tCall (sp : Sp) (dvs : List V) (E : XK) (t : TA) : TE := fun σ H Q => t σ H fun vs H1 => sp (vs ++ dvs) H1 Q E
/-- o.m(..) of an instance of the class at C -/
def tMeth (C : Addr) (m : Str) (sp : Sp) (dvs : List V) (E : XK) (ta : TE) (t : TA) : TE := fun σ H Q => ta σ H fun x H1 => ∃ a dx fs, x = .ref a ∧ H1 a = some (.ins C dx fs) ∧ fs.lookup m = none ∧
  t σ H1 fun vs H2 => sp (x :: (vs ++ dvs)) H2 Q E
/-- C(..): a new instance and its dict, then __init__ -/
def tMake (C : Addr) (sp : Sp) (dvs : List V) (E : XK) (t : TA) : TE := fun σ H Q => t σ H fun vs H1 => ∀ x dx, H1 x = none → H1 dx = none → dx ≠ x →
  sp (.ref x :: (vs ++ dvs)) (upd (upd H1 dx (.own x)) x (.ins C dx [])) (fun v H2 => v = .non ∧ Q (.ref x) H2) E

/-- how the parameters are bound: us the positional arguments, kw the keywords' values by name, ds the defaults that fill up -/
def Binds (K : PySem.W.Frag) (fd : FuncData) (ps : List Str) (ds : List Value) : Prop :=
  ∀ (s : Shared) (us : List Value), K.In s.heap → (us ++ ds).length = ps.length → BindsTo s fd ⟨us, []⟩ (ps.zip (us ++ ds))
/-- every parameter is given -/
theorem Binds.all {K : PySem.W.Frag} {fd : FuncData} {ps : List Str} (h : ∀ us : List Value, us.length = ps.length → bindArgs fd ⟨us, []⟩ = pure (ps.zip us)) : Binds K fd ps [] := fun s us _ hl => by
  rw [List.append_nil] at hl ⊢
  exact .of_eq (h us hl)

/-- an exception of a callee reaches what this body wants of exceptions -/
def Passes (CX : CXT) (X : Cx) (E : XK) : Prop := ∀ (pins : List (Addr × Obj)) (σ : St) (H : Hp) (s : Shared) (e : Value) (s' : Shared), Inv X pins σ H s → CX X.stack H s E e s' → X.xe e s'

section
variable {X : Cx} {CX : CXT} {k : Nat} {f C : Addr} {fd : FuncData} {ps : List Str} {sp : Sp} {dvs : List V} {ds : List Value} {E : XK} {x m : Str} {p pos apos : Pos} {e o : Expr} {es : List Expr} {ta : TE} {t : TA}

/-- the callee runs -/
theorem run_fn {pins : List (Addr × Obj)} {σ : St} {H : Hp} {s : Shared} {Q : VK} {us : List Value} {vs : List V} (F : FnOk X.prog X.w X.K X.mg X.base CX k f fd ps sp) (hr : Room k X.A) (hb : Binds X.K fd ps ds) (hd : Vals dvs ds) (hx : Passes CX X E)
    (I : Inv X pins σ H s) (r : Vals vs us) (h : sp (vs ++ dvs) H Q E) : wpAny (model X.prog X.w) X.A (call (.ref f) us) (EP X pins σ Q) X.xe s := by
  have r2 : Vals (vs ++ dvs) (us ++ ds) := r.append hd
  have hl : (us ++ ds).length = ps.length := by rw [← r2.length]; exact F.len _ _ _ _ h
  refine wpAny_call (codeAny_mono (F.run X.A X.stack s H ⟨us, []⟩ (us ++ ds) (vs ++ dvs) Q E hr I.env0 (hb s us I.kIn hl) r2 h) fun r s' hq => ?_)
  cases r with
  | error e => exact hx pins σ H s e s' I hq
  | ok fl =>
    cases fl with
    | ret u => exact I.after hq
    | next => exact False.elim hq
    | brk => exact False.elim hq
    | cont => exact False.elim hq

theorem pe_call (F : FnOk X.prog X.w X.K X.mg X.base CX k f fd ps sp) (hr : Room k X.A) (hg : Gl X x) (hm : X.mg x = some (.ref f)) (hk : PySem.W.keepIn X.K (.ref f) = true) (hb : Binds X.K fd ps ds) (hd : Vals dvs ds) (hx : Passes CX X E)
    (ha : PA X (e :: es) t) (hdb : (x == ("__debug__" : Str)) = false := by decide) (he : starEach (e :: es) X.env = (false, eval e X.env) :: starEach es X.env := by rfl) (hpl : (backTo pos (starEach es X.env)).any (·.1) = false := by rfl) :
    PE X (.Call (.Name x p) (e :: es) [] pos) (tCall sp dvs E t) := by
  intro pins s σ H Q I h
  refine wpAny_Call_Name_kw (ld_glob I hg hm ?_ hdb)
  refine PySem.W.callWith_K (h₀ := X.base) I.ok.mod.kin hk (thn (ha pos pins s σ H _ I h) fun us s1 ⟨vs, H1, I1, r, q⟩ => ⟨I1.kIn, ?_⟩) he hpl
  exact run_fn F hr hb hd hx I1 r q

/-- o.m(e, ..) -/
theorem pe_meth {pl : Sem Bool} (he : PE X o ta) (c : Cls X.K C) (hm : Meth X.K C m f) (F : FnOk X.prog X.w X.K X.mg X.base CX k f fd ps sp) (hr : Room k X.A) (hb : Binds X.K fd ps ds) (hd : Vals dvs ds) (hx : Passes CX X E) (ha : PA X (e :: es) t)
    (hst : starEach (e :: es) X.env = (false, eval e X.env) :: starEach es X.env := by rfl) (hpl : (backTo pos (starEach es X.env)).any (·.1) = false := by rfl)
    (ht : eval (.Call (.Attribute o m apos) (e :: es) [] pos) X.env = (do
      let ov ← eval o X.env
      standAt apos.atName
      let (f, first) ← holding [ov] (getMethod ov m pl)
      callWith pos f first (backTo pos (starEach (e :: es) X.env)) (backToKw pos (keywordEach [] X.env))) := by rfl) :
    PE X (.Call (.Attribute o m apos) (e :: es) [] pos) (tMeth C m sp dvs E ta t) := by
  intro pins s σ H Q I h
  refine PySem.W.methodCall_KW (pl := pl) (thn (he pins s σ H _ I h) fun u s1 ⟨x, H1, I1, rx, a, dx, fs, ex, ea, l, q⟩ => ?_) ht
  subst ex
  obtain rfl : u = Value.ref a := rx
  refine getmeth_ok I1 ea c hm l ?_
  refine PySem.W.callWith_K (first := [.ref a]) (h₀ := X.base) I.ok.mod.kin hm.kp (thn (ha pos pins s1 σ H1 _ I1 q) fun us s2 ⟨vs, H2, I2, r, q2⟩ => ⟨I2.kIn, ?_⟩) hst hpl
  exact run_fn (us := .ref a :: us) (vs := .ref a :: vs) F hr hb hd hx I2 (.cons rfl r) q2
/-- o.m() -/
theorem pe_meth0 {pl : Sem Bool} (he : PE X o ta) (c : Cls X.K C) (hm : Meth X.K C m f) (F : FnOk X.prog X.w X.K X.mg X.base CX k f fd ps sp) (hr : Room k X.A) (hb : Binds X.K fd ps ds) (hd : Vals dvs ds) (hx : Passes CX X E)
    (ht : eval (.Call (.Attribute o m apos) [] [] pos) X.env = (do
      let ov ← eval o X.env
      standAt apos.atName
      let (f, first) ← holding [ov] (getMethod ov m pl)
      callWith pos f first (backTo pos (starEach [] X.env)) (backToKw pos (keywordEach [] X.env))) := by rfl) :
    PE X (.Call (.Attribute o m apos) [] [] pos) (tMeth C m sp dvs E ta tNil) := by
  intro pins s σ H Q I h
  refine PySem.W.methodCall_KW (pl := pl) (thn (he pins s σ H _ I h) fun u s1 ⟨x, H1, I1, rx, a, dx, fs, ex, ea, l, q⟩ => ?_) ht
  subst ex
  obtain rfl : u = Value.ref a := rx
  refine getmeth_ok I1 ea c hm l ?_
  exact PySem.W.callWith_K0 (first := [.ref a]) I1.kIn hm.kp (run_fn (us := [.ref a]) (vs := [.ref a]) F hr hb hd hx I1 (.cons rfl .nil) q)

/-- what a class must have to be made -/
structure Mk (K : PySem.W.Frag) (C f : Addr) : Prop where
  makes : PySem.W.makesIn K C = true
  init : PySem.W.findIn K (.ref C) "__init__" = some (some (.ref f))
  fn : PySem.W.isFn K (.ref f) = true
  kp : PySem.W.keepIn K (.ref C) = true

theorem run_make {pins : List (Addr × Obj)} {σ : St} {H : Hp} {s : Shared} {Q : VK} {us : List Value} {vs : List V} (M : Mk X.K C f) (F : FnOk X.prog X.w X.K X.mg X.base CX k f fd ps sp) (hr : Room (k + 1) X.A) (hb : Binds X.K fd ps ds) (hd : Vals dvs ds)
    (hx : Passes CX X E) (I : Inv X pins σ H s) (r : Vals vs us)
    (h : ∀ x dx, H x = none → H dx = none → dx ≠ x → sp (.ref x :: (vs ++ dvs)) (upd (upd H dx (.own x)) x (.ins C dx [])) (fun v H2 => v = .non ∧ Q (.ref x) H2) E) :
    wpAny (model X.prog X.w) X.A (call (.ref C) us) (EP X pins σ Q) X.xe s := by
  have hq := h (s.heap.objs.size + 1) s.heap.objs.size (I.hok.fresh (Nat.le_succ _)) (I.hok.fresh (Nat.le_refl _)) (Nat.ne_of_lt (Nat.lt_succ_self _))
  have I2 := Inv.made (C := C) I
  have r2 : Vals (V.ref (s.heap.objs.size + 1) :: (vs ++ dvs)) (Value.ref (s.heap.objs.size + 1) :: (us ++ ds)) := .cons rfl (r.append hd)
  have hl : (Value.ref (s.heap.objs.size + 1) :: us ++ ds).length = ps.length := by
    have e := r2.length
    rw [F.len _ _ _ _ hq] at e
    exact e.symm
  refine wpAny_call (make_map (f := f) I.kIn M.makes M.init (beq_iff_eq.mp M.fn) (codeAny_mono (F.run _ X.stack _ _ ⟨Value.ref (s.heap.objs.size + 1) :: us, []⟩ (Value.ref (s.heap.objs.size + 1) :: (us ++ ds)) _ _ E (hr.make C us [])
    (I2.env0.make C us []) (hb _ (Value.ref (s.heap.objs.size + 1) :: us) I2.kIn hl) r2 hq) fun r s' hq' => ?_))
  cases r with
  | error e => exact hx pins σ _ _ e s' I2 hq'
  | ok fl =>
    cases fl with
    | ret u =>
      obtain ⟨v, H', I3, rv, ev, q3⟩ := I2.after hq'
      subst ev
      exact ⟨rv, ⟨V.ref (s.heap.objs.size + 1), H', I3, rfl, q3⟩⟩
    | next => exact False.elim hq'
    | brk => exact False.elim hq'
    | cont => exact False.elim hq'
theorem pe_make0 (M : Mk X.K C f) (F : FnOk X.prog X.w X.K X.mg X.base CX k f fd ps sp) (hr : Room (k + 1) X.A) (hg : Gl X x) (hm : X.mg x = some (.ref C)) (hb : Binds X.K fd ps ds) (hd : Vals dvs ds) (hx : Passes CX X E)
    (hdb : (x == ("__debug__" : Str)) = false := by decide) : PE X (.Call (.Name x p) [] [] pos) (tMake C sp dvs E tNil) := by
  intro pins s σ H Q I h
  refine wpAny_Call_Name_kw (ld_glob I hg hm ?_ hdb)
  exact PySem.W.callWith_K0 I.kIn M.kp (run_make (us := []) M F hr hb hd hx I .nil h)
end

/-! ### keywords -/
section
variable {X : Cx} {CX : CXT} {k : Nat} {f C : Addr} {fd : FuncData} {ps ks : List Str} {sp : Sp} {E : XK} {x m : Str} {p pos apos kpos : Pos} {e o : Expr} {es : List Expr} {kws : List Keyword} {te ta : TE} {t tk : TA} {nm : Option Str}

variable {g : List Value → List Value → List Value} {gV : List V → List V → List V}
end

/-! ### a def's body keeps its promise -/
/-- names: the parameters first -/
structure FnScope (N P : List Str) (sc : Scope) : Prop where
  kind : sc.kind = .function
  co : sc.isCoroutine = false
  gen : sc.isGenerator = false
  nd : N.Nodup
  pre : N.take P.length = P
  par : ∀ x ∈ P, sc.names.lookup x = some .local ∨ sc.names.lookup x = some .cell
  nofree : ∀ y ∈ sc.names, y.2 ≠ .free

theorem bindL_out {kindOf : Str → Option NameKind} {x : Str} : ∀ {binds : List (Str × Value)} {m : Str → Option Value}, (∀ v, (x, v) ∉ binds) → bindL kindOf binds m x = m x
  | [], _, _ => rfl
  | (n, v) :: r, m, h => by
    unfold bindL
    rw [bindL_out fun w hw => h w (List.mem_cons_of_mem _ hw)]
    split
    · have : x ≠ n := by rintro rfl; exact h v List.mem_cons_self
      simp [this]
    · rfl
theorem bindC_out {kindOf : Str → Option NameKind} {x : Str} : ∀ {binds : List (Str × Value)} {m : Str → Option Value}, (∀ v, (x, v) ∉ binds) → bindC kindOf binds m x = m x
  | [], _, _ => rfl
  | (n, v) :: r, m, h => by
    unfold bindC
    rw [bindC_out fun w hw => h w (List.mem_cons_of_mem _ hw)]
    split
    · rfl
    · have : x ≠ n := by rintro rfl; exact h v List.mem_cons_self
      simp [this]
theorem bindL_get {kindOf : Str → Option NameKind} {x : Str} {v : Value} : ∀ {P : List Str} {vs : List Value} {i : Nat} {m : Str → Option Value}, P.Nodup → P[i]? = some x → vs[i]? = some v → kindOf x = some .local →
    bindL kindOf (P.zip vs) m x = some v
  | [], _, _, _, _, h, _, _ => by simp at h
  | _ :: _, [], _, _, _, _, h, _ => by simp at h
  | p :: P, w :: vs, 0, m, nd, h1, h2, hk => by
    simp at h1 h2; subst h1; subst h2
    show bindL kindOf ((p, w) :: P.zip vs) m p = _
    unfold bindL
    rw [bindL_out fun v hv => (List.nodup_cons.mp nd).1 (List.of_mem_zip hv).1, if_pos hk]
    simp
  | p :: P, w :: vs, i + 1, m, nd, h1, h2, hk => by
    show bindL kindOf ((p, w) :: P.zip vs) m x = _
    unfold bindL
    exact bindL_get (i := i) (List.nodup_cons.mp nd).2 (by simpa using h1) (by simpa using h2) hk
theorem bindC_get {kindOf : Str → Option NameKind} {x : Str} {v : Value} : ∀ {P : List Str} {vs : List Value} {i : Nat} {m : Str → Option Value}, P.Nodup → P[i]? = some x → vs[i]? = some v → kindOf x ≠ some .local →
    bindC kindOf (P.zip vs) m x = some v
  | [], _, _, _, _, h, _, _ => by simp at h
  | _ :: _, [], _, _, _, _, h, _ => by simp at h
  | p :: P, w :: vs, 0, m, nd, h1, h2, hk => by
    simp at h1 h2; subst h1; subst h2
    show bindC kindOf ((p, w) :: P.zip vs) m p = _
    unfold bindC
    rw [bindC_out fun v hv => (List.nodup_cons.mp nd).1 (List.of_mem_zip hv).1, if_neg hk]
    simp
  | p :: P, w :: vs, i + 1, m, nd, h1, h2, hk => by
    show bindC kindOf ((p, w) :: P.zip vs) m x = _
    unfold bindC
    exact bindC_get (i := i) (List.nodup_cons.mp nd).2 (by simpa using h1) (by simpa using h2) hk

/-- the names' values at the entry -/
def start (N : List Str) (vs : List V) : St := vs.map some ++ List.replicate (N.length - vs.length) none

/-- the context of a def's body, at its entry; an exception leaves the frame, then lies as CX says -/
def cxOf (CX : CXT) (P : Program) (w : World) (K : PySem.W.Frag) (mg : Str → Option Value) (base : Heap) (N : List Str) (qual : Str) (scope : Scope) (f : Addr) (cd : Value) (A : Around) (outer : List Env) (s : Shared) (H : Hp) (E : XK) : Cx where
  prog := P
  w := w
  K := K
  mg := mg
  base := base
  A := A.deeper (envOfC qual scope s.heap.objs.size f cd)
  N := N
  s_0 := s
  H_0 := H
  env := envOfC qual scope s.heap.objs.size f cd
  outer := outer
  stack := envOfC qual scope s.heap.objs.size f cd :: outer
  ex := []
  calm := true
  fn := fun _ => true
  pn := []
  xe := fun e s' => wpAny (model P w) (A.deeper (envOfC qual scope s.heap.objs.size f cd)) (leaving (envOfC qual scope s.heap.objs.size f cd) e) (fun _ s'' => CX outer H s E e s'') (fun e' s'' => CX outer H s E e' s'') s'

theorem cell_has {sc : Scope} {n : Nat} {x : Str} (h : sc.names.lookup x = some .cell) : ∃ c, (cellsFrom n sc.names []).lookup x = some c := by
  have q := PySem.W.cellsFrom_some sc.names n [] (.inl h)
  exact Option.isSome_iff_exists.mp q

theorem inv_start {CX : CXT} {P : Program} {w : World} {K : PySem.W.Frag} {mg : Str → Option Value} {base : Heap} {N ps : List Str} {qual : Str} {scope : Scope} {f : Addr} {cd : Value} {A : Around} {outer : List Env} {s s1 : Shared} {H : Hp} {E : XK} {us : List Value} {vs : List V}
    (S : FnScope N ps scope) (hd : A.handled = none) (e0 : Env0 P w K mg base A outer s H) (hl : vs.length = ps.length) (r : Vals vs us)
    (x : InCallC s s.heap.objs.size (bindL (envOfC qual scope s.heap.objs.size f cd).kindOf (ps.zip us) fun _ => none) (cellsFrom (s.heap.objs.size + 1) scope.names []) (bindC (envOfC qual scope s.heap.objs.size f cd).kindOf (ps.zip us) fun _ => none) s1) :
    Inv (cxOf CX P w K mg base N qual scope f cd A outer s H E) [] (start N vs) H s1 := by
  have hpl : ps.length ≤ N.length := by have := congrArg List.length S.pre; rw [List.length_take] at this; omega
  obtain ⟨h1, tk, rfl, hk⟩ := x.done
  have noA : ∀ b : Addr, b ∉ (cxOf CX P w K mg base N qual scope f cd A outer s H E).ex := fun b z => absurd (show b ∈ ([] : List Addr) from z) (by simp)
  refine ⟨⟨e0.mod, S.kind, rfl, rfl, Nat.le_refl _, fun y z c h1 h2 => ?_, fun y hy => ?_, fun y c _ h => ?_, fun _ => hd, Around.frames_deeper e0.frames, .inr ⟨rfl, rfl⟩, fun b z => absurd z (noA b), e0.bs, e0.bsz, fun b _ _ => noA b, fun b z => absurd z (noA b), e0.funs, e0.frf⟩,
    rfl, e0.bare, Un.kept hk, ⟨_, x.toInCall.ns, fun i y v h1 h2 h3 => ?_⟩, fun y c h => ⟨_, x.cell y c h⟩, e0.hok.fresh (Nat.le_refl _), fun y c h => ?_, fun p hp => absurd (show p ∈ ([] : List (Addr × Obj)) from hp) (by simp), e0.hok.kept hk, ?_⟩
  · exact name_of_addr x.apart (PySem.mem_of_lookup h1) (PySem.mem_of_lookup h2)
  · have hy : scope.names.lookup y = some .cell ∨ scope.names.lookup y = some .free := hy
    rcases hy with hy | hy
    · exact cell_has hy
    · exact absurd rfl (S.nofree _ (PySem.mem_of_lookup hy))
  · exact Nat.le_of_lt (x.above y c (PySem.mem_of_lookup h))
  · have hi : i < vs.length := by
      unfold start at h2
      by_cases hi : i < vs.length
      · exact hi
      · rw [List.getElem?_append_right (by simpa using hi)] at h2
        rw [List.getElem?_replicate] at h2
        split at h2 <;> cases h2
    have ha : vs[i]? = some v := by
      unfold start at h2
      rw [List.getElem?_append_left (by simpa using hi), List.getElem?_map] at h2
      cases e : vs[i]? with
      | none => rw [e] at h2; cases h2
      | some a => rw [e] at h2; cases h2; rfl
    obtain ⟨u, hu, rv⟩ := r.get ha
    have hp : ps[i]? = some y := by
      rw [← S.pre, List.getElem?_take_of_lt (by omega)]; exact h1
    have ndP : ps.Nodup := by rw [← S.pre]; exact S.nd.sublist (List.take_sublist _ _)
    refine ⟨u, rv, ?_⟩
    rcases S.par y (List.mem_of_getElem? hp) with k | k
    · exact .inl ⟨k, bindL_get ndP hp hu k⟩
    · obtain ⟨c, e⟩ := cell_has (n := s.heap.objs.size + 1) k
      refine .inr ⟨.inl k, c, e, ?_⟩
      have q := x.cell y c e
      rw [bindC_get ndP hp hu (by show scope.names.lookup y ≠ _; rw [k]; decide)] at q
      exact q
  · exact e0.hok.fresh (Nat.le_of_lt (x.above y c (PySem.mem_of_lookup h)))
  · unfold start
    show _ = N.length
    rw [List.length_append, List.length_map, List.length_replicate]
    omega

/-- THE RULE: a def (or a method) of the text, by its body. The body's reading t is chosen for each entry; it is run at the parameters' values -/
theorem fn_of {CX : CXT} {P : Program} {w : World} {K : PySem.W.Frag} {mg : Str → Option Value} {base : Heap} {k : Nat} {f : Addr} {name qual : Str} {params : Arguments} {body : List Stmt} {scope : Scope} {dV kV doc pm cdv ct oc : Value} {an od : Option Addr}
    {osl : Array (Option Value)} {N ps : List Str} {sp : Sp} (lk : K.lookup f = some ⟨oc, od, .func (PySem.W.fnOf name qual params body scope dV kV doc pm an cdv ct), osl⟩) (hcd : PySem.W.codeIn K cdv qual = true) (S : FnScope N ps scope)
    (len : ∀ vs H Q E, sp vs H Q E → vs.length = ps.length)
    (hbody : ∀ (A : Around) (outer : List Env) (s : Shared) (H : Hp) (vs : List V) (Q : VK) (E : XK), Room k (A.deeper (envOfC qual scope s.heap.objs.size f cdv)) → sp vs H Q E →
      ∃ t, PSs (cxOf CX P w K mg base N qual scope f cdv A outer s H E) body t ∧ t { nx := fun _ H' => Q .non H', rt := Q } (start N vs) H) :
    FnOk P w K mg base CX (k + 1) f (PySem.W.fnOf name qual params body scope dV kV doc pm an cdv ct) ps sp := by
  refine ⟨len, fun A outer s H args us vs Q E hr e0 hb r hsp => ?_⟩
  have hl := len _ _ _ _ hsp
  have KX : K.In s.heap := e0.mod.kin.keeps fun b o e => (e0.bs b o e).1
  have lim : s.heap.NoLimit := e0.mod.nolimit.keeps fun b o e => (e0.bs b o e).1
  have hkind : ∀ y ∈ ps.zip us, scope.names.lookup y.1 = some .local ∨ (scope.names.lookup y.1 = some .cell ∧ ((cellsFrom (s.heap.objs.size + 1) scope.names []).lookup y.1).isSome = true) := fun ⟨n, v⟩ hy => by
    rcases S.par n (List.of_mem_zip hy).1 with q | q
    · exact .inl q
    · exact .inr ⟨q, PySem.W.cellsFrom_some _ _ _ (.inl q)⟩
  refine codeAny_call_function hr.depth (KX _ _ lk) rfl S.co S.gen rfl (PySem.W.codeRec_of KX hcd) (hb _ _ _ _ ?_)
  refine wpAny_newFunctionEnv_cells S.kind hkind fun env he s1 x => ?_
  subst he
  refine ⟨lim.keeps x.toInCall.keep, codeAny_func ?_⟩
  obtain ⟨t, ht, hq⟩ := hbody A outer s H vs Q E (hr.deeper _) hsp
  have I : Inv (cxOf CX P w K mg base N qual scope f cdv A outer s H E) [] (start N vs) H s1 := inv_start S hr.hd e0 hl r x
  refine wpAny_mono (ht [] s1 (start N vs) H _ I hq) (fun fl s' hs => ?_) fun e s' hs => hs
  have fin : ∀ {σ' : St} {H' : Hp} {v : V} {u : Value}, Inv (cxOf CX P w K mg base N qual scope f cdv A outer s H E) [] σ' H' s' → RelV v u → Q v H' → CE outer P w H s Q u s' :=
    fun {σ' H' v u} J rv q => ⟨v, H', J.os, J.bare, J.base, J.hok, rv, q⟩
  cases fl with
  | ret u =>
    obtain ⟨v, σ', H', J, rv, q⟩ := hs
    exact fin J rv q
  | next =>
    obtain ⟨σ', H', J, q⟩ := hs
    exact fin (v := V.non) (u := Value.none) J rfl q
  | brk =>
    obtain ⟨_, _, _, q⟩ := hs
    exact False.elim q
  | cont =>
    obtain ⟨_, _, _, q⟩ := hs
    exact False.elim q
end L2

namespace L2
open PySem PySem.Spec PyProof.Rows
section
variable {X : Cx} {x : Str} {p pos : Pos} {e : Expr} {es : List Expr} {t : TA} {id T : String} {r : List V → Hp → VK → Prop}

def tCB (r : List V → Hp → VK → Prop) (t : TA) : TE := fun σ H Q => t σ H fun vs H1 => r vs H1 Q
/-- f(e, ..), f a built-in function -/
theorem pe_callB (hc : CallR X (.builtin id) r) (hg : Gl X x) (hm : X.mg x = none) (hv : bootBuiltins x = some (.builtin id)) (ha : PA X (e :: es) t) (hn : x ≠ "__name__" := by decide) (hdb : (x == ("__debug__" : Str)) = false := by decide)
    (he : starEach (e :: es) X.env = (false, eval e X.env) :: starEach es X.env := by rfl) (hpl : (backTo pos (starEach es X.env)).any (·.1) = false := by rfl) : PE X (.Call (.Name x p) (e :: es) [] pos) (tCB r t) := by
  intro pins s σ H Q I h
  refine wpAny_Call_Name_kw (ld_blt I hg hm hv ?_ hn hdb)
  exact PyProof.Rows.callWith_builtin1 (thn (ha pos pins s σ H _ I h) fun us s1 ⟨vs, H1, I1, r1, q1⟩ => hc pins s1 σ H1 vs us Q I1 r1 q1) he hpl
/-- T(e, ..), T a built-in type -/
theorem pe_callTy (hc : CallR X (.type T) r) (hg : Gl X x) (hm : X.mg x = none) (hv : bootBuiltins x = some (.type T)) (ha : PA X (e :: es) t) (hn : x ≠ "__name__" := by decide) (hdb : (x == ("__debug__" : Str)) = false := by decide)
    (he : starEach (e :: es) X.env = (false, eval e X.env) :: starEach es X.env := by rfl) (hpl : (backTo pos (starEach es X.env)).any (·.1) = false := by rfl) : PE X (.Call (.Name x p) (e :: es) [] pos) (tCB r t) := by
  intro pins s σ H Q I h
  refine wpAny_Call_Name_kw (ld_blt I hg hm hv ?_ hn hdb)
  exact PyProof.Rows.callWith_type1 (thn (ha pos pins s σ H _ I h) fun us s1 ⟨vs, H1, I1, r1, q1⟩ => hc pins s1 σ H1 vs us Q I1 r1 q1) he hpl
end
end L2

namespace HT
open PySem PyProof.Rows

/-- t < u of tuples of ints -/
def lexLt : List Int → List Int → Bool
  | [], [] => false
  | [], _ :: _ => true
  | _ :: _, [] => false
  | x :: xs, y :: ys => if x = y then lexLt xs ys else decide (x < y)
theorem lexLt_cons (x y : Int) (xs ys : List Int) : lexLt (x :: xs) (y :: ys) = if x = y then lexLt xs ys else decide (x < y) := rfl
theorem lexLt_nil_nil : lexLt [] [] = false := rfl
theorem lexLt_nil_cons (y : Int) (ys : List Int) : lexLt [] (y :: ys) = true := rfl
theorem lexLt_cons_nil (x : Int) (xs : List Int) : lexLt (x :: xs) [] = false := rfl

theorem eqAt_int (A : Around) (s : Shared) (a : Int) (t : Tok) (c : Int) (u : Tok) : ∃ e, SeqAt.EqAt A s (.int a t) (.int c u) e ∧ (e = true ↔ a = c) :=
  ⟨(a == c), SeqAt.EqAt.int_int a t c u, by simp⟩
theorem rcLt_int (A : Around) (s : Shared) (a : Int) (t : Tok) (c : Int) (u : Tok) (prog : Program) (w : World) (E : Value → Shared → Prop) (Q : Value → Shared → Prop) (h : Q (.bool (decide (a < c))) s) :
    wpAny (model prog w) A (richCompare .Lt (.int a t) (.int c u)) Q E s :=
  (PyProof.Rows.lt_int h : wpAny (model prog w) A (compareOp .Lt (.int a t) (.int c u)) Q E s)

section
open PySem.SeqAt
open PySem.AutoSeq1 (wpAny_loadPart')
open PySem.MeetsSeq PySem.MeetsSeq2 PySem.MeetsSeq3

theorem tuple_lt_ints (l b : Addr) (items items2 : Array Value) (n n2 : Nat) (dd dd2 : Option Addr) (sl sl2 : Array (Option Value)) (ns ms : List Int) (hi : IntsAre items.toList ns) (hj : IntsAre items2.toList ms) :
    Meets (Builtin.«tuple.__lt__» ⟨[.ref l, .ref b], []⟩)
      (fun _ R s => s.heap.get? l = some { cls := .type "tuple", dict := dd, data := .seq items n, slots := sl } ∧ s.heap.get? b = some { cls := .type "tuple", dict := dd2, data := .seq items2 n2, slots := sl2 } ∧
        R (.ok (.ret (.bool (lexLt ns ms)))) s) :=
  .of_wp fun prog w A R s h => by
    obtain ⟨hp, g, d, tk, os⟩ := s; obtain ⟨hl, hb, h⟩ := h
    have f2 := AutoSeq1.sub_tuple_tuple
    have z1 : items.size = ns.length := by rw [← hi.length]; simp
    have z2 : items2.size = ms.length := by rw [← hj.length]; simp
    wp_walk using wpAny_loadPart' hl, wpAny_loadPart' hb, wpAny_forIn_list _ (fun rest b s' => b.1 = none ∧ s' = ⟨hp, g, d, tk, os⟩ ∧ ∃ (vs ws : List Value) (ns' ms' : List Int), rest = vs.zip ws ∧
      IntsAre vs ns' ∧ IntsAre ws ms' ∧ ns'.length + items2.size = ms'.length + items.size ∧ R (.ok (.ret (.bool (lexLt ns' ms')))) ⟨hp, g, d, tk, os⟩) _
    case turn =>
      rintro ⟨y, x⟩ rest b s' ⟨hb', rfl, vs, ws, ns', ms', hz, hvi, hwi, hlen, hR⟩
      cases hvi with
      | nil => rw [List.zip_nil_left] at hz; cases hz
      | cons a t hvi' =>
        cases hwi with
        | nil => rw [List.zip_nil_right] at hz; cases hz
        | cons c u hwi' =>
          rw [List.zip_cons_cons] at hz
          injection hz with hyx hrest
          injection hyx with hy hx
          subst hy hx
          rw [lexLt_cons] at hR
          simp only [List.length_cons] at hlen
          obtain ⟨e, he, hiff⟩ := eqAt_int A.in1 ⟨hp, g, d, tk, os⟩ a t c u
          refine wpAny_bind (he prog w _ _ ?_)
          cases e with
          | true =>
            rw [if_pos (hiff.mp rfl)] at hR
            wp_walk
            exact ⟨rfl, rfl, _, _, _, _, hrest, hvi', hwi', by omega, hR⟩
          | false =>
            rw [if_neg (fun q => absurd (hiff.mpr q) Bool.false_ne_true)] at hR
            have hri := rcLt_int A.in1 ⟨hp, g, d, tk, os⟩ a t c u prog w
            wp_walk using hri
            exact ⟨_, rfl, by simpa using hR⟩
    case fin =>
      rintro ⟨b1, b2⟩ s' ⟨hb', rfl, vs, ws, ns', ms', hz, hvi, hwi, hlen, hR⟩
      simp only at hb'
      subst hb'
      have hv : lexLt ns' ms' = decide (items.size < items2.size) := by
        cases hvi with
        | nil =>
          cases hwi with
          | nil =>
            simp only [List.length_nil] at hlen
            rw [lexLt_nil_nil]
            exact (decide_eq_false (by omega)).symm
          | cons c u hw =>
            simp only [List.length_nil, List.length_cons] at hlen
            rw [lexLt_nil_cons]
            exact (decide_eq_true (by omega)).symm
        | cons a t hv =>
          cases hwi with
          | nil =>
            simp only [List.length_nil, List.length_cons] at hlen
            rw [lexLt_cons_nil]
            exact (decide_eq_false (by omega)).symm
          | cons c u hw =>
            rw [List.zip_cons_cons] at hz
            cases hz
      rw [hv] at hR
      wp_walk
      exact ⟨_, rfl, by simpa [Builtin.Tuple.tupleCompareSizes] using hR⟩
    case h =>
      exact ⟨rfl, rfl, items.toList, items2.toList, ns, ms, rfl, hi, hj, by omega, h⟩
end

section
variable {prog : Program} {w : World} {A : Around} {E : Value → Shared → Prop} {s : Shared}

theorem lt_tupInts {l b : Addr} {items items2 : Array Value} {ns ms : List Int} {Q : Value → Shared → Prop} (hl : IsTup s.heap l items) (hb : IsTup s.heap b items2) (hi : IntsAre items.toList ns) (hj : IntsAre items2.toList ms)
    (hu : A.units < cLine) (h : Q (.bool (lexLt ns ms)) s) : wpAny (model prog w) A (compareOp .Lt (.ref l) (.ref b)) Q E s := by
  obtain ⟨⟨cls, dd, data, sl⟩, ho, hc, n, hd⟩ := id hl
  obtain ⟨⟨cls2, dd2, data2, sl2⟩, ho2, hc2, n2, hd2⟩ := id hb
  simp only at hc hd hc2 hd2
  subst hc hd hc2 hd2
  exact richCompare_meets_room (op := .Lt) ⟨_, ho, rfl⟩ ⟨_, ho2, rfl⟩ PySem.F.slot_tuple_lt PySem.F.entry_tuple_lt (PySem.F.args_tuple_lt_2 _ _) (tuple_lt_ints l b items items2 n n2 dd dd2 sl sl2 ns ms hi hj)
    ⟨ho, ho2, show Value.bool (lexLt ns ms) ≠ Value.notImplemented ∧ Q (.bool (lexLt ns ms)) s from ⟨(fun x => nomatch x), h⟩⟩ hu


/-! ### t[a:b], not the whole -/
/-- a slice's bound as a place among n (d where it is left out) -/
def sIx (n d : Nat) : Option Int → Nat
  | none => d
  | some v => if v < 0 then (v + (n : Int)).toNat else min v.toNat n
theorem sIx_none (n d : Nat) : sIx n d none = d := rfl
theorem sIx_nat (n d k : Nat) : sIx n d (some (k : Int)) = min k n := by
  show (if (k : Int) < 0 then ((k : Int) + (n : Int)).toNat else min (k : Int).toNat n) = min k n
  rw [if_neg (by omega), Int.toNat_natCast]

end
end HT

namespace L2
open PySem PySem.Spec PyProof.Rows

/-! ### the parts of a slice -/
abbrev TO := St → Hp → (Option Int → Hp → Prop) → Prop
/-- a slice's part (left out, or an int) -/
def PO (X : Cx) (e : Option Expr) (t : TO) : Prop :=
  ∀ (pins : List (Addr × Obj)) (s : Shared) (σ : St) (H : Hp) (Q : Option Int → Hp → Prop), Inv X pins σ H s → t σ H Q →
    wpAny (model X.prog X.w) X.A (evalPart e X.env) (fun u s' => ∃ o H', Inv X pins σ H' s' ∧ IsPart u o ∧ Q o H') X.xe s
def tNoPart : TO := fun _ H Q => Q none H
def tPart (t : TE) : TO := fun σ H Q => t σ H fun x H1 => ∃ i, x = .int i ∧ Q (some i) H1

theorem intsAre_of {ns : List Int} : ∀ {us : List Value}, Vals (ns.map V.int) us → IntsAre us ns := by
  induction ns with
  | nil => intro us r; rw [List.map_nil] at r; cases r; exact .nil
  | cons n ns ih =>
    intro us r
    rw [List.map_cons] at r
    cases r with
    | cons r1 r2 =>
      obtain ⟨t, e⟩ := r1
      subst e
      exact .cons n t (ih r2)

section
variable {X : Cx} {e : Expr} {te : TE} {lo hi : Option Expr} {tl th : TO} {pos p2 : Pos}

theorem po_none : PO X none tNoPart := by
  intro pins s σ H Q I h
  rw [evalPart_none]
  exact wpAny_pure ⟨none, H, I, .none, h⟩
theorem po_some (h : PE X e te) : PO X (some e) (tPart te) := by
  intro pins s σ H Q I hw
  rw [evalPart_some]
  refine thn (h pins s σ H _ I hw) fun u s1 ⟨x, H1, I1, r1, q1⟩ => ?_
  obtain ⟨i, rfl, q⟩ := q1
  obtain ⟨t, rfl⟩ := r1
  exact ⟨some i, H1, I1, .int i t, q⟩

/-- what a slice of a value is, by values: the slice object stands at sl -/
def SlR (X : Cx) (r : V → Option Int → Option Int → Hp → VK → Prop) : Prop :=
  ∀ (pins : List (Addr × Obj)) (s : Shared) (σ : St) (H : Hp) (x : V) (v vl vu : Value) (lo hi : Option Int) (sl : Addr) (Q : VK), Inv X pins σ H s → RelV x v → s.heap.IsSliceOf sl vl vu .none → IsPart vl lo → IsPart vu hi → r x lo hi H Q →
    ∃ T id, typeLookup (.type T) "__getitem__" = pure (some (.builtin id)) ∧ s.TypeIs v T ∧ wpAny (model X.prog X.w) X.A (getItem v (.ref sl)) (EP X pins σ Q) X.xe s
def tSl (r : V → Option Int → Option Int → Hp → VK → Prop) (te : TE) (tl th : TO) : TE := fun σ H Q => te σ H fun x H1 => tl σ H1 fun l H2 => th σ H2 fun u H3 => r x l u H3 Q
/-- a[lo:hi], any a -/
theorem pe_slice {r : V → Option Int → Option Int → Hp → VK → Prop} (hr : SlR X r) (he : PE X e te) (hl : PO X lo tl) (hu : PO X hi th) : PE X (.Subscript e (.Slice lo hi none p2) pos) (tSl r te tl th) := by
  intro pins s σ H Q I h
  refine Subscript_ (thn (he pins s σ H _ I h) fun v s1 ⟨x, H1, I1, r1, q1⟩ => ?_)
  refine wpAny_Slice (thn (hl pins s1 σ H1 _ I1 q1) fun vl s2 ⟨l, H2, I2, pl, q2⟩ => thn (hu pins s2 σ H2 _ I2 q2) fun vu s3 ⟨u, H3, I3, pu, q3⟩ => ?_)
  rw [evalPart_none]
  refine wpAny_pure ?_
  have I4 : Inv X pins σ H3 { s3 with heap := s3.heap.push { cls := .type "slice", data := .fields #[vl, vu, .none] } } := I3.kept (t' := s3.toks) fun b ob q => Heap.get?_push_of_some _ q
  obtain ⟨T, id, hT, ht, hg⟩ := hr pins { s3 with heap := s3.heap.push { cls := .type "slice", data := .fields #[vl, vu, .none] } } σ H3 x v vl vu l u s3.heap.objs.size Q I4 r1 (Heap.IsSliceOf.new ..) pl pu q3
  show wpAny (model X.prog X.w) X.A (subscriptTail e (.Slice lo hi none p2) v (.ref s3.heap.objs.size)) (EP X pins σ Q) X.xe { s3 with heap := s3.heap.push { cls := .type "slice", data := .fields #[vl, vu, .none] } }
  exact tail_any (ops := [.ref s3.heap.objs.size, v]) ht hT hg (by with_unfolding_all rfl)

/-- the items of xs[lo:hi] -/
def cutV (xs : List V) (lo hi : Option Int) : List V := (xs.drop (HT.sIx xs.length 0 lo)).take (HT.sIx xs.length xs.length hi - HT.sIx xs.length 0 lo)
theorem cutV_length (xs : List V) (lo hi : Option Int) : (cutV xs lo hi).length ≤ xs.length := by
  unfold cutV
  rw [List.length_take, List.length_drop]
  omega

/-! ### t < u, t + u -/
end
end L2

namespace L2
open PySem PySem.Spec PyProof.Rows

/-! ### places -/
/-- the place that an index of any sign means -/
def ixN (n : Nat) (i : Int) : Option Nat := if 0 ≤ i then (if i < n then some i.toNat else none) else if -(n : Int) ≤ i then some (i + n).toNat else none
def atI {α : Type} (xs : List α) (i : Int) : Option α := (ixN xs.length i).bind fun j => xs[j]?
theorem ixN_seq {n : Nat} {i : Int} {j : Nat} (h : ixN n i = some j) : seqIndex? i n = some j ∧ j < n ∧ -(n : Int) ≤ i ∧ i < n := by
  unfold ixN at h
  by_cases h0 : 0 ≤ i
  · rw [if_pos h0] at h
    by_cases h1 : i < n
    · rw [if_pos h1] at h
      have e : i.toNat = j := Option.some.inj h
      exact ⟨by rw [seqIndex_of h0 h1, e], by omega, by omega, h1⟩
    · rw [if_neg h1] at h; cases h
  · rw [if_neg h0] at h
    by_cases h1 : -(n : Int) ≤ i
    · rw [if_pos h1] at h
      have e : (i + n).toNat = j := Option.some.inj h
      exact ⟨by rw [seqIndex_neg (by omega) h1, e], by omega, h1, by omega⟩
    · rw [if_neg h1] at h; cases h
theorem atI_get {α : Type} {xs : List α} {i : Int} {v : α} (h : atI xs i = some v) : ∃ j, seqIndex? i xs.length = some j ∧ xs[j]? = some v ∧ j < xs.length ∧ -(xs.length : Int) ≤ i ∧ i < xs.length := by
  unfold atI at h
  cases e : ixN xs.length i with
  | none => rw [e] at h; cases h
  | some j =>
    rw [e] at h
    obtain ⟨h1, h2, h3, h4⟩ := ixN_seq e
    exact ⟨j, h1, h, h2, h3, h4⟩
theorem atI_nat {α : Type} {xs : List α} {j : Nat} {v : α} (h : xs[j]? = some v) : atI xs (j : Int) = some v := by
  have hj : j < xs.length := (List.getElem?_eq_some_iff.mp h).1
  have e : ixN xs.length (j : Int) = some j := by
    unfold ixN
    rw [if_pos (by omega), if_pos (by omega)]; simp
  unfold atI; rw [e]; exact h
theorem atI_last {α : Type} (xs : List α) (v : α) : atI (xs ++ [v]) (-1) = some v := by
  have hl : (xs ++ [v]).length = xs.length + 1 := by simp
  have e : ixN (xs ++ [v]).length (-1) = some xs.length := by
    unfold ixN
    rw [hl, if_neg (by decide), if_pos (by omega)]
    congr 1
    omega
  unfold atI
  rw [e]
  show (xs ++ [v])[xs.length]? = some v
  simp

/-! ### what may be subscripted -/
/-- what stands as an index of a plain subscript -/
def PlainIx (b : Expr) : Prop := ∀ o i, subscripted b false o i = operate [o, i] (getItem o i)
/-- a subscript by values -/
def IxR (X : Cx) (r : R2) : Prop :=
  ∀ (value slice : Expr) (pins : List (Addr × Obj)) (s : Shared) (σ : St) (H : Hp) (x y : V) (v u : Value) (Q : VK), Inv X pins σ H s → RelV x v → RelV y u → r x y H Q →
    subscripted slice false v u = operate [v, u] (getItem v u) → wpAny (model X.prog X.w) X.A (subscriptTail value slice v u) (EP X pins σ Q) X.xe s
/-- a call of a builtin's method by values: the receiver, the arguments -/
def MtR (X : Cx) (id : String) (r : V → List V → Hp → VK → Prop) : Prop :=
  ∀ (pins : List (Addr × Obj)) (s : Shared) (σ : St) (H : Hp) (x : V) (xs : List V) (v : Value) (us : List Value) (Q : VK), Inv X pins σ H s → RelV x v → Vals xs us → r x xs H Q →
    wpAny (model X.prog X.w) X.A (call (.builtin id) (v :: us)) (EP X pins σ Q) X.xe s
section
variable {X : Cx} {a b : Expr} {ta tb : TE} {pos : Pos}
theorem IxR.or {r r' : R2} (h : IxR X r) (h' : IxR X r') : IxR X (fun x y H Q => r x y H Q ∨ r' x y H Q) := by
  intro value slice pins s σ H x y v u Q I rx ry q hs
  rcases q with q | q
  · exact h value slice pins s σ H x y v u Q I rx ry q hs
  · exact h' value slice pins s σ H x y v u Q I rx ry q hs
/-- a[b] -/
theorem pe_ix {r : R2} (hr : IxR X r) (ha : PE X a ta) (hb : PE X b tb) (hs : PlainIx b) : PE X (.Subscript a b pos) (tOp r ta tb) := by
  intro pins s σ H Q I h
  exact Subscript_ (binT ha hb I h fun v u s2 x y H2 I2 rx ry q => hr a b pins s2 σ H2 x y v u Q I2 rx ry q (hs _ _))

def rIxL (K : PySem.W.Frag) : R2 := fun x y H Q => ∃ p xs i v, x = .ref p ∧ y = .int i ∧ SqL K H p xs ∧ atI xs i = some v ∧ Q v H
def rIxT (K : PySem.W.Frag) : R2 := fun x y H Q => ∃ p xs i v, x = .ref p ∧ y = .int i ∧ SqT K H p xs ∧ atI xs i = some v ∧ Q v H
def rIxS : R2 := fun x y H Q => ∃ z i c, x = .str z ∧ y = .int i ∧ z.length ≤ sizeLine ∧ atI z.cps.toList i = some c ∧ Q (.str ⟨#[c]⟩) H
theorem ix_list : IxR X (rIxL X.K) := by
  intro value slice pins s σ H x y v u Q I rx ry h hs
  obtain ⟨p, xs, i, z, rfl, rfl, hq, he, q⟩ := h
  cases rx
  obtain ⟨t, rfl⟩ := ry
  obtain ⟨its, r, pl, hz⟩ := I.list hq
  obtain ⟨j, h1, h2, h3, h4, h5⟩ := atI_get he
  obtain ⟨w, ew, rw'⟩ := r.get h2
  have hl := r.length
  have hn := line63
  have fin : EP X pins σ Q w s := ⟨z, H, I, rw', q⟩
  by_cases h0 : 0 ≤ i
  · have hj : i.toNat = j := by
      rw [seqIndex_of h0 h5] at h1
      exact Option.some.inj h1
    exact item_listR pl.isList h0 (by omega) (by rw [hj]; simpa using ew) fin hs
  · have hj : (i + (its.toArray.size : Int)).toNat = j := by
      rw [seqIndex_neg (by omega) h4] at h1
      rw [List.size_toArray, ← hl]
      exact Option.some.inj h1
    exact subscriptTail_builtinR (x := w) pl.isList.typeIs slot_list_getitem.lookup
      (wpAny_getItem_list_neg (Q := fun r s' => r = w ∧ EP X pins σ Q r s') pl.isList (by omega) (by rw [List.size_toArray] <;> omega) (by omega) (by rw [hj]; simpa using ew) ⟨rfl, fin⟩) hs
theorem ix_tup : IxR X (rIxT X.K) := by
  intro value slice pins s σ H x y v u Q I rx ry h hs
  obtain ⟨p, xs, i, z, rfl, rfl, hq, he, q⟩ := h
  cases rx
  obtain ⟨t, rfl⟩ := ry
  obtain ⟨its, r, pl, hz⟩ := I.tuple hq
  obtain ⟨j, h1, h2, h3, h4, h5⟩ := atI_get he
  obtain ⟨w, ew, rw'⟩ := r.get h2
  have hl := r.length
  have hn := line63
  have fin : EP X pins σ Q w s := ⟨z, H, I, rw', q⟩
  exact subscriptTail_builtinR (x := w) pl.typeIs slot_tuple_getitem.lookup
    (getItem_tuple (j := j) (Q := fun r s' => r = w ∧ EP X pins σ Q r s') pl (by omega) (by omega) (by rw [List.size_toArray, ← hl]; exact h1) (by simpa using ew) ⟨rfl, fin⟩) hs
theorem ix_str : IxR X rIxS := by
  intro value slice pins s σ H x y v u Q I rx ry h hs
  obtain ⟨z, i, c, rfl, rfl, hz, he, q⟩ := h
  obtain ⟨t, rfl⟩ := rx
  obtain ⟨t', rfl⟩ := ry
  obtain ⟨j, h1, h2, h3, h4, h5⟩ := atI_get he
  have hl : z.cps.toList.length = z.length := by simp [Str.length]
  rw [hl] at h1 h4 h5
  have hn := line63
  exact tail_any (typeIs_str s z t) slot_str_getitem.lookup (getItem_str (c := c) (by
    have e1 : decide (i < -(2 ^ 63 : Int)) = false := decide_eq_false (by omega)
    have e2 : decide (i ≥ 2 ^ 63) = false := decide_eq_false (by omega)
    rw [e1, e2, Bool.or_false]) (by rw [h1]; simpa using h2) ⟨.str ⟨#[c]⟩, H, I.tok _, ⟨_, rfl⟩, q⟩) hs
/-- list, tuple or str -/
def rIx (K : PySem.W.Frag) : R2 := fun x y H Q => rIxL K x y H Q ∨ rIxT K x y H Q ∨ rIxS x y H Q
theorem ix_seq : IxR X (rIx X.K) := ix_list.or (ix_tup.or ix_str)

/-! ### xs[i] = v, any sign -/

/-! ### slices -/
theorem slice_bounds (lo hi : Option Int) (n : Nat) : (sliceBounds lo hi none n).1 = ((HT.sIx n 0 lo : Nat) : Int) ∧ (sliceBounds lo hi none n).2.1 = ((HT.sIx n n hi : Nat) : Int) ∧ (sliceBounds lo hi none n).2.2 = 1 := by
  refine ⟨?_, ?_, rfl⟩
  · cases lo with
    | none => simp [sliceBounds, HT.sIx]
    | some i =>
      simp only [sliceBounds, HT.sIx, Option.getD_none, show (1 : Int) > 0 by decide, if_true]
      by_cases h : i < 0
      · simp only [h, if_true] <;> omega
      · simp only [h, if_false] <;> omega
  · cases hi with
    | none => simp [sliceBounds, HT.sIx]
    | some i =>
      simp only [sliceBounds, HT.sIx, Option.getD_none, show (1 : Int) > 0 by decide, if_true]
      by_cases h : i < 0
      · simp only [h, if_true] <;> omega
      · simp only [h, if_false] <;> omega
theorem slicePick_cut (its : List Value) (lo hi : Option Int) : slicePick its.toArray lo hi none = ((its.drop (HT.sIx its.length 0 lo)).take (HT.sIx its.length its.length hi - HT.sIx its.length 0 lo)).toArray := by
  obtain ⟨h1, h2, h3⟩ := slice_bounds lo hi its.toArray.size
  unfold slicePick
  rw [h1, h2, h3]
  simp only [sliceRange_one, pick_run, List.size_toArray] <;> rfl
/-- xs[lo:hi] of a list: a new list -/
def rSlL (K : PySem.W.Frag) : V → Option Int → Option Int → Hp → VK → Prop := fun x lo hi H Q => ∃ a xs, x = .ref a ∧ SqL K H a xs ∧ ∀ p, H p = none → Q (.ref p) (upd H p (.lst (cutV xs lo hi)))
theorem sl_list : SlR X (rSlL X.K) := by
  intro pins s σ H x v vl vu lo hi sl Q I rx hs pl pu h
  obtain ⟨a, xs, rfl, hx, q⟩ := h
  cases rx
  obtain ⟨its, r, ht, hz⟩ := I.list hx
  have hlen := r.length
  refine ⟨"list", _, slot_list_getitem.lookup, ht.isList.typeIs, ?_⟩
  refine wpAny_getItem_list_slice ht.isList hs pl pu .none (by simp) ?_ (by rw [List.size_toArray] <;> omega)
  rw [slicePick_cut, ← hlen]
  refine ⟨.ref s.heap.objs.size, _, I.laid (t' := s.toks) (o := .lst (cutV xs lo hi)) (fun b ob q => Heap.get?_push_of_some _ q) (Nat.le_refl _) ?_, rfl, q _ (I.hok.fresh (Nat.le_refl _))⟩
  exact ⟨Nat.le_trans (cutV_length xs lo hi) hz, _, 0, (r.drop (HT.sIx xs.length 0 lo)).take (HT.sIx xs.length xs.length hi - HT.sIx xs.length 0 lo), Heap.get?_push_size _ rfl⟩

/-! ### in, not in: flat items -/
def flatV : V → Bool
  | .non => true
  | .bl _ => true
  | .int _ => true
  | .str _ => true
  | _ => false
/-- == of flat values -/
def eqV : V → V → Bool
  | .non, .non => true
  | .bl a, .bl b => a == b
  | .bl a, .int b => (if a then 1 else 0) == b
  | .int a, .bl b => a == (if b then 1 else 0)
  | .int a, .int b => a == b
  | .str a, .str b => a == b
  | _, _ => false
theorem eqAt_V {A : Around} {s : Shared} {y x : V} {u v : Value} (ry : RelV y u) (rx : RelV x v) (fy : flatV y = true) (fx : flatV x = true) : SeqAt.EqAt A s u v (eqV y x) := by
  cases y with
  | non =>
    cases ry
    cases x with
    | non => cases rx; exact SeqAt.EqAt.same _
    | bl b => cases rx; exact SeqAt.EqAt.none_bool b
    | int b => obtain ⟨t, rfl⟩ := rx; exact SeqAt.EqAt.none_int b t
    | str b => obtain ⟨t, rfl⟩ := rx; exact SeqAt.EqAt.none_str b t
    | _ => exact absurd (show false = true from fx) Bool.false_ne_true
  | bl a =>
    cases ry
    cases x with
    | non => cases rx; exact SeqAt.EqAt.bool_none a
    | bl b => cases rx; exact SeqAt.EqAt.bool_bool a b
    | int b => obtain ⟨t, rfl⟩ := rx; exact SeqAt.EqAt.bool_int a b t
    | str b => obtain ⟨t, rfl⟩ := rx; exact SeqAt.EqAt.bool_str a b t
    | _ => exact absurd (show false = true from fx) Bool.false_ne_true
  | int a =>
    obtain ⟨t', rfl⟩ := ry
    cases x with
    | non => cases rx; exact SeqAt.EqAt.int_none a t'
    | bl b => cases rx; exact SeqAt.EqAt.int_bool a t' b
    | int b => obtain ⟨t, rfl⟩ := rx; exact SeqAt.EqAt.int_int a t' b t
    | str b => obtain ⟨t, rfl⟩ := rx; exact SeqAt.EqAt.int_str a t' b t
    | _ => exact absurd (show false = true from fx) Bool.false_ne_true
  | str a =>
    obtain ⟨t', rfl⟩ := ry
    cases x with
    | non => cases rx; exact SeqAt.EqAt.str_none a t'
    | bl b => cases rx; exact SeqAt.EqAt.str_bool a t' b
    | int b => obtain ⟨t, rfl⟩ := rx; exact SeqAt.EqAt.str_int a t' b t
    | str b => obtain ⟨t, rfl⟩ := rx; exact SeqAt.EqAt.str_str a t' b t
    | _ => exact absurd (show false = true from fx) Bool.false_ne_true
  | _ => exact absurd (show false = true from fy) Bool.false_ne_true
/-- the items' answers, read off the values (a value's own answer does not lean on its token) -/
def eqU (x : V) (u : Value) : Bool := match u with
  | .none => eqV .non x
  | .bool b => eqV (.bl b) x
  | .int i _ => eqV (.int i) x
  | .str z _ => eqV (.str z) x
  | _ => false
theorem eqU_of {x y : V} {u : Value} (r : RelV y u) (f : flatV y = true) : eqU x u = eqV y x := by
  cases y with
  | non => cases r; rfl
  | bl b => cases r; rfl
  | int i => obtain ⟨t, rfl⟩ := r; rfl
  | str z => obtain ⟨t, rfl⟩ := r; rfl
  | _ => exact absurd (show false = true from f) Bool.false_ne_true
theorem any_eqU {x : V} : ∀ {xs : List V} {us : List Value}, Vals xs us → xs.all flatV = true → us.any (eqU x) = xs.any fun y => eqV y x
  | _, _, .nil, _ => rfl
  | y :: xs, u :: us, .cons r t, f => by
    rw [List.all_cons, Bool.and_eq_true] at f
    rw [List.any_cons, List.any_cons, eqU_of r f.1, any_eqU t f.2]
theorem mem_eqAt {A : Around} {s : Shared} {x : V} {v : Value} (rx : RelV x v) (fx : flatV x = true) : ∀ {xs : List V} {us : List Value}, Vals xs us → xs.all flatV = true → ∀ u ∈ us, SeqAt.EqAt A s u v (eqU x u)
  | _, _, .nil, _ => fun u hu => by cases hu
  | y :: xs, u :: us, .cons r t, f => fun u' hu => by
    rw [List.all_cons, Bool.and_eq_true] at f
    rcases List.mem_cons.mp hu with rfl | hu
    · rw [eqU_of r f.1]; exact eqAt_V r rx f.1 fx
    · exact mem_eqAt rx fx t f.2 u' hu
def inV (x : V) (xs : List V) : Bool := xs.any fun y => eqV y x
/-- x in a list or tuple of flat items -/
def rIn (K : PySem.W.Frag) (neg : Bool) : R2 := fun x y H Q => ∃ p xs, y = .ref p ∧ (SqL K H p xs ∨ SqT K H p xs) ∧ flatV x = true ∧ xs.all flatV = true ∧ Q (.bl (if neg then !inV x xs else inV x xs)) H
theorem op_in_seq : OpR X (compareOp .In) (rIn X.K false) := by
  intro pins s σ H x y v u Q I rx ry h
  obtain ⟨p, xs, rfl, hq, fx, fs, q⟩ := h
  cases ry
  rcases hq with hq | hq
  · obtain ⟨its, r, pl, hz⟩ := I.list hq
    refine SeqAt.in_listAt (eqU x) pl.isList (fun w hw => mem_eqAt rx fx r fs w (by simpa using hw)) ⟨.bl _, H, I, rfl, ?_⟩
    rw [show its.toArray.any (eqU x) = its.any (eqU x) by simp, any_eqU r fs]
    exact q
  · obtain ⟨its, r, pl, hz⟩ := I.tuple hq
    refine SeqAt.in_tupleAt (eqU x) pl (fun w hw => mem_eqAt rx fx r fs w (by simpa using hw)) ⟨.bl _, H, I, rfl, ?_⟩
    rw [show its.toArray.any (eqU x) = its.any (eqU x) by simp, any_eqU r fs]
    exact q
theorem op_notIn_seq : OpR X (compareOp .NotIn) (rIn X.K true) := by
  intro pins s σ H x y v u Q I rx ry h
  obtain ⟨p, xs, rfl, hq, fx, fs, q⟩ := h
  cases ry
  rcases hq with hq | hq
  · obtain ⟨its, r, pl, hz⟩ := I.list hq
    refine SeqAt.notIn_listAt (eqU x) pl.isList (fun w hw => mem_eqAt rx fx r fs w (by simpa using hw)) ⟨.bl _, H, I, rfl, ?_⟩
    rw [show its.toArray.any (eqU x) = its.any (eqU x) by simp, any_eqU r fs]
    exact q
  · obtain ⟨its, r, pl, hz⟩ := I.tuple hq
    refine SeqAt.notIn_tupleAt (eqU x) pl (fun w hw => mem_eqAt rx fx r fs w (by simpa using hw)) ⟨.bl _, H, I, rfl, ?_⟩
    rw [show its.toArray.any (eqU x) = its.any (eqU x) by simp, any_eqU r fs]
    exact q

/-! ### len, list(x), tuple(x) of any list or tuple that is read -/
theorem call_len_seq : CallR X (.builtin "len") (fun xs H Q => ∃ p ys, xs = [.ref p] ∧ (SqL X.K H p ys ∨ SqT X.K H p ys) ∧ Q (.int ys.length) H) := by
  intro pins s σ H xs us Q I r h
  obtain ⟨p, ys, rfl, hq, q⟩ := h
  obtain ⟨u, rfl, rx⟩ := vals1 r
  cases rx
  have hn := line63
  rcases hq with hq | hq
  · obtain ⟨its, r', pl, hz⟩ := I.list hq
    have hlen := r'.length
    exact Calls.call_len_list pl.isList (by simp only [List.size_toArray] <;> omega) ⟨.int ys.length, H, I.tok _, ⟨s.toks + 1, by rw [List.size_toArray, hlen]⟩, q⟩
  · obtain ⟨its, r', pl, hz⟩ := I.tuple hq
    have hlen := r'.length
    exact len_tuple pl (by simp only [List.size_toArray] <;> omega) ⟨.int ys.length, H, I.tok _, ⟨s.toks + 1, by rw [List.size_toArray, hlen]⟩, q⟩
theorem call_tuple_of : CallR X (.type "tuple") (fun xs H Q => ∃ p ys, xs = [.ref p] ∧ ((SqL X.K H p ys ∧ ∀ l, H l = none → Q (.ref l) (upd H l (.tup ys))) ∨ (SqT X.K H p ys ∧ Q (.ref p) H))) := by
  intro pins s σ H xs us Q I r h
  obtain ⟨p, ys, rfl, h⟩ := h
  obtain ⟨u, rfl, rx⟩ := vals1 r
  cases rx
  rcases h with ⟨hq, q⟩ | ⟨hq, q⟩
  · obtain ⟨its, r', pl, hz⟩ := I.list hq
    have hlen := r'.length
    refine call_tuple_list pl.isList (fun h' kp => ?_) (by simp only [List.size_toArray] <;> omega)
    have I1 : Inv X pins σ H { s with heap := h' } := I.kept (t' := s.toks) kp
    have I2 : Inv X pins σ (upd H h'.objs.size (.tup ys)) { s with heap := h'.push { cls := .type "tuple", data := .seq its.toArray } } :=
      I1.laid (t' := s.toks) (fun b o e => Heap.get?_push_of_some _ e) (Nat.le_refl _) (show ObjOk X.prog X.w _ _ _ (.tup ys) from ⟨hz, its, r', IsTup.new _ _⟩)
    exact ⟨.ref h'.objs.size, _, I2, rfl, q _ (I1.hok.fresh (Nat.le_refl _))⟩
  · obtain ⟨its, r', pl, hz⟩ := I.tuple hq
    exact call_tuple_same pl ⟨.ref p, H, I, rfl, q⟩

/-! ### the call of a builtin's method: o.m(..) -/
/-- the value is of that builtin type -/
def tyV (K : PySem.W.Frag) (T : String) (x : V) (H : Hp) : Prop := match x with
  | .str _ => T = "str"
  | .int _ => T = "int"
  | .ref p => (T = "list" ∧ ∃ xs, SqL K H p xs) ∨ (T = "tuple" ∧ ∃ o, K.lookup p = some o ∧ o.cls = .type "tuple" ∧ o.dict = none) ∨
      (T = "dict" ∧ ((∃ kvs, H p = some (.dK kvs)) ∨ ∃ kvs, H p = some (.dT kvs))) ∨ (T = "set" ∧ ∃ S n, H p = some (.set S n))
  | _ => False
theorem tyV_is {pins : List (Addr × Obj)} {σ : St} {H : Hp} {s : Shared} {T : String} {x : V} {v : Value} (I : Inv X pins σ H s) (r : RelV x v) (ty : tyV X.K T x H) :
    s.TypeIs v T ∧ ∀ a, v = .ref a → ∃ ob, s.heap.get? a = some ob ∧ ob.dict = none := by
  cases x with
  | str z =>
    obtain ⟨t, rfl⟩ := r
    cases (show T = "str" from ty)
    exact ⟨typeIs_str s z t, fun _ e => nomatch e⟩
  | int i =>
    obtain ⟨t, rfl⟩ := r
    cases (show T = "int" from ty)
    exact ⟨typeIs_int s i t, fun _ e => nomatch e⟩
  | ref p =>
    cases r
    rcases ty with ⟨rfl, xs, hq⟩ | ⟨rfl, o, hk, hc, hd⟩ | ⟨rfl, hk⟩ | ⟨rfl, S, n, hk⟩
    · obtain ⟨its, _, pl, _⟩ := I.list hq
      refine ⟨pl.isList.typeIs, fun a e => ?_⟩
      cases e
      obtain ⟨o, n, e, c, hd, _⟩ := pl
      exact ⟨o, e, hd⟩
    · refine ⟨⟨o, I.kIn p o hk, hc⟩, fun a e => ?_⟩
      cases e
      exact ⟨o, I.kIn _ o hk, hd⟩
    · have z : ∃ o, s.heap.get? p = some o ∧ o.ExactDict := by
        rcases hk with ⟨kvs, hk⟩ | ⟨kvs, hk⟩
        · obtain ⟨_, _, _, _, o, _, _, e, ex, _⟩ := I.hok p _ hk
          exact ⟨o, e, ex⟩
        · obtain ⟨_, _, _, _, o, _, _, e, ex, _⟩ := I.hok p _ hk
          exact ⟨o, e, ex⟩
      obtain ⟨o, e, ex⟩ := z
      refine ⟨⟨o, e, ex.1⟩, fun a e2 => ?_⟩
      cases e2
      exact ⟨o, e, ex.2.1⟩
    · obtain ⟨o, _, _, _, e, ex, _⟩ := I.hok p _ hk
      refine ⟨⟨o, e, ex.1⟩, fun a e2 => ?_⟩
      cases e2
      exact ⟨o, e, ex.2.1⟩
  | _ => exact False.elim ty
def tBM (K : PySem.W.Frag) (T : String) (r : V → List V → Hp → VK → Prop) (to : TE) (t : TA) : TE := fun σ H Q => to σ H fun x H1 => tyV K T x H1 ∧ t σ H1 fun xs H2 => r x xs H2 Q
variable {o e : Expr} {es : List Expr} {to : TE} {t : TA} {name : Str} {apos cpos : Pos} {T id : String} {r : V → List V → Hp → VK → Prop}
theorem pe_bm (pa : PlainAttrs T) (slot : Slot T name id) (hty : typeOf (.builtin id) = pure (.type "method_descriptor")) (hm : MtR X id r) (ho : PE X o to) (ha : PA X (e :: es) t)
    (hbase : attributeBase o name X.env (eval o X.env) = eval o X.env := by rfl)
    (hfew : ((backTo cpos (starEach (e :: es) X.env)).all (fun x => !x.1) && (backToKw cpos (keywordEach [] X.env)).all (fun x => x.1.isSome)
      && decide ((e :: es).length + ([] : List Keyword).length + (if ([] : List Keyword).isEmpty then 0 else 1) < 30)) = true := by rfl)
    (hline : (apos.endLine == cpos.line) = true := by rfl) (hs : starEach (e :: es) X.env = (false, eval e X.env) :: starEach es X.env := by rfl) (hplain : (backTo cpos (starEach es X.env)).any (·.1) = false := by rfl) :
    PE X (.Call (.Attribute o name apos) (e :: es) [] cpos) (tBM X.K T r to t) := by
  intro pins s σ H Q I h
  refine wpAny_Call_method_late hbase hfew hline rfl (thn (ho pins s σ H _ I h) fun v s1 ⟨x, H1, I1, r1, ty, q1⟩ => ?_)
  obtain ⟨h1, h2⟩ := tyV_is I1 r1 ty
  refine ⟨T, id, pa, slot, hty, h1, h2, ?_⟩
  have hA := ha cpos pins s1 σ H1 _ I1 q1
  rw [hs] at hA ⊢
  refine Calls.callWith_builtin (by show (false || (backTo cpos (starEach es X.env)).any (·.1)) = false; rw [hplain] <;> rfl) (Calls.evalArgs_plain ?_)
  exact thn hA fun us s2 ⟨vs, H2, I2, r2, q2⟩ => hm pins s2 σ H2 x vs v us Q I2 r1 r2 q2
/- xs.append(e), list.index on a module's tuple .. are MtR facts of 06m -/
end
end L2

namespace L2
open PySem PySem.Spec PyProof.Rows

def MtM (X : Cx) (id : String) (r : V → List V → Hp → VK → Prop) : Prop :=
  ∀ (pins : List (Addr × Obj)) (s : Shared) (σ : St) (H : Hp) (x : V) (xs : List V) (v : Value) (us : List Value) (Q : VK), Inv X pins σ H s → RelV x v → Vals xs us → r x xs H Q →
    wpAny (model X.prog X.w) X.A (call (.builtin id) (v :: us)) (EP X pins σ Q) X.xe s

/-! ### lists of values -/
theorem Vals.one : ∀ {x : V} {us : List Value}, Vals [x] us → ∃ u, us = [u] ∧ RelV x u
  | _, _, .cons r .nil => ⟨_, rfl, r⟩
theorem Vals.eraseIdx : ∀ {xs : List V} {us : List Value} (i : Nat), Vals xs us → Vals (xs.eraseIdx i) (us.eraseIdx i)
  | _, _, _, .nil => .nil
  | _, _, 0, .cons _ t => t
  | _, _, i + 1, .cons r t => .cons r (Vals.eraseIdx i t)
theorem len_erase {α : Type} : ∀ (l : List α) (i : Nat), (l.eraseIdx i).length ≤ l.length
  | [], _ => Nat.le_refl _
  | _ :: _, 0 => Nat.le_succ _
  | _ :: r, i + 1 => Nat.succ_le_succ (len_erase r i)

section
variable {X : Cx} {pins : List (Addr × Obj)} {σ : St} {H : Hp} {s : Shared} {l b : Addr} {xs ys zs : List V}

/-! ### the two steps: a tracked list is rewritten, a new list is laid -/
theorem Inv.lset {its its' : List Value} {n : Nat} {f : Array Value → Array Value} {t' : Nat} (I : Inv X pins σ H s) (hH : H l = some (.lst xs))
    (e : s.heap.get? l = some { cls := .type "list", data := .seq its.toArray n }) (hf : f its.toArray = its'.toArray) (hv : Vals ys its') (hz : ys.length ≤ sizeLine) :
    Inv X pins σ (upd H l (.lst ys)) { s with heap := s.heap.update l (Obj.mapSeq f), toks := t' } := by
  have q := PySem.IsL.update e f
  rw [hf] at q
  refine I.write (x := l) (e := l) (by rw [hH]; exact trivial) (.inl rfl) (fun b' u hb hu => (Heap.get?_update_other s.heap (Obj.mapSeq f) (Ne.symm hb)).trans hu) ⟨_, q⟩ ?_
  exact ⟨hz, its', _, hv, q⟩
theorem Inv.lnew {its : List Value} {t' : Nat} (I : Inv X pins σ H s) (hv : Vals ys its) (hz : ys.length ≤ sizeLine) :
    Inv X pins σ (upd H s.heap.objs.size (.lst ys)) { s with heap := s.heap.push { cls := .type "list", data := .seq its.toArray }, toks := t' } :=
  I.laid (fun _ _ q => Heap.get?_push_of_some _ q) (Nat.le_refl _) ⟨hz, its, 0, hv, Heap.get?_push_size _ rfl⟩
theorem Inv.fresh (I : Inv X pins σ H s) : H s.heap.objs.size = none := I.hok.fresh (Nat.le_refl _)
theorem Inv.lstM (I : Inv X pins σ H s) (hH : H l = some (.lst xs)) : xs.length ≤ sizeLine ∧ ∃ (its : List Value) (n : Nat), Vals xs its ∧ xs.length = its.length ∧ s.heap.get? l = some { cls := .type "list", data := .seq its.toArray n } := by
  obtain ⟨z, its, n, r, e⟩ := I.hok l _ hH
  exact ⟨z, its, n, r, r.length, e⟩

theorem notLongL {n : Nat} (h : n ≤ sizeLine) : Builtin.List.listTooLong n = false := by
  unfold Builtin.List.listTooLong
  exact decide_eq_false (by omega)
end

section
variable {X : Cx}

/-! ### methods -/
def rAppend : V → List V → Hp → VK → Prop := fun x vs H Q => ∃ l xs y, x = .ref l ∧ vs = [y] ∧ H l = some (.lst xs) ∧ xs.length < sizeLine ∧ Q .non (upd H l (.lst (xs ++ [y])))
theorem mt_append : MtM X "list.append" rAppend := by
  intro pins s σ H x vs v us Q I rx rv h
  obtain ⟨l, xs, y, rfl, rfl, hH, hz, q⟩ := h
  cases rx
  obtain ⟨u, rfl, ru⟩ := rv.one
  obtain ⟨z, its, n, r, hl, e⟩ := I.lstM hH
  refine call_meets F.slot_list_append ⟨_, e, rfl⟩ F.entry_list_append (F.args_list_append_2 _ _) (PySem.list_append l its.toArray n u (by rw [List.size_toArray]; omega)) ⟨e, ?_⟩
  refine ⟨.non, _, I.lset (its' := its ++ [u]) hH e (by simp) (r.append (.cons ru .nil)) ?_, rfl, q⟩
  rw [List.length_append, List.length_singleton]
  omega

def rExtend : V → List V → Hp → VK → Prop := fun x vs H Q => ∃ l b xs zs, x = .ref l ∧ vs = [.ref b] ∧ H l = some (.lst xs) ∧ H b = some (.lst zs) ∧ xs.length + zs.length ≤ sizeLine ∧ Q .non (upd H l (.lst (xs ++ zs)))
theorem mt_extend : MtM X "list.extend" rExtend := by
  intro pins s σ H x vs v us Q I rx rv h
  obtain ⟨l, b, xs, zs, rfl, rfl, hH, hB, hz, q⟩ := h
  cases rx
  obtain ⟨u, rfl, ru⟩ := rv.one
  cases ru
  obtain ⟨z, its, n, r, hl, e⟩ := I.lstM hH
  obtain ⟨z2, its2, n2, r2, hl2, e2⟩ := I.lstM hB
  have hsz : its.toArray.size + its2.toArray.size ≤ sizeLine := by rw [List.size_toArray, List.size_toArray]; omega
  have hlong : ¬ (!its.toArray.isEmpty && Builtin.List.listTooLong (its.toArray.size + its2.toArray.size)) = true := by
    rw [notLongL hsz, Bool.and_false]
    exact Bool.false_ne_true
  refine call_meets F.slot_list_extend ⟨_, e, rfl⟩ F.entry_list_extend (F.args_list_extend_2 _ _)
    (AutoSeq1.list_extend_list_list_0 l its.toArray n b its2.toArray n2 hlong (by rw [List.size_toArray]; omega) (by omega)) ⟨e, e2, ?_⟩
  refine ⟨.non, _, I.lset (its' := its ++ its2) hH e (by simp) (r.append r2) ?_, rfl, q⟩
  rw [List.length_append]
  omega


def rPopAt : V → List V → Hp → VK → Prop := fun x vs H Q => ∃ l xs i k y, x = .ref l ∧ vs = [.int i] ∧ H l = some (.lst xs) ∧ -(2 ^ 63) ≤ i ∧ i < 2 ^ 63 ∧ seqIndex? i xs.length = some k ∧ xs[k]? = some y ∧ Q y (upd H l (.lst (xs.eraseIdx k)))
theorem mt_popAt : MtM X "list.pop" rPopAt := by
  intro pins s σ H x vs v us Q I rx rv h
  obtain ⟨l, xs, i, k, y, rfl, rfl, hH, h1, h2, hk, hy, q⟩ := h
  cases rx
  obtain ⟨u, rfl, ru⟩ := rv.one
  obtain ⟨t, rfl⟩ := ru
  obtain ⟨z, its, n, r, hl, e⟩ := I.lstM hH
  obtain ⟨w, hw, rw'⟩ := r.get hy
  refine call_meets F.slot_list_pop ⟨_, e, rfl⟩ F.entry_list_pop (F.args_list_pop_2 _ _)
    (MeetsSeq.list_pop_at l its.toArray n i t k w (fitsIndex_both h1 h2) (by rw [List.size_toArray, ← hl]; exact hk) (by rw [← Array.getElem?_toList]; exact hw) (by rw [List.size_toArray]; omega)) ⟨e, ?_⟩
  refine ⟨y, _, I.lset (its' := its.eraseIdx k) hH e ?_ (r.eraseIdx k) ?_, rw', q⟩
  · show its.toArray.eraseIdxIfInBounds k = (its.eraseIdx k).toArray
    rw [List.eraseIdxIfInBounds_toArray]
  · have := len_erase xs k
    omega



/-! ### list + list, list += list, list * int -/
def rCat : R2 := fun x y H Q => ∃ l b xs zs, x = .ref l ∧ y = .ref b ∧ H l = some (.lst xs) ∧ H b = some (.lst zs) ∧ xs.length + zs.length ≤ sizeLine ∧ ∀ p, H p = none → Q (.ref p) (upd H p (.lst (xs ++ zs)))
theorem op_cat : OpR X (binaryOp .Add) rCat := by
  intro pins s σ H x y v u Q I rx ry h
  obtain ⟨l, b, xs, zs, rfl, rfl, hH, hB, hz, q⟩ := h
  cases rx
  cases ry
  obtain ⟨z, its, n, r, hl, e⟩ := I.lstM hH
  obtain ⟨z2, its2, n2, r2, hl2, e2⟩ := I.lstM hB
  refine PySem.P.add_list e e2 ?_ (by rw [List.size_toArray, List.size_toArray]; omega)
  have ea : its.toArray ++ its2.toArray = (its ++ its2).toArray := by simp
  rw [ea]
  exact ⟨.ref _, _, I.lnew (t' := s.toks) (r.append r2) (by rw [List.length_append]; omega), rfl, q _ I.fresh⟩

/-! ### del xs[i] -/
end

/-! ### xs[a:b] = ys -/
section
variable {prog : Program} {w : World} {A : Around} {E : Value → Shared → Prop} {s : Shared}
end

section
variable {X : Cx}
end
end L2

namespace L2
open PySem PySem.Spec PyProof.Rows

theorem Vals.ints : ∀ {ns : List Int} {us : List Value}, Vals (ns.map V.int) us → IntsAre us ns
  | [], us, h => by
    rw [List.map_nil] at h
    cases h
    exact IntsAre.nil
  | n :: ns, us, h => by
    rw [List.map_cons] at h
    cases h with
    | cons r t =>
      obtain ⟨k, rfl⟩ := r
      exact IntsAre.cons n k (Vals.ints t)
theorem vals_of_ints : ∀ {us : List Value} {ns : List Int}, IntsAre us ns → Vals (ns.map V.int) us
  | _, _, .nil => by rw [List.map_nil]; exact Paired.nil
  | _, _, .cons n t h => by rw [List.map_cons]; exact Paired.cons (show RelV (V.int n) (Value.int n t) from ⟨t, rfl⟩) (vals_of_ints h)
theorem Vals.ref1 {a : Addr} {us : List Value} (r : Vals [V.ref a] us) : us = [Value.ref a] := by
  cases r with
  | cons r t =>
    cases t
    cases r
    rfl

/-! ### the library's walks over a list of ints, kept objects alone -/
section
variable {prog : Program} {w : World} {A : Around} {E : Value → Shared → Prop} {s : Shared} {l : Addr} {its : List Value} {ns : List Int} {Q : Value → Shared → Prop}
theorem sum_raw (hh : A.handled = none) (hl : s.heap.IsList l its.toArray) (hi : IntsAre its ns)
    (h : ∀ h' tk t', (∀ b o, s.heap.get? b = some o → h'.get? b = some o) → Q (.int ns.sum t') { s with heap := h', toks := tk }) : wpAny (model prog w) A (call (.builtin "sum") [.ref l]) Q E s := by
  obtain ⟨xs, e⟩ := hi.allInts.items
  have hn : numsOf (intItems xs).toList = ns := by rw [← e]; exact hi.numsOf
  rw [nums_intItems] at hn
  rw [e] at hl
  refine PySem.sum_intListG hh hl fun h' tk t' hk => ?_
  have := h h' tk t' hk
  rw [preSum_eq, List.take_of_length_le (by simp), hn]; exact this
end

/-! ### the calls, by values (CallR of 03t; MtR of 06l) -/
section
variable {X : Cx}
/-- sum(xs) of a list of ints -/
def rSum (K : PySem.W.Frag) : List V → Hp → VK → Prop := fun vs H Q => ∃ (a : Addr) (ns : List Int), vs = [V.ref a] ∧ SqL K H a (ns.map V.int) ∧ Q (.int ns.sum) H
theorem cr_sum (hc : X.calm = true) : CallR X (.builtin "sum") (rSum X.K) := by
  intro pins s σ H vs us Q I r h
  obtain ⟨a, ns, rfl, hs, q⟩ := h
  obtain ⟨its, rv, hl, _⟩ := I.list hs
  rw [Vals.ref1 r]
  exact sum_raw (I.ok.hd hc) hl.isList rv.ints fun h' tk t' hk => ⟨.int _, H, I.kept hk, ⟨_, rfl⟩, q⟩

/-! sorted, sort (fewer than 64 items: the library's own bound) -/
def rSorted (K : PySem.W.Frag) : List V → Hp → VK → Prop := fun vs H Q => ∃ (a : Addr) (ns : List Int), vs = [V.ref a] ∧ SqL K H a (ns.map V.int) ∧ ns.length < 64 ∧
  ∀ (ns' : List Int) (p : Addr), ns'.Perm ns → ns'.Pairwise (· ≤ ·) → H p = none → Q (.ref p) (upd H p (.lst (ns'.map V.int)))
theorem small64 {n : Nat} (h : n < 64) : n ≤ sizeLine := by rw [sizeLine_eq]; omega
theorem cr_sorted : CallR X (.builtin "sorted") (rSorted X.K) := by
  intro pins s σ H vs us Q I r h
  obtain ⟨a, ns, rfl, hs, h64, q⟩ := h
  obtain ⟨its, rv, hl, _⟩ := I.list hs
  rw [Vals.ref1 r]
  have hi := rv.ints
  refine PyProof.Rows.sorted_ints hl.isList hi (by rw [hi.length]; exact h64) fun out ns' h1 h2 h3 => ?_
  obtain ⟨ep, he'⟩ := PyProof.Rows.sortedAll_at s.heap its out
  have hlen : (ns'.map V.int).length ≤ sizeLine := by rw [List.length_map, h2.length_eq]; exact small64 h64
  exact ⟨.ref _, upd H (s.heap.objs.size + 1) (.lst (ns'.map V.int)), I.laid (t' := s.toks) (fun _ _ => PyProof.Rows.sortedAll_old) (Nat.le_succ _) ⟨hlen, out.toList, ep, vals_of_ints h1, he'⟩, rfl, q ns' _ h2 h3 (I.hok.fresh (Nat.le_succ _))⟩
end

/-! ### list.index, flat items -/
section
variable {X : Cx}
end

/-! ### type(x) of an own instance; is, is not of a module's class -/
section
variable {X : Cx}
end

/-! ### any(xs), all(xs) of a list of bools -/
section
variable {X : Cx}
end

/-! ### == and != of data at any depth: none, bools, ints, texts, lists, tuples -/
mutual
inductive Dp (K : PySem.W.Frag) (H : Hp) : V → PyData → Prop
  | non : Dp K H .non .none
  | bl (b : Bool) : Dp K H (.bl b) (.bool b)
  | int (i : Int) : Dp K H (.int i) (.int i)
  | str (x : Str) : Dp K H (.str x) (.str x)
  | lst {a : Addr} {xs : List V} {ds : List PyData} : SqL K H a xs → DpAll K H xs ds → Dp K H (.ref a) (.list ds)
  | tup {a : Addr} {xs : List V} {ds : List PyData} : SqT K H a xs → DpAll K H xs ds → Dp K H (.ref a) (.tuple ds)
inductive DpAll (K : PySem.W.Frag) (H : Hp) : List V → List PyData → Prop
  | nil : DpAll K H [] []
  | cons {v : V} {vs : List V} {d : PyData} {ds : List PyData} : Dp K H v d → DpAll K H vs ds → DpAll K H (v :: vs) (d :: ds)
end
section
variable {X : Cx} {pins : List (Addr × Obj)} {σ : St} {H : Hp} {s : Shared}
mutual
theorem Dp.reads (I : Inv X pins σ H s) : ∀ (d : PyData) (v : V) (u : Value), Dp X.K H v d → RelV v u → ∃ as, Reads s.heap u d as
  | .none, _, _, h, r => by
    cases h
    cases r
    exact ⟨_, Reads.none⟩
  | .bool b, _, _, h, r => by
    cases h
    cases r
    exact ⟨_, Reads.bool b⟩
  | .int i, _, _, h, r => by
    cases h
    obtain ⟨t, rfl⟩ := r
    exact ⟨_, Reads.int i t⟩
  | .str x, _, _, h, r => by
    cases h
    obtain ⟨t, rfl⟩ := r
    exact ⟨_, Reads.str x t⟩
  | .list ds, _, _, h, r => by
    cases h with
    | lst hs ha =>
      cases r
      obtain ⟨its, rv, ⟨o, n, ho, hc, _, hd⟩, _⟩ := I.list hs
      obtain ⟨as, hr⟩ := Dp.readsAll I ds _ its ha rv
      exact ⟨_, Reads.list ho hc hd hr⟩
  | .tuple ds, _, _, h, r => by
    cases h with
    | tup hs ha =>
      cases r
      obtain ⟨its, rv, ⟨o, ho, hc, n, hd⟩, _⟩ := I.tuple hs
      obtain ⟨as, hr⟩ := Dp.readsAll I ds _ its ha rv
      exact ⟨_, Reads.tuple ho hc hd hr⟩
  | .dict _, _, _, h, _ => by cases h
theorem Dp.readsAll (I : Inv X pins σ H s) : ∀ (ds : List PyData) (vs : List V) (us : List Value), DpAll X.K H vs ds → Vals vs us → ∃ as, ReadsAll s.heap us ds as
  | [], _, _, h, r => by
    cases h
    cases r
    exact ⟨_, ReadsAll.nil⟩
  | d :: ds, _, _, h, r => by
    cases h with
    | cons h1 h2 =>
      cases r with
      | cons r1 r2 =>
        obtain ⟨as, q1⟩ := Dp.reads I d _ _ h1 r1
        obtain ⟨bs, q2⟩ := Dp.readsAll I ds _ _ h2 r2
        exact ⟨_, ReadsAll.cons q1 q2⟩
end
end
section
variable {X : Cx}
end
end L2

namespace L2
open PySem PySem.Spec PyProof.Rows
abbrev CellAt (h : Heap) (c : Addr) (v : Option Value) : Prop := h.IsCell c v
def relS (scope sc : Scope) : Scope :=
  { scope with names := scope.names.map fun (n, k) => if (k == .free && sc.kind == .function && sc.names.lookup n == some .cell) then (n, .cell) else (n, k) }

def cloFrom (cells : List (Str × Addr)) : List (Str × NameKind) → List (Str × Addr) → List (Str × Addr)
  | [], acc => acc
  | (n, k) :: r, acc => if k == .free then cloFrom cells r ((n, (cells.lookup n).getD 0) :: acc) else cloFrom cells r acc

theorem closure_loop (env : Env) (f : Str × NameKind → List (Str × Addr) → Sem (ForInStep (List (Str × Addr))))
    (hf : ∀ n k c, f (n, k) c = if k == .free then (do let a ← cellOf env n; pure (.yield ((n, a) :: c))) else pure (.yield c)) :
    ∀ (names : List (Str × NameKind)) (acc : List (Str × Addr)), (∀ y ∈ names, y.2 = .free → ∃ c, env.cells.lookup y.1 = some c) → forIn names acc f = pure (cloFrom env.cells names acc)
  | [], acc, _ => by rw [List.forIn_nil]; rfl
  | (n, k) :: r, acc, h => by
    rw [List.forIn_cons, hf]
    have ih := fun acc => closure_loop env f hf r acc fun y hy => h y (List.mem_cons_of_mem _ hy)
    unfold cloFrom
    by_cases hk : (k == NameKind.free) = true
    · rw [if_pos hk, if_pos hk]
      obtain ⟨c, hc⟩ := h (n, k) List.mem_cons_self (by simpa using hk)
      have e : cellOf env n = pure c := by unfold cellOf; rw [hc]
      rw [e]
      have e2 : (env.cells.lookup n).getD 0 = c := by rw [hc]; rfl
      rw [e2]
      exact ih _
    · rw [if_neg hk, if_neg hk]
      exact ih _
theorem closure_ok {scope : Scope} {env : Env} (h : ∀ y ∈ scope.names, y.2 = .free → ∃ c, env.cells.lookup y.1 = some c) : closureFor scope env = pure (cloFrom env.cells scope.names []) := by
  simp only [closureFor]
  rw [closure_loop env _ (fun n k c => rfl) scope.names [] h]
  rfl

theorem mem_lookup {α : Type} : ∀ {l : List (Str × α)} {n : Str} {c : α}, (n, c) ∈ l → ∃ c', l.lookup n = some c'
  | (k, v) :: r, n, c, h => by
    rw [List.lookup_cons]
    cases hb : n == k with
    | true => exact ⟨_, rfl⟩
    | false =>
      rcases List.mem_cons.mp h with e | h
      · cases e; simp at hb
      · exact mem_lookup h

theorem cloFrom_mem {cells : List (Str × Addr)} : ∀ {names : List (Str × NameKind)} {acc : List (Str × Addr)} {n : Str} {c : Addr}, (n, c) ∈ cloFrom cells names acc → (n, c) ∈ acc ∨ ((n, .free) ∈ names ∧ c = (cells.lookup n).getD 0)
  | [], _, _, _, h => .inl h
  | (m, k) :: r, acc, n, c, h => by
    unfold cloFrom at h
    split at h
    · rename_i hk
      have hk : k = .free := by simpa using hk
      rcases cloFrom_mem h with h | ⟨h1, h2⟩
      · rcases List.mem_cons.mp h with e | h
        · cases e; exact .inr ⟨hk ▸ List.mem_cons_self, rfl⟩
        · exact .inl h
      · exact .inr ⟨List.mem_cons_of_mem _ h1, h2⟩
    · rcases cloFrom_mem h with h | ⟨h1, h2⟩
      · exact .inl h
      · exact .inr ⟨List.mem_cons_of_mem _ h1, h2⟩
theorem cloFrom_acc {cells : List (Str × Addr)} : ∀ {names : List (Str × NameKind)} {acc : List (Str × Addr)} {p : Str × Addr}, p ∈ acc → p ∈ cloFrom cells names acc
  | [], _, _, h => h
  | (m, k) :: r, acc, p, h => by
    unfold cloFrom
    split
    · exact cloFrom_acc (List.mem_cons_of_mem _ h)
    · exact cloFrom_acc h
theorem cloFrom_has {cells : List (Str × Addr)} : ∀ {names : List (Str × NameKind)} {acc : List (Str × Addr)} {n : Str}, (n, .free) ∈ names → (n, (cells.lookup n).getD 0) ∈ cloFrom cells names acc
  | (m, k) :: r, acc, n, h => by
    unfold cloFrom
    rcases List.mem_cons.mp h with e | h
    · cases e
      exact cloFrom_acc List.mem_cons_self
    · split
      · exact cloFrom_has h
      · exact cloFrom_has h

theorem cells_mem : ∀ {names : List (Str × NameKind)} {h : Heap} {acc : List (Str × Addr)} {x : Str} {c : Addr}, (x, c) ∈ cellsFrom h.objs.size names acc →
    (x, c) ∈ acc ∨ ((x, .cell) ∈ names ∧ h.objs.size ≤ c ∧ CellAt (pushCells h names) c none)
  | [], _, _, _, _, h => .inl h
  | (n, k) :: r, h, acc, x, c, hm => by
    unfold cellsFrom at hm
    unfold pushCells
    split at hm
    · rename_i hk
      rw [if_pos hk]
      have hk : k = .cell := by simpa using hk
      rw [← Heap.size_push h { cls := .type "cell", data := .cell none }] at hm
      rcases cells_mem hm with hm | ⟨h1, h2, h3⟩
      · rcases List.mem_cons.mp hm with e | hm
        · cases e
          exact .inr ⟨hk ▸ List.mem_cons_self, Nat.le_refl _, _, pushCells_keeps r _ _ _ (Heap.get?_push_size _ rfl), rfl⟩
        · exact .inl hm
      · rw [Heap.size_push] at h2
        exact .inr ⟨List.mem_cons_of_mem _ h1, Nat.le_of_succ_le h2, h3⟩
    · rename_i hk
      rw [if_neg hk]
      rcases cells_mem hm with hm | ⟨h1, h2, h3⟩
      · exact .inl hm
      · exact .inr ⟨List.mem_cons_of_mem _ h1, h2, h3⟩
theorem cells_acc : ∀ {names : List (Str × NameKind)} {n : Nat} {acc : List (Str × Addr)} {p : Str × Addr}, p ∈ acc → p ∈ cellsFrom n names acc
  | [], _, _, _, h => h
  | (m, k) :: r, n, acc, p, h => by
    unfold cellsFrom
    split
    · exact cells_acc (List.mem_cons_of_mem _ h)
    · exact cells_acc h
theorem cells_has : ∀ {names : List (Str × NameKind)} {n : Nat} {acc : List (Str × Addr)} {x : Str}, (x, .cell) ∈ names → ∃ c, (x, c) ∈ cellsFrom n names acc
  | (m, k) :: r, n, acc, x, h => by
    unfold cellsFrom
    rcases List.mem_cons.mp h with e | h
    · cases e
      exact ⟨n, cells_acc List.mem_cons_self⟩
    · split
      · exact cells_has h
      · exact cells_has h
theorem cells_inj : ∀ {names : List (Str × NameKind)} {h : Heap} {acc : List (Str × Addr)} {x y : Str} {c : Addr}, (∀ p ∈ acc, p.2 < h.objs.size) → (∀ x y c, (x, c) ∈ acc → (y, c) ∈ acc → x = y) →
    (x, c) ∈ cellsFrom h.objs.size names acc → (y, c) ∈ cellsFrom h.objs.size names acc → x = y
  | [], _, _, _, _, _, _, hi, h1, h2 => hi _ _ _ h1 h2
  | (n, k) :: r, h, acc, x, y, c, hl, hi, h1, h2 => by
    unfold cellsFrom at h1 h2
    split at h1
    · rename_i hk
      rw [if_pos hk] at h2
      rw [← Heap.size_push h { cls := .type "cell", data := .cell none }] at h1 h2
      refine cells_inj (h := h.push _) (fun p hp => ?_) (fun x y c a b => ?_) h1 h2
      · rw [Heap.size_push]
        rcases List.mem_cons.mp hp with rfl | hp
        · exact Nat.lt_succ_self _
        · exact Nat.lt_succ_of_lt (hl p hp)
      · rcases List.mem_cons.mp a with e | a <;> rcases List.mem_cons.mp b with e' | b
        · cases e; cases e'; rfl
        · cases e; exact absurd (hl _ b) (Nat.lt_irrefl _)
        · cases e'; exact absurd (hl _ a) (Nat.lt_irrefl _)
        · exact hi _ _ _ a b
    · rename_i hk
      rw [if_neg hk] at h2
      exact cells_inj hl hi h1 h2

theorem newEnv_comp {M : Model} {A : Around} {E : Value → Shared → Prop} {s : Shared} {scope : Scope} {globals : Addr} {closure : List (Str × Addr)} {qual : Str} {func : Option Addr} {code : Value} {around : Env} {builtins : Addr} {Q : Env → Shared → Prop}
    (h : Q (newEnv scope s.heap.objs.size globals (cellsFrom (s.heap.objs.size + 1) scope.names closure) qual func code (some around) builtins)
      { s with heap := pushCells (s.heap.push { cls := .type "dict", data := .dict #[] }) scope.names }) :
    wpAny M A (newFunctionEnv scope globals closure [] qual func code (some around) builtins) Q E s := by
  simp only [newFunctionEnv, Option.isSome_some, if_true]
  refine wpAny_bind (wpAny_alloc ?_)
  refine wpAny_bind (wpAny_layCells _ (fun n k c => rfl) scope.names closure _ _ ?_)
  rw [show ({ s with heap := s.heap.push { cls := .type "dict", data := .dict #[] } } : Shared).heap.objs.size = s.heap.objs.size + 1 from Heap.size_push ..]
  rw [List.forIn_nil]
  exact wpAny_bind (wpAny_pure (wpAny_pure h))

/-- every name of the written scope, in the scope that runs -/
theorem lookup_relS {sc : Scope} : ∀ {names : List (Str × NameKind)} {x : Str} {k : NameKind},
    (names.map fun (n, k) => if (k == NameKind.free && sc.kind == .function && sc.names.lookup n == some .cell) then (n, NameKind.cell) else (n, k)).lookup x = some k →
    ∃ k', names.lookup x = some k' ∧ (k = k' ∨ (k' = .free ∧ k = .cell))
  | [], _, _, h => by simp at h
  | (n, k₀) :: r, x, k, h => by
    have ih := @lookup_relS sc r x k
    have h' : List.lookup x ((if (k₀ == NameKind.free && sc.kind == .function && sc.names.lookup n == some .cell) = true then (n, NameKind.cell) else (n, k₀)) :: (r.map _)) = some k := h
    cases hx : x == n with
    | true =>
      simp only [List.lookup_cons, hx]
      by_cases hc : (k₀ == NameKind.free && sc.kind == .function && sc.names.lookup n == some .cell) = true
      · rw [if_pos hc] at h'
        simp only [List.lookup_cons, hx] at h'
        cases h'
        simp only [Bool.and_eq_true, beq_iff_eq] at hc
        exact ⟨k₀, rfl, .inr ⟨hc.1.1, rfl⟩⟩
      · rw [if_neg hc] at h'
        simp only [List.lookup_cons, hx] at h'
        cases h'
        exact ⟨_, rfl, .inl rfl⟩
    | false =>
      simp only [List.lookup_cons, hx]
      by_cases hc : (k₀ == NameKind.free && sc.kind == .function && sc.names.lookup n == some .cell) = true
      · rw [if_pos hc] at h'
        simp only [List.lookup_cons, hx] at h'
        exact ih h'
      · rw [if_neg hc] at h'
        simp only [List.lookup_cons, hx] at h'
        exact ih h'



/-- the names of a comprehension's block: its own (with their places in N), or captured -/
structure BlkOk (N : List Str) (sc scope : Scope) (own : List (Str × Nat)) : Prop where
  kind : scope.kind = .function
  uniq : ∀ y ∈ scope.names, scope.names.lookup y.1 = some y.2
  ix : ∀ p ∈ own, N[p.2]? = some p.1
  free : ∀ y ∈ scope.names, y.2 = .free → sc.names.lookup y.1 = some .cell ∨ sc.names.lookup y.1 = some .free
  own : ∀ y ∈ scope.names, y.2 = .local ∨ y.2 = .cell → y.1 ∈ own.map (·.1) ∨ y.1 ∉ N
/-- the slots of the block's own names forgotten -/
def wipe (σ : St) : List Nat → St
  | [] => σ
  | v :: vs => (wipe σ vs).set v none
theorem wipe_length (σ : St) : ∀ vs : List Nat, (wipe σ vs).length = σ.length
  | [] => rfl
  | v :: vs => by unfold wipe; rw [List.length_set, wipe_length σ vs]
theorem wipe_some {σ : St} {i : Nat} {x : V} : ∀ {vs : List Nat}, (wipe σ vs)[i]? = some (some x) → σ[i]? = some (some x) ∧ i ∉ vs
  | [], h => ⟨h, by simp⟩
  | v :: vs, h => by
    unfold wipe at h
    by_cases hi : v = i
    · subst hi
      by_cases hv : v < (wipe σ vs).length
      · rw [List.getElem?_set_self hv] at h; cases h
      · rw [List.getElem?_eq_none (by simpa using hv)] at h; cases h
    · rw [List.getElem?_set_ne hi] at h
      obtain ⟨h1, h2⟩ := wipe_some h
      exact ⟨h1, by simp only [List.mem_cons, not_or]; exact ⟨fun e => hi e.symm, h2⟩⟩

/-- the context of a block that starts at s, its iterator's objects at fp -/
abbrev Cx.blk (X : Cx) (s : Shared) (H : Hp) (scope : Scope) (cenv : Env) (fp : List Addr) : Cx := { X with s_0 := s, H_0 := H, env := cenv, outer := X.stack, ex := fp, fn := fun x => scope.names.lookup x == some .cell, pn := [], xe := fun _ _ => False }
section
variable {X : Cx} {pins : List (Addr × Obj)} {σ : St} {H : Hp} {s : Shared}
theorem block_start {scope : Scope} {own : List (Str × Nat)} {fp : List Addr} (I : Inv X pins σ H s) (ok : BlkOk X.N X.env.scope scope own) (hN : X.N.Nodup) (hfp : ∀ b ∈ fp, FpOk X pins H b ∧ b < s.heap.objs.size) :
    Inv (X.blk s H scope (compEnvC scope (cellsFrom (s.heap.objs.size + 1) scope.names (cloFrom X.env.cells scope.names [])) s.heap.objs.size X.env) fp) [] (wipe σ (own.map (·.2))) H { s with heap := pushCells (s.heap.push { cls := .type "dict", data := .dict #[] }) scope.names } := by
  have hfree : ∀ y ∈ scope.names, y.2 = .free → ∃ c, X.env.cells.lookup y.1 = some c := fun y hy e => by
    rcases ok.free y hy e with k | k
    · exact I.ok.has _ (.inl k)
    · exact I.ok.has _ (.inr k)
  generalize hcenv : compEnvC scope (cellsFrom (s.heap.objs.size + 1) scope.names (cloFrom X.env.cells scope.names [])) s.heap.objs.size X.env = cenv
  have kp : ∀ b o, s.heap.get? b = some o → (pushCells (s.heap.push { cls := .type "dict", data := .dict #[] }) scope.names).get? b = some o := fun b o e => pushCells_keeps _ _ _ _ (Heap.get?_push_of_some _ e)
  have hL : cenv.locals = s.heap.objs.size := by rw [← hcenv]; rfl
  have hcl : cenv.cells = cellsFrom (s.heap.objs.size + 1) scope.names (cloFrom X.env.cells scope.names []) := by rw [← hcenv]; rfl
  have hsc : cenv.scope = relS scope X.env.scope := by rw [← hcenv]; rfl
  rw [← Heap.size_push s.heap { cls := .type "dict", data := .dict #[] }] at hcl
  have cm : ∀ {y c}, (y, c) ∈ cloFrom X.env.cells scope.names [] → X.env.cells.lookup y = some c ∧ c < s.heap.objs.size := fun {y c} hm => by
    rcases cloFrom_mem hm with hm | ⟨h1, rfl⟩
    · cases hm
    · obtain ⟨c, hc⟩ := hfree _ h1 rfl
      rw [hc]
      obtain ⟨w, z⟩ := I.cell _ _ hc
      exact ⟨rfl, z.lt⟩
  have mem : ∀ {y c}, cenv.cells.lookup y = some c → (X.env.cells.lookup y = some c ∧ c < s.heap.objs.size) ∨ (s.heap.objs.size + 1 ≤ c ∧ CellAt (pushCells (s.heap.push { cls := .type "dict", data := .dict #[] }) scope.names) c none) := fun {y c} e => by
    rw [hcl] at e
    rcases cells_mem (PySem.mem_of_lookup e) with hm | ⟨_, h2, h3⟩
    · exact .inl (cm hm)
    · rw [Heap.size_push] at h2; exact .inr ⟨h2, h3⟩
  have look : ∀ {y}, scope.names.lookup y = some .free → ∃ c, cenv.cells.lookup y = some c ∧ X.env.cells.lookup y = some c := fun {y} hl => by
    have hy : (y, NameKind.free) ∈ scope.names := PySem.mem_of_lookup hl
    obtain ⟨c', e'⟩ := mem_lookup (cells_acc (names := scope.names) (n := (s.heap.push { cls := .type "dict", data := .dict #[] }).objs.size) (cloFrom_has (cells := X.env.cells) (acc := []) hy))
    rw [← hcl] at e'
    refine ⟨c', e', ?_⟩
    rw [hcl] at e'
    rcases cells_mem (PySem.mem_of_lookup e') with hm | ⟨h1, _, _⟩
    · exact (cm hm).1
    · have := ok.uniq _ h1
      rw [hl] at this; cases this
  have okB : (X.blk s H scope cenv fp).Ok := by
    refine ⟨I.ok.mod, by show cenv.scope.kind = _; rw [hsc]; exact ok.kind, by show cenv.globals = _; rw [← hcenv]; exact I.ok.glob, by show cenv.builtins = _; rw [← hcenv]; exact I.ok.blt, by show s.heap.objs.size ≤ cenv.locals; rw [hL]; exact Nat.le_refl _,
      fun y z c e1 e2 => ?_, fun y hy => ?_, fun y c z e => ?_, I.ok.hd, I.ok.frames, .inl rfl, fun b hb => ⟨?_, fun y c e z => ?_⟩, I.bs, Nat.le_trans I.ok.bsz I.sz, fun b o e hb => ?_, fun b hb z => ?_, I.stack, I.stkFree⟩
    · have e1 : cenv.cells.lookup y = some c := e1
      have e2 : cenv.cells.lookup z = some c := e2
      rw [hcl] at e1 e2
      refine cells_inj (fun p hp => ?_) (fun y z c a b => I.ok.inj y z c (cm a).1 (cm b).1) (PySem.mem_of_lookup e1) (PySem.mem_of_lookup e2)
      rw [Heap.size_push]
      exact Nat.lt_succ_of_lt (cm (y := p.1) (c := p.2) hp).2
    · show ∃ c, cenv.cells.lookup y = some c
      have key : ∀ k, cenv.kindOf y = some k → (k = .cell ∨ k = .free) → ∃ c, cenv.cells.lookup y = some c := fun k hk hk' => by
        unfold Env.kindOf at hk
        rw [hsc] at hk
        obtain ⟨k', e, r⟩ := lookup_relS hk
        have : k' = .cell ∨ k' = .free := by
          rcases r with rfl | ⟨rfl, _⟩
          · exact hk'
          · exact .inr rfl
        rcases this with rfl | rfl
        · obtain ⟨c, hm⟩ := cells_has (n := (s.heap.push { cls := .type "dict", data := .dict #[] }).objs.size) (acc := cloFrom X.env.cells scope.names []) (PySem.mem_of_lookup e)
          obtain ⟨c', e'⟩ := mem_lookup hm
          exact ⟨c', by rw [hcl]; exact e'⟩
        · obtain ⟨c, h1, _⟩ := look e
          exact ⟨c, h1⟩
      rcases hy with hy | hy
      · exact key _ hy (.inl rfl)
      · exact key _ hy (.inr rfl)
    · have z : (scope.names.lookup y == some NameKind.cell) = true := z
      have z : scope.names.lookup y = some .cell := by simpa using z
      have e : cenv.cells.lookup y = some c := e
      rw [hcl] at e
      rcases cells_mem (PySem.mem_of_lookup e) with hm | ⟨_, h2, _⟩
      · rcases cloFrom_mem hm with hm | ⟨h1, _⟩
        · cases hm
        · have q := ok.uniq _ h1
          rw [z] at q; cases q
      · rw [Heap.size_push] at h2
        exact Nat.le_of_succ_le h2
    · show b ≠ cenv.locals
      rw [hL]; exact Nat.ne_of_lt (hfp b hb).2
    · have e : cenv.cells.lookup y = some c := e
      rcases mem e with ⟨h1, _⟩ | ⟨h1, _⟩
      · exact (hfp b hb).1.2.2.2.2.1 y c h1 z
      · have h2 : s.heap.objs.size + 1 ≤ b := by rw [← z]; exact h1
        exact absurd (Nat.lt_of_lt_of_le (hfp b hb).2 (Nat.le_of_succ_le h2)) (Nat.lt_irrefl _)
    · rcases (hfp b hb).1.2.2.2.1 with z | z
      · exact I.ok.noex b o e z
      · exact absurd (Nat.lt_of_lt_of_le (Heap.lt_size e) (Nat.le_trans I.ok.bsz z)) (Nat.lt_irrefl _)
    · rcases List.mem_cons.mp (I.stkSub b z) with z | z
      · exact (hfp b hb).1.2.1 z
      · exact (hfp b hb).1.2.2.1 z
  refine ⟨okB, rfl, I.bare, Un.kept kp, ⟨fun _ => none, ?_, fun i y av e1 e2 e3 => ?_⟩, fun y c e => ?_, ?_, fun y c e => ?_, fun p hp => ?_, I.hok.kept kp, by rw [wipe_length]; exact I.len⟩
  · show Heap.Ns _ cenv.locals _
    rw [hL]
    exact Heap.Ns.keeps (Heap.Ns.new ..) fun b o e => pushCells_keeps _ _ _ _ e
  · obtain ⟨e2, hne⟩ := wipe_some e2
    have hfr : scope.names.lookup y = some .free ∧ (cenv.kindOf y = some .cell ∨ cenv.kindOf y = some .free) := by
      have key : ∀ k, cenv.scope.names.lookup y = some k → k = .local ∨ k = .cell ∨ k = .free → scope.names.lookup y = some .free ∧ (cenv.kindOf y = some .cell ∨ cenv.kindOf y = some .free) := fun k hk hk' => by
        have hk0 := hk
        rw [hsc] at hk
        obtain ⟨k', e, r⟩ := lookup_relS hk
        have no : ¬ (k' = .local ∨ k' = .cell) := fun hh => by
          rcases ok.own _ (PySem.mem_of_lookup e) hh with e' | e'
          · obtain ⟨p, hp, hpy⟩ := List.mem_map.mp e'
            have e3 := ok.ix p hp
            have : p.1 = y := hpy
            rw [this] at e3
            exact hne (List.mem_map.mpr ⟨p, hp, nodup_ix hN e3 e1⟩)
          · exact e' (List.mem_of_getElem? e1)
        rcases r with rfl | ⟨rfl, rfl⟩
        · rcases hk' with rfl | rfl | rfl
          · exact absurd (.inl rfl) no
          · exact absurd (.inr rfl) no
          · exact ⟨e, .inr hk0⟩
        · exact ⟨e, .inl hk0⟩
      have e3 : Vis cenv.scope y := e3
      rcases e3 with e3 | e3 | e3
      · exact key _ e3 (.inl rfl)
      · exact key _ e3 (.inr (.inl rfl))
      · exact key _ e3 (.inr (.inr rfl))
    obtain ⟨m, hn, hl⟩ := I.loc
    have hvis : Vis X.env.scope y := (ok.free _ (PySem.mem_of_lookup hfr.1) rfl).elim (fun k => .inr (.inl k)) (fun k => .inr (.inr k))
    obtain ⟨w, r, q⟩ := hl i y av e1 e2 hvis
    refine ⟨w, r, .inr ⟨hfr.2, ?_⟩⟩
    obtain ⟨c, h1, h2⟩ := look hfr.1
    rcases q with ⟨k, _⟩ | ⟨_, c', e', z⟩
    · have k : X.env.scope.names.lookup y = some .local := k
      rcases ok.free _ (PySem.mem_of_lookup hfr.1) rfl with k' | k' <;> rw [show X.env.scope.names.lookup y = _ from k'] at k <;> cases k
    · rw [h2] at e'; cases e'
      exact ⟨c, h1, z.keeps kp⟩
  · have e : cenv.cells.lookup y = some c := e
    rcases mem e with ⟨h1, _⟩ | ⟨_, z⟩
    · obtain ⟨w, z⟩ := I.cell y c h1
      exact ⟨w, z.keeps kp⟩
    · exact ⟨_, z⟩
  · show H cenv.locals = none
    rw [hL]; exact I.hok.fresh (Nat.le_refl _)
  · have e : cenv.cells.lookup y = some c := e
    rcases mem e with ⟨h1, _⟩ | ⟨h1, _⟩
    · exact I.freeC y c h1
    · exact I.hok.fresh (Nat.le_of_succ_le h1)
  · exact absurd (show p ∈ ([] : List (Addr × Obj)) ++ [] from hp) (by simp)

/-- an item appended to a tracked list -/
theorem app_ok {E : Value → Shared → Prop} {D : Addr} {xs : List V} {y : V} {v : Value} {Q : Value → Shared → Prop} (I : Inv X pins σ H s) (hD : H D = some (.lst xs)) (hz : xs.length < sizeLine) (r : RelV y v)
    (h : ∀ s', Inv X pins σ (upd H D (.lst (xs ++ [y]))) s' → Q .none s') : wpAny (model X.prog X.w) X.A (call (.builtin "list.append") [.ref D, v]) Q E s := by
  obtain ⟨hz', its, n, ri, e⟩ := I.hok D _ hD
  have hl := ri.length
  refine append_at (hsz := by rw [List.size_toArray]; omega) e fun h' sb ho' => ?_
  refine h { s with heap := h' } (I.write (t' := s.toks) (by rw [hD]; trivial) (.inl rfl) (fun b u hb q => (sb.2 b hb).trans q) ⟨_, ho'⟩ ⟨by rw [List.length_append]; exact hz, its ++ [v], n + 1, ri.append (.cons r .nil), ?_⟩)
  rw [ho']
  simp

/-- a clause's tests -/
def PTs (X : Cx) (ifs : List Expr) (t : TT) : Prop :=
  ∀ (pins : List (Addr × Obj)) (s : Shared) (σ : St) (H : Hp) (Q : Bool → Hp → Prop), Inv X pins σ H s → t σ H Q →
    wpAny (model X.prog X.w) X.A (forIn ifs true fun c r => if r = true then do let ok ← isTrue c X.env (eval c X.env); pure (ForInStep.yield ok) else pure (ForInStep.yield r)) (TP X pins σ Q) X.xe s
def tYes : TT := fun _ H Q => Q true H
theorem pts_nil : PTs X [] tYes := fun _ _ _ H _ I h => wpAny_tests_nil ⟨H, I, h⟩
theorem pts_one {c : Expr} {t : TT} (h : PT X c t) : PTs X [c] t := fun pins s σ H Q I hw => wpAny_tests_one (h pins s σ H Q I hw)
end

theorem thnF {α : Type} {t : Sem α} {Q Q' : α → Shared → Prop} {M : Model} {A : Around} {E : Value → Shared → Prop} {s : Shared} (h : wpAny M A t Q (fun _ _ => False) s) (hQ : ∀ a s, Q a s → Q' a s) : wpAny M A t Q' E s := wpAny_mono h hQ fun _ _ z => False.elim z

/-- the loop of a list comprehension's block, the target of any form (codeAny_compLoop_tests asks a target that no tuple goes to; statement and proof follow it, PyProof/CompMap.lean:41-61, with the step letOwnedTupleGo kept) -/
theorem compLoop_any {prog : Program} {w : World} {A : Around} {R : Result → Shared → Prop} {s : Shared} {elt target iter : Expr} {ifs : List Expr} {scope : Scope} {pos : Pos} {it acc : Value} {env : Env} (I : Nat → Shared → Prop)
    (turn : ∀ n s, I n s → wpAny (model prog w) A (pyNext it) (fun r s₁ => match r with
      | none => R (.ok .next) s₁
      | some v => wpAny (model prog w) A (letOwnedTupleGo target it v) (fun _ s₁' => wpAny (model prog w) A (assign target env v) (fun _ s₂ =>
          wpAny (model prog w) A (forIn ifs true fun c r => if r = true then do let ok ← isTrue c env (eval c env); pure (ForInStep.yield ok) else pure (ForInStep.yield r)) (fun ok s₃ =>
            if ok = true then wpAny (model prog w) A (eval elt env) (fun x s₄ =>
              wpAny (model prog w) A (call (.builtin "list.append") [acc, x]) (fun _ s₅ => ∃ m, m < n ∧ I m s₅) (notedBy (model prog w) A env fun e s' => R (.error e) s') s₄) (notedBy (model prog w) A env fun e s' => R (.error e) s') s₃
            else ∃ m, m < n ∧ I m s₃) (notedBy (model prog w) A env fun e s' => R (.error e) s') s₂) (notedBy (model prog w) A env fun e s' => R (.error e) s') s₁') (notedBy (model prog w) A env fun e s' => R (.error e) s') s₁) (notedBy (model prog w) A env fun e s' => R (.error e) s') s)
    (n : Nat) (h : I n s) :
    codeAny (model prog w) A (.compLoop (.ListComp elt [⟨target, iter, ifs, 0⟩] scope pos) 0 it acc env) R s := by
  refine codeAny_loop rfl I (fun n s hI => ?_) n h
  show wpAny _ A ((compTurn (.ListComp elt [⟨target, iter, ifs, 0⟩] scope pos) 0 it acc env).onRaise (fun x => do noteFrame x env; theTreesLotGoes x)) _ _ s
  refine wpAny_noted ?_
  rw [compTurn_list]
  refine wpAny_bind (wpAny_standAt (wpAny_bind (wpAny_mono (turn n s hI) (fun r s₁ h₁ => ?_) fun _ _ h' => h')))
  cases r with
  | none => exact wpAny_pure h₁
  | some v =>
    refine wpAny_bind (wpAny_mono h₁ (fun _ s₁' h₁' => ?_) fun _ _ h' => h')
    refine wpAny_bind (wpAny_mono h₁' (fun _ s₂ h₂ => wpAny_bind (wpAny_mono h₂ (fun ok s₃ h₃ => ?_) fun _ _ h' => h')) fun _ _ h' => h')
    cases ok with
    | false => exact wpAny_pure ⟨rfl, h₃⟩
    | true =>
      exact wpAny_bind (wpAny_bind (wpAny_mono h₃ (fun x s₄ h₄ => wpAny_bind (wpAny_mono h₄ (fun _ s₅ h₅ => wpAny_pure (wpAny_pure ⟨rfl, h₅⟩)) fun _ _ h' => h')) fun _ _ h' => h'))

section
variable {X : Cx}
/-- [elt for target in iter if ..]: D the new list; W by the turn and a measure, Nx what a turn is to reach -/
def tLc (wi : TI) (g : TG) (tt : TT) (te : TE) (vs : List Nat) : TE := fun σ H Q => wi σ H fun J H1 => ∀ D, H1 D = none → ∃ W : Nat → Nat → Hp → Prop, (∃ m, W 0 m (upd H1 D (.lst []))) ∧ ∀ i m H, W i m H →
  (J.stop i H ∧ Q (.ref D) H) ∨ (J.go i H ∧ ∃ Nx : Hp → Prop, (∀ H', Nx H' → ∃ m', m' < m ∧ W (i + 1) m' H') ∧ ∀ x H', J.yld i H x H' → g x (wipe σ vs) H' fun σ2 H2 => wipe σ2 vs = wipe σ vs ∧ tt σ2 H2 fun b H3 =>
    if b = true then te σ2 H3 fun y H4 => ∃ acc, H4 D = some (.lst acc) ∧ acc.length < sizeLine ∧ Nx (upd H4 D (.lst (acc ++ [y]))) else Nx H3)
theorem lc_core {pins : List (Addr × Obj)} {s : Shared} {σ : St} {H : Hp} {Q : VK} {elt tg iter : Expr} {ifs : List Expr} {scope : Scope} {own : List (Str × Nat)} {pos pos' : Pos} {wi : TI} {g : TG} {tt : TT} {te : TE} {use : Option (Value → Sem Unit)} {Qf : Value → Shared → Prop}
    (hc : X.calm = true) (hN : X.N.Nodup) (I : Inv X pins σ H s) (hi : PI X tg iter wi) (ok : BlkOk X.N X.env.scope scope own)
    (hg : ∀ (s : Shared) (H : Hp) (C : Addr) (cl : List (Str × Addr)) (fp : List Addr), PG (X.blk s H scope (compEnvC scope cl C X.env) fp) tg g) (ht : ∀ (s : Shared) (H : Hp) (C : Addr) (cl : List (Str × Addr)) (fp : List Addr), PTs (X.blk s H scope (compEnvC scope cl C X.env) fp) ifs tt)
    (he : ∀ (s : Shared) (H : Hp) (C : Addr) (cl : List (Str × Addr)) (fp : List Addr), PE (X.blk s H scope (compEnvC scope cl C X.env) fp) elt te) (hs : ∀ x, foldedSetIterable iter X.env x = pure x)
    (h : tLc wi g tt te (own.map (·.2)) σ H Q)
    (hRR : ∀ D C s' m H', Inv X pins σ H' s' → Q (.ref D) H' → s'.heap.Ns C m → FpOk X pins H' C → compPost (model X.prog X.w) X.A X.xe use Qf (.ref D) C (.ok .next) s') :
    wpAny (model X.prog X.w) X.A (comprehension (.ListComp elt [⟨tg, iter, ifs, 0⟩] scope pos) scope X.env pos' (newList []) false (eval iter X.env) use) Qf X.xe s := by
  have hfree : ∀ y ∈ scope.names, y.2 = .free → ∃ c, X.env.cells.lookup y.1 = some c := fun y hy e => by
    rcases ok.free y hy e with k | k
    · exact I.ok.has _ (.inl k)
    · exact I.ok.has _ (.inr k)
  refine wpAny_comprehension_free (use := use) rfl hs (closure_ok hfree) ok.kind (fun y hy e => by rw [ok.uniq y hy, e])
    (thn (hi pins s σ H _ I h) fun xv s1 hx => thn hx fun itv s2 h2 => ?_)
  obtain ⟨it, fp, tn, J, H2, e, I2, T, st2, f2, q⟩ := h2
  subst e
  refine wpAny_newObj_type (newEnv_comp ?_) (by show 0 ≤ sizeLine; decide)
  generalize hD : s2.heap.objs.size = D
  have hDn : H2 D = none := I2.hok.fresh (Nat.le_of_eq hD)
  obtain ⟨W, ⟨m0, w0⟩, turn⟩ := q D hDn
  -- the new list
  generalize hs3 : ({ s2 with heap := s2.heap.push { cls := .type "list", data := .seq ([] : List Value).toArray } } : Shared) = s3
  have I3 : Inv X pins σ (upd H2 D (.lst [])) s3 := by
    rw [← hs3]
    refine I2.laid (t' := s2.toks) (fun b o e => Heap.get?_push_of_some _ e) (Nat.le_of_eq hD) ⟨Nat.zero_le _, [], 0, .nil, ?_⟩
    rw [← hD]
    exact Heap.get?_push_size _ rfl
  have h3 : s3.heap = s2.heap.push { cls := .type "list", data := .seq ([] : List Value).toArray } := by rw [← hs3]
  have sz : ∀ b ∈ fp, b < s2.heap.objs.size := fun b hb => by
    obtain ⟨o, e, _⟩ := T.obj _ _ st2 b hb
    exact Heap.lt_size e
  have f3 : ∀ b ∈ fp, FpOk X pins (upd H2 D (.lst [])) b ∧ b < s3.heap.objs.size := fun b hb => by
    have hlt := sz b hb
    refine ⟨⟨?_, (f2 b hb).2⟩, by rw [h3, Heap.size_push]; exact Nat.lt_succ_of_lt hlt⟩
    rw [upd_ne (by rw [← hD]; exact Nat.ne_of_lt hlt)]
    exact (f2 b hb).1
  have st3 : tn 0 s3.heap := T.keep _ _ _ st2 fun b _ o e => by rw [h3]; exact Heap.get?_push_of_some _ e
  have I4 := block_start I3 ok hN f3
  have pg := hg s3 (upd H2 D (.lst [])) s3.heap.objs.size (cellsFrom (s3.heap.objs.size + 1) scope.names (cloFrom X.env.cells scope.names [])) fp
  have pt := ht s3 (upd H2 D (.lst [])) s3.heap.objs.size (cellsFrom (s3.heap.objs.size + 1) scope.names (cloFrom X.env.cells scope.names [])) fp
  have pe := he s3 (upd H2 D (.lst [])) s3.heap.objs.size (cellsFrom (s3.heap.objs.size + 1) scope.names (cloFrom X.env.cells scope.names [])) fp
  show codeAny _ _ (.compStart (.ListComp elt [⟨tg, iter, ifs, 0⟩] scope pos) 0 (.ref it) (.ref D) (compEnvC scope (cellsFrom (s3.heap.objs.size + 1) scope.names (cloFrom X.env.cells scope.names [])) s3.heap.objs.size X.env)) (compPost (model X.prog X.w) X.A X.xe use Qf (.ref D) s3.heap.objs.size) { s3 with heap := pushCells (s3.heap.push { cls := .type "dict", data := .dict #[] }) scope.names }
  have nfp : ∀ b ∈ fp, (upd H2 D (.lst [])) b = none := fun b hb => (f3 b hb).1.1
  generalize hce : compEnvC scope (cellsFrom (s3.heap.objs.size + 1) scope.names (cloFrom X.env.cells scope.names [])) s3.heap.objs.size X.env = ce at I4 pg pt pe ⊢
  have cL : ce.locals = s3.heap.objs.size := by subst hce; rfl
  generalize hH3 : upd H2 D (.lst []) = H3 at I3 I4 pg pt pe w0 nfp f3
  generalize hs4 : ({ s3 with heap := pushCells (s3.heap.push { cls := .type "dict", data := .dict #[] }) scope.names } : Shared) = s4 at I4 ⊢
  have st4 : tn 0 s4.heap := T.keep _ _ _ st3 fun b _ o e => by rw [← hs4]; exact pushCells_keeps _ _ _ _ (Heap.get?_push_of_some _ e)
  have stat : ∀ {σ' : St} {H' : Hp} {s' : Shared}, Inv (X.blk s3 H3 scope ce fp) [] σ' H' s' → (∀ b ∈ fp, H' b = none) → ∀ b ∈ fp, FpOk (X.blk s3 H3 scope ce fp) [] H' b := fun {σ' H' s'} I' hn b hb =>
    ⟨hn b hb, (I'.ok.exf b hb).1, I'.ok.exfs b hb, .inl hb, fun x c e => (I'.ok.exf b hb).2 x c e, fun p hp => absurd (show p ∈ ([] : List (Addr × Obj)) ++ [] from hp) (by simp)⟩
  have loop : codeAny (model X.prog X.w) X.A (.compLoop (.ListComp elt [⟨tg, iter, ifs, 0⟩] scope pos) 0 (.ref it) (.ref D) ce) (compPost (model X.prog X.w) X.A X.xe use Qf (.ref D) s3.heap.objs.size) s4 := by
    refine compLoop_any (fun n s' => ∃ i H', Inv (X.blk s3 H3 scope ce fp) [] (wipe σ (own.map (·.2))) H' s' ∧ tn i s'.heap ∧ (∀ b ∈ fp, H' b = none) ∧ W i n H') ?_ m0 ⟨0, H3, I4, st4, nfp, w0⟩
    rintro n s5 ⟨i, H5, I5, st5, n5, w5⟩
    rcases turn i n H5 w5 with ⟨stop, qq⟩ | ⟨go, Nx, hNx, step⟩
    · have td := T.done (X.blk s3 H3 scope ce fp) rfl rfl rfl hc i [] s5 _ H5 (fun _ _ => False) I5 (stat I5 n5) st5 stop
      refine thnF td fun r s6 ⟨hr, I6⟩ => ?_
      subst hr
      -- back in the def's context
      have I7 : Inv X pins σ H5 s6 := I3.call' (ch := fp) I6.os I6.base I6.hok I6.bare fun b hb => ⟨(f3 b hb).1.2.2.2.1, (f3 b hb).1.2.1, (f3 b hb).1.2.2.2.2.1, (f3 b hb).1.2.2.2.2.2⟩
      have nC : H5 s3.heap.objs.size = none := by
        have z : H5 ce.locals = none := I6.free
        rw [cL] at z
        exact z
      obtain ⟨m, hn, _⟩ := I6.loc
      have hn : s6.heap.Ns ce.locals m := hn
      rw [cL] at hn
      exact hRR D s3.heap.objs.size s6 m H5 I7 qq hn (I3.fpOk (Nat.le_refl _) nC)
    · have ti := T.item (X.blk s3 H3 scope ce fp) rfl rfl rfl hc i [] s5 _ H5 (fun _ _ => False) I5 (stat I5 n5) st5 go
      refine thnF ti fun r s6 ⟨u, hr, h6⟩ => ?_
      subst hr
      refine thnF h6 fun _ s7 ⟨x, H7, I7, r7, y7, st7, n7⟩ => ?_
      have I7' := I7.pinned (stat I7 n7) (T.obj _ _ st7)
      refine thnF (pg _ s7 _ H7 x u _ I7' r7 (step x H7 y7)) fun _ s8 ⟨σ8, H8, I8, hw8, q8⟩ => ?_
      refine thnF (pt _ s8 σ8 H8 _ I8 q8) fun b s9 ⟨H9, I9, q9⟩ => ?_
      -- the turn's end
      have fin : ∀ {s' : Shared} {H' : Hp}, Inv (X.blk s3 H3 scope ce fp) ([] ++ pinsAt fp s7.heap) σ8 H' s' → Nx H' → ∃ m, m < n ∧ ∃ i H', Inv (X.blk s3 H3 scope ce fp) [] (wipe σ (own.map (·.2))) H' s' ∧ tn i s'.heap ∧ (∀ b ∈ fp, H' b = none) ∧ W i m H' := fun {s' H'} I' nx => by
        obtain ⟨m', hm, w'⟩ := hNx H' nx
        have pin' : ∀ b ∈ fp, ∀ o, s7.heap.get? b = some o → s'.heap.get? b = some o ∧ H' b = none := fun b hb o e =>
          let z := I'.pin (b, o) (List.mem_append_right _ (List.mem_append_right _ (mem_pinsAt hb e)))
          ⟨z.1, z.2.1⟩
        have hl : (wipe σ (own.map (·.2))).length = σ8.length := by rw [← hw8, wipe_length]
        refine ⟨m', hm, i + 1, H', (I'.unpinned (pins := [])).weak hl (fun j v e => ?_), T.keep _ _ _ st7 fun b hb o e => (pin' b hb o e).1, fun b hb => ?_, w'⟩
        · rw [← hw8] at e
          exact (wipe_some e).1
        · obtain ⟨o, e, _⟩ := T.obj _ _ st7 b hb
          exact (pin' b hb o e).2
      cases b with
      | false =>
        simp only [Bool.false_eq_true, if_false] at q9 ⊢
        exact fin I9 q9
      | true =>
        simp only [if_true] at q9 ⊢
        refine thnF (pe _ s9 σ8 H9 _ I9 q9) fun z s10 ⟨yv, H10, I10, r10, acc, hD10, hz10, nx⟩ => ?_
        exact app_ok (X := X.blk s3 H3 scope ce fp) I10 hD10 hz10 r10 fun s11 I11 => fin I11 nx
  exact codeAny_compStart_list loop (T.self X.A 0 _ _ _ st4 loop)
/-- as a value -/
theorem pe_lc {elt tg iter : Expr} {ifs : List Expr} {scope : Scope} {own : List (Str × Nat)} {pos : Pos} {wi : TI} {g : TG} {tt : TT} {te : TE} (hc : X.calm = true) (hN : X.N.Nodup) (hi : PI X tg iter wi) (ok : BlkOk X.N X.env.scope scope own)
    (hg : ∀ (s : Shared) (H : Hp) (C : Addr) (cl : List (Str × Addr)) (fp : List Addr), PG (X.blk s H scope (compEnvC scope cl C X.env) fp) tg g) (ht : ∀ (s : Shared) (H : Hp) (C : Addr) (cl : List (Str × Addr)) (fp : List Addr), PTs (X.blk s H scope (compEnvC scope cl C X.env) fp) ifs tt)
    (he : ∀ (s : Shared) (H : Hp) (C : Addr) (cl : List (Str × Addr)) (fp : List Addr), PE (X.blk s H scope (compEnvC scope cl C X.env) fp) elt te) (hs : ∀ x, foldedSetIterable iter X.env x = pure x := by intro _; rfl) :
    PE X (.ListComp elt [⟨tg, iter, ifs, 0⟩] scope pos) (tLc wi g tt te (own.map (·.2))) := by
  intro pins s σ H Q I h
  rw [eval_ListComp]
  refine lc_core hc hN I hi ok hg ht he hs h fun D C s' m H' I' q hn f => ⟨m, hn, fun h'' sb => ?_⟩
  obtain ⟨f0, f1, f2, f3, f4, f5⟩ := f
  exact ⟨.ref D, H', I'.turned (t' := s'.toks) (fun b o hb e => (sb.2 b hb).trans e) f0 f1 f3 f4 f5, rfl, q⟩
/-- name = [..] on one line, the name a local -/
theorem ps_setLc {i : Nat} {y : Str} {py : Pos} {elt tg iter : Expr} {ifs : List Expr} {scope : Scope} {own : List (Str × Nat)} {pos spos : Pos} {wi : TI} {g : TG} {tt : TT} {te : TE} (hc : X.calm = true) (hN : X.N.Nodup) (hy : X.N[i]? = some y) (hyl : X.env.scope.names.lookup y = some .local)
    (hsw : swapsWith (.ListComp elt [⟨tg, iter, ifs, 0⟩] scope pos) (some (.Name y py)) spos.line X.env = pure true) (hi : PI X tg iter wi) (ok : BlkOk X.N X.env.scope scope own)
    (hg : ∀ (s : Shared) (H : Hp) (C : Addr) (cl : List (Str × Addr)) (fp : List Addr), PG (X.blk s H scope (compEnvC scope cl C X.env) fp) tg g) (ht : ∀ (s : Shared) (H : Hp) (C : Addr) (cl : List (Str × Addr)) (fp : List Addr), PTs (X.blk s H scope (compEnvC scope cl C X.env) fp) ifs tt)
    (he : ∀ (s : Shared) (H : Hp) (C : Addr) (cl : List (Str × Addr)) (fp : List Addr), PE (X.blk s H scope (compEnvC scope cl C X.env) fp) elt te) (hs : ∀ x, foldedSetIterable iter X.env x = pure x := by intro _; rfl) :
    PS X (.Assign [.Name y py] (.ListComp elt [⟨tg, iter, ifs, 0⟩] scope pos) spos) (tAsg (tLc wi g tt te (own.map (·.2))) (gName i)) := by
  intro pins s σ H D I h
  rw [exec_Assign_Name_used _ _ _ _ hsw]
  refine wpAny_bind (wpAny_standAt (wpAny_bind ?_))
  show wpAny _ X.A (do let _ ← comprehension (.ListComp elt [⟨tg, iter, ifs, 0⟩] scope pos) scope X.env (firstIterPos [⟨tg, iter, ifs, 0⟩] pos) (newList []) false (eval iter X.env) (some (assign (.Name y py) X.env))) _ _ s
  have h : tLc wi g tt te (own.map (·.2)) σ H (fun x H1 => gName i x σ H1 D.nx) := h
  refine wpAny_bind (thn (lc_core (Qf := fun _ s' => SP X pins D .next s') hc hN I hi ok hg ht he hs h fun L C s' m H' I' q hn f => ?_) fun _ s' hq => wpAny_pure (wpAny_pure hq))
  show wpAny _ _ (assign (.Name y py) X.env (.ref L)) _ _ _
  refine wpAny_assign_Name (store_ok2 (v := V.ref L) I' hN hy (.inl hyl) rfl (fun s2 I2 ⟨a, sb, ha⟩ => ?_) (.inr hyl))
  obtain ⟨f0, f1, f2, f3, f4, f5⟩ := f
  have haC : C ≠ a := by
    rcases ha with z | z
    · rw [z]; exact f1
    · exact fun e => f4 y a z e.symm
  refine ⟨m, hn.sameBut sb haC, fun h3 sb3 => ?_⟩
  exact ⟨_, H', I2.turned (t' := s2.toks) (fun b o hb e => (sb3.2 b hb).trans e) f0 f1 f3 f4 f5, q⟩
theorem sw_true {elt : Expr} {gs : List Comprehension} {scope : Scope} {pos py : Pos} {y : Str} {l : Nat} {env : Env} (hk : env.scope.kind = .function) (hy : env.scope.names.lookup y = some .local) (hl : (py.line == pos.line) = true)
    (ha : (scope.names.any fun (n, k) => n == y && (k == .local || k == .cell)) = false) : swapsWith (.ListComp elt gs scope pos) (some (.Name y py)) l env = pure true := by
  have ky : env.kindOf y = some .local := hy
  have hb : env.blockKind = .function := by unfold Env.blockKind; rw [hk]; rfl
  unfold swapsWith
  simp only [hb, ky, ha, Expr.pos, hl]
  rfl
end

/-! ### the forms one uses -/
/-- over a list that the block leaves as it is -/
theorem lc_list {K : PySem.W.Frag} {a : Addr} {xs : List V} {g : TG} {tt : TT} {te : TE} {vs : List Nat} {σ : St} {H1 : Hp} {D : Addr} {Qd : Hp → Prop} (Pv : Nat → Hp → Prop) (h0 : Pv 0 (upd H1 D (.lst []))) (hl : ∀ i H, i ≤ xs.length → Pv i H → SqL K H a xs)
    (hs : ∀ i x H, xs[i]? = some x → Pv i H → g x (wipe σ vs) H fun σ2 H2 => wipe σ2 vs = wipe σ vs ∧ tt σ2 H2 fun b H3 =>
      if b = true then te σ2 H3 fun y H4 => ∃ acc, H4 D = some (.lst acc) ∧ acc.length < sizeLine ∧ Pv (i + 1) (upd H4 D (.lst (acc ++ [y]))) else Pv (i + 1) H3) (hd : ∀ H, Pv xs.length H → Qd H) :
    ∃ W : Nat → Nat → Hp → Prop, (∃ m, W 0 m (upd H1 D (.lst []))) ∧ ∀ i m H, W i m H →
      ((Itl K a).stop i H ∧ Qd H) ∨ ((Itl K a).go i H ∧ ∃ Nx : Hp → Prop, (∀ H', Nx H' → ∃ m', m' < m ∧ W (i + 1) m' H') ∧ ∀ x H', (Itl K a).yld i H x H' → g x (wipe σ vs) H' fun σ2 H2 => wipe σ2 vs = wipe σ vs ∧ tt σ2 H2 fun b H3 =>
        if b = true then te σ2 H3 fun y H4 => ∃ acc, H4 D = some (.lst acc) ∧ acc.length < sizeLine ∧ Nx (upd H4 D (.lst (acc ++ [y]))) else Nx H3) := by
  refine ⟨fun i m H => m = xs.length - i ∧ i ≤ xs.length ∧ Pv i H, ⟨xs.length, by simp, Nat.zero_le _, h0⟩, ?_⟩
  rintro i m H ⟨rfl, hi, p⟩
  have q := hl i H hi p
  by_cases hlt : i < xs.length
  · refine .inr ⟨⟨xs, xs[i], q, by simp [hlt]⟩, Pv (i + 1), fun H' p' => ⟨xs.length - (i + 1), by omega, rfl, hlt, p'⟩, fun x H' y => ?_⟩
    obtain ⟨e, y⟩ := y
    subst e
    exact hs i x _ (y xs q) p
  · have e : i = xs.length := by omega
    subst e
    exact .inl ⟨⟨xs, q, Nat.le_refl _⟩, hd H p⟩
def blkC (N : List Str) (sc scope : Scope) (own : List (Str × Nat)) : Bool :=
  (match scope.kind with | .function => true | _ => false) && (scope.names.all fun y => decide (scope.names.lookup y.1 = some y.2)) && (own.all fun p => decide (N[p.2]? = some p.1)) &&
    (scope.names.all fun y => match y.2 with
      | .free => (match sc.names.lookup y.1 with | some .cell => true | some .free => true | _ => false)
      | .local => decide (y.1 ∈ own.map (·.1)) || decide (y.1 ∉ N)
      | .cell => decide (y.1 ∈ own.map (·.1)) || decide (y.1 ∉ N)
      | _ => true)
theorem blkOk_by {N : List Str} {sc scope : Scope} {own : List (Str × Nat)} (h : blkC N sc scope own = true) : BlkOk N sc scope own := by
  unfold blkC at h
  simp only [Bool.and_eq_true, List.all_eq_true, decide_eq_true_eq] at h
  obtain ⟨⟨⟨h1, h2⟩, h3⟩, h4⟩ := h
  refine ⟨?_, h2, h3, fun y hy e => ?_, fun y hy e => ?_⟩
  · split at h1
    · assumption
    · cases h1
  · have q := h4 y hy
    simp only [e] at q
    split at q <;> first | exact .inl (by assumption) | exact .inr (by assumption) | cases q
  · have q := h4 y hy
    rcases e with e | e <;> (simp only [e, Bool.or_eq_true, decide_eq_true_eq] at q; exact q)
end L2

namespace L2
open PySem PySem.Spec PyProof.Rows


section
variable {prog : Program} {w : World} {A : Around} {R : Result → Shared → Prop} {s : Shared} {elt t0 i0 t1 i1 : Expr} {ifs0 ifs1 : List Expr} {scope : Scope} {pos : Pos} {it acc : Value} {env : Env}
end

section
variable {X : Cx}
end
end L2

namespace L2
open PySem PySem.Spec PyProof.Rows

/-! ### lists of pairs as tables -/
section
variable {κ : Type} [DecidableEq κ]



end


/-! ### a tracked dict, its keys ints and texts or tuples of these -/
theorem kV_is {P : Program} {w : World} {k : Key} {u : Value} (r : RelV (kV k) u) : (mixKind P w).is k u = true := by
  cases k with
  | inl i => obtain ⟨t, e⟩ := (show ∃ t, u = Value.int i t from r); subst e; exact mixKind_int P w i t
  | inr x => obtain ⟨t, e⟩ := (show ∃ t, u = Value.str x t from r); subst e; exact mixKind_str P w x t
theorem items_are {P : Program} {w : World} : ∀ {ks : List Key} {us : List Value}, Vals (ks.map kV) us → ItemsAre (mixKind P w) ks us
  | [], _, r => by rw [List.map_nil] at r; cases r; exact .nil
  | k :: ks, _, r => by
    rw [List.map_cons] at r
    cases r with
    | cons h t => exact .cons (kV_is h) (items_are t)


section
variable {P : Program} {w : World} {H : Hp} {h : Heap} {a : Addr}
/-- a tracked tuple of ints and texts is a key -/
theorem key_of {ks : List Key} (ok : HOk P w H h) (e : H a = some (.tup (ks.map kV))) : (tupleKind (mixKind P w)).is h ks a := by
  obtain ⟨_, its, r, o, h1, h2, n, h3⟩ := (show ObjOk P w H h a (.tup (ks.map kV)) from ok a _ e)
  exact ⟨o, its.toArray, n, h1, h2, h3, by simpa using items_are r⟩
end



section
variable {X : Cx} {pins : List (Addr × Obj)} {σ : St} {H : Hp} {s : Shared} {a : Addr} {y v : V} {u r : Value} {o : Option V} {A : Around} {E : Value → Shared → Prop}

theorem Inv.big (I : Inv X pins σ H s) : sysModules < s.heap.objs.size := by
  have h : mainGlobals < s.heap.objs.size := (I.mod.glob.keeps I.bk).lt
  exact Nat.lt_trans (by decide) h

/-- a dict's object is replaced -/
theorem d_write {h' : Heap} {t' : Nat} {ob : HO} (I : Inv X pins σ H s) (mu : Mut (H a)) (hs : Heap.SameBut a s.heap h') (he : ∃ q, h'.get? a = some q) (new : ObjOk X.prog X.w (upd H a ob) h' a ob) :
    Inv X pins σ (upd H a ob) { s with heap := h', toks := t' } :=
  I.write (x := a) (e := a) mu (.inl rfl) (fun b q hb z => (hs.2 b hb).trans z) he new
end

section
variable {X : Cx} {pins : List (Addr × Obj)} {σ : St} {H : Hp} {s : Shared} {a : Addr} {kvs : List (Key × V)} {k : Key} {u : Value} {A : Around} {E : Value → Shared → Prop}
end


/-! ### readings and rules -/
/-- the element of a subscription, not a slice -/
def NoSl (i : Expr) : Prop := ∀ ov iv, subscripted i false ov iv = operate [ov, iv] (getItem ov iv)
theorem subD_of {prog : Program} {w : World} {A : Around} {E : Value → Shared → Prop} {s : Shared} {env : Env} {value slice : Expr} {pos : Pos} {T id : String} {Q : Value → Shared → Prop}
    (hl : typeLookup (.type T) "__getitem__" = pure (some (.builtin id))) (hs : NoSl slice)
    (h : wpAny (model prog w) A (eval value env) (fun o s₁ => wpAny (model prog w) A (eval slice env) (fun i s₂ => s₂.TypeIs o T ∧ wpAny (model prog w) A (getItem o i) Q E s₂) E s₁) E s) :
    wpAny (model prog w) A (eval (.Subscript value slice pos) env) Q E s := by
  refine Subscript_ (wpAny_mono h (fun o s₁ h₁ => wpAny_mono h₁ (fun i s₂ h₂ => ?_) fun _ _ x => x) fun _ _ x => x)
  obtain ⟨hT, h₂⟩ := h₂
  unfold subscriptTail
  refine wpAny_bind ?_
  rw [getitemInPython_of_ne hT.not_modules]
  refine wpAny_bind (wpAny_specialOf hT hl ?_)
  have fin : wpAny (model prog w) A (subscripted slice false o i) (fun r s₃ => wpAny (model prog w) A (letTemporaryGo value o r >>= fun _ => pure r) Q E s₃) E s₂ := by
    rw [hs o i]
    exact wpAny_operating (wpAny_mono h₂ (fun r s₃ h₃ => wpAny_bind (wpAny_letTemporaryGo (wpAny_pure h₃))) fun _ _ x => x)
  first
    | exact wpAny_pure (wpAny_bind fin)
    | exact wpAny_bind (wpAny_pure (wpAny_bind fin))
    | exact wpAny_bind fin



section
variable {X : Cx} {o i e value : Expr} {pos pos' tpos : Pos} {td ty tv : TE}
end


/-! ### displays -/
section
variable {X : Cx} {pos : Pos}
end




/-! ### methods -/


section
variable {X : Cx} {pins : List (Addr × Obj)} {σ : St} {H : Hp} {s : Shared} {a : Addr} {y d : V} {u r : Value} {o : Option V} {A : Around} {E : Value → Shared → Prop}
end

section
variable {X : Cx} {o e f : Expr} {apos cpos : Pos} {td ty tx : TE}
end

/-! ### dict(d): a copy -/
section
variable {X : Cx} {pins : List (Addr × Obj)} {σ : St} {H : Hp} {s : Shared} {a : Addr} {kvs : List (Key × V)} {A : Around} {E : Value → Shared → Prop}
end


section
variable {X : Cx} {pins : List (Addr × Obj)} {σ : St} {H : Hp} {s : Shared} {a : Addr} {y : V} {u : Value} {A : Around} {E : Value → Shared → Prop}
end
end L2

namespace L2
open PySem PySem.Spec PyProof.Rows


section
variable {prog : Program} {w : World} {A : Around} {E : Value → Shared → Prop}


end

section
variable {X : Cx}
end
end L2

namespace L2
open PySem PySem.Spec PyProof.Rows


section
variable {X : Cx} {pins : List (Addr × Obj)} {σ : St} {H : Hp} {s : Shared} {h' : Heap}
/-- .. and one new object is laid -/
theorem Inv.turnedNew {t' : Nat} {ch : List Addr} {T : Addr} {ob : HO} (I : Inv X pins σ H s) (k : ∀ b o, b ∉ ch → s.heap.get? b = some o → h'.get? b = some o) (hf : ∀ b ∈ ch, FpOk X pins H b) (hT : s.heap.objs.size ≤ T)
    (new : ObjOk X.prog X.w (upd H T ob) h' T ob) : Inv X pins σ (upd H T ob) { s with heap := h', toks := t' } := by
  have hn : H T = none := I.hok.fresh hT
  have nit : ∀ b u, H b = some u → b ∉ ch := fun b u e z => by
    have q := (hf b z).1
    rw [q] at e; cases e
  refine I.step (g' := s.gens) (d' := s.drawn) (ch := ch) (fun b hb => ⟨(hf b hb).2.2.2.1, (hf b hb).2.1, (hf b hb).2.2.2.2.1, (hf b hb).2.2.2.2.2⟩) (fun b o _ _ hc e _ => k b o hc e) (fun b o _ _ hc e _ => ⟨o.slots, k b o hc e⟩)
    (fun b o _ e n => ?_) (fun b o hc e => ⟨o, k b o hc e⟩) (fun b xs e => ?_) (fun b o u e => ?_) (fun b ps e => ⟨#[], ?_⟩) (fun m hm => ?_) (fun b u e => ?_) I.bare
  · rw [upd_ne (Nat.ne_of_lt (Nat.lt_of_lt_of_le (Heap.lt_size e) hT))]; exact n
  · rw [upd_ne (ne_of_none e hn)]; exact e
  · rw [upd_ne (ne_of_none e hn)]; exact e
  · rw [upd_ne (ne_of_none e hn), e]; simp
  · obtain ⟨o, es, ep, ho, r⟩ := hm
    exact ⟨o, es, ep, k _ o (fun z => (hf _ z).2.1 rfl) ho, r⟩
  · by_cases hb : b = T
    · subst hb
      rw [upd_same] at e
      cases e
      exact new
    · rw [upd_ne hb] at e
      refine (I.hok b u e).stay (fun c v hc q => k c v ?_ q) (fun c q => by rw [upd_ne (ne_of_none q hn)]; exact q) fun c xs q => by rw [upd_ne (ne_of_none q hn)]; exact q
      rcases hc with z | z
      · rw [z]; exact nit b u e
      · exact nit c _ z

/-! ### locking a thing while a statement runs -/
end
section
variable {X : Cx}

/-! ### one iterator just laid -/
end

/-! ### range with a step -/
section
variable {X : Cx} {tg : Expr}
end

/-! ### reversed(list) -/
section
variable {X : Cx} {tg : Expr}
end

/-! ### a str -/

/-! ### a dict's keys: any dict's entries -/
section
variable {prog : Program} {w : World} {A : Around} {E : Value → Shared → Prop} {s : Shared}
end

/-! ### a locked dict -/
section
variable {X : Cx} {pins : List (Addr × Obj)} {σ : St} {H : Hp} {s : Shared} {d : Addr} {o : Obj}
end

section
variable {P : Program} {w : World} {K : PySem.W.Frag} {tg : Expr} {d : Addr} {o : Obj} {es : Array DictEntry} {ep : Nat}
end

/-! ### for k in d, d.keys(), d.values(), d.items() -/
section
variable {X : Cx} {tg e : Expr} {td : TE} {apos cpos : Pos}
end

/-! ### enumerate(list) -/
/-- the list at a as it stands at each turn, each item in a new pair -/
def Ite (K : PySem.W.Frag) (a : Addr) : It :=
  ⟨fun i H => ∃ (xs : List V) (x : V), SqL K H a xs ∧ xs[i]? = some x, fun i H v H' => ∃ T x, v = .ref T ∧ H T = none ∧ H' = upd H T (.tup [.int (i : Nat), x]) ∧ ∀ xs, SqL K H a xs → xs[i]? = some x, fun i H => ∃ xs : List V, SqL K H a xs ∧ xs.length ≤ i⟩
theorem turn_enum {P : Program} {w : World} {K : PySem.W.Frag} {elts : List Expr} {kk : Nat} {tpos : Pos} (a e it : Addr) :
    Turn P w K (.Tuple elts kk tpos) (Ite K a) [e, it] e (fun i h => (∃ old, IsEnum h e it ((i : Nat) : Int) old) ∧ h.IsListIter it a i ∧ e ≠ it) where
  mem := by simp
  obj := fun i h st b hb => by
    obtain ⟨⟨old, he⟩, ⟨o, ho, hc, hd⟩, _⟩ := st
    have e' : b = e ∨ b = it := by simpa using hb
    rcases e' with z | z
    · rw [z]; exact ⟨_, he, fun v q => nomatch q⟩
    · rw [z]; exact ⟨o, ho, fun v q => by rw [hd] at q; cases q⟩
  keep := fun i h h' st k => let ⟨⟨old, he⟩, hi, hne⟩ := st; ⟨⟨old, k e (by simp) _ he⟩, hi.at fun o q => k it (by simp) o q, hne⟩
  item := by
    intro X hP hw hK hc i pins s σ H E I hf st hg
    subst hP hw hK
    obtain ⟨⟨old, he⟩, hit, hne⟩ := st
    obtain ⟨xs, x, hq, hx⟩ := hg
    obtain ⟨its, rv, p, hz⟩ := I.list hq
    obtain ⟨u, hu, ru⟩ := rv.get hx
    have hel : e < s.heap.objs.size := Heap.lt_size he
    have hil : it < s.heap.objs.size := by obtain ⟨_, q, _⟩ := hit; exact Heap.lt_size q
    refine wpAny_pyNext_enum_item he hit p.isList (x := u) (by simpa using hu) hne fun h' ho hit' hT hsz hk => ?_
    refine ⟨_, rfl, wpAny_letOwnedTupleGo_enum (s := { s with heap := h', toks := s.toks + 1 }) ho fun h'' he' sb => ?_⟩
    have hT2 : h''.get? s.heap.objs.size = some { cls := .type "tuple", data := .seq #[.int i s.toks, u] } := (sb.2 _ (Nat.ne_of_gt hel)).trans hT
    have new : ObjOk X.prog X.w (upd H s.heap.objs.size (.tup [.int (i : Nat), x])) h'' s.heap.objs.size (.tup [.int (i : Nat), x]) :=
      ⟨by show 2 ≤ sizeLine; decide, [.int i s.toks, u], .cons ⟨_, rfl⟩ (.cons ru .nil), ⟨_, hT2, rfl, _, rfl⟩⟩
    have I1 : Inv X pins σ (upd H s.heap.objs.size (.tup [.int (i : Nat), x])) { s with heap := h'', toks := s.toks + 1 } :=
      I.turnedNew (ch := [e, it]) (fun b ob hb q => (sb.2 b (fun z => hb (by simp [z]))).trans (hk b ob (fun z => hb (by simp [z])) (fun z => hb (by simp [z])) q)) hf (Nat.le_refl _) new
    refine ⟨.ref s.heap.objs.size, _, I1, rfl, ⟨_, x, rfl, I.hok.fresh (Nat.le_refl _), rfl, fun ys hy => by rw [I.list_inj hy hq]; exact hx⟩, ⟨⟨u, ?_⟩, hit'.at fun o q => (sb.2 it (Ne.symm hne)).trans q, hne⟩, fun b hb => ?_⟩
    · have e1 : ((i + 1 : Nat) : Int) = (i : Int) + 1 := by omega
      rw [e1]; exact he'
    · have hb' : b < s.heap.objs.size := by
        have e' : b = e ∨ b = it := by simpa using hb
        rcases e' with z | z
        · rw [z]; exact hel
        · rw [z]; exact hil
      rw [upd_ne (Nat.ne_of_lt hb')]
      exact (hf b hb).1
  done := by
    intro X hP hw hK hc i pins s σ H E I hf st hg
    subst hP hw hK
    obtain ⟨⟨old, he⟩, hit, hne⟩ := st
    obtain ⟨xs, hq, hx⟩ := hg
    obtain ⟨its, rv, p, hz⟩ := I.list hq
    obtain ⟨f0, f1, f2, f3, f4, f5⟩ := hf it (by simp)
    have hl := rv.length
    exact wpAny_pyNext_enum_end (I.ok.hd hc) he hit p.isList (by simp; omega) fun h' eb => ⟨rfl, I.turned (t' := s.toks) (fun b o hb q => eb b o hb q) f0 f1 f3 f4 f5⟩
  self := fun A i s Q E st h => let ⟨⟨_, he⟩, _⟩ := st; wpAny_pyIter_enum he h
def iEnum (K : PySem.W.Frag) (ta : TA) : TI := fun σ H R => ta σ H fun vs H1 => ∃ a xs, vs = [.ref a] ∧ SqL K H1 a xs ∧ R (Ite K a) H1
theorem pi_enum {X : Cx} {e : Expr} {ta : TA} {p pos tpos : Pos} {elts : List Expr} {kk : Nat} (hg : Gl X "enumerate") (hm : X.mg "enumerate" = none) (ha : PA X [e] ta) (hs : starEach [e] X.env = [(false, eval e X.env)] := by rfl) :
    PI X (.Tuple elts kk tpos) (.Call (.Name "enumerate" p) [e] [] pos) (iEnum X.K ta) := by
  intro pins s σ H R I h
  refine Call_ (ld_blt I hg hm boot_enumerate (PyProof.Rows.callWith_type1 (thn (ha pos pins s σ H _ I h) fun us s1 ⟨vs, H1, I1, r1, q1⟩ => ?_) hs rfl))
  obtain ⟨a, xs, ex, hq, q⟩ := q1
  subst ex
  cases r1 with
  | cons r rr =>
    cases rr
    cases r
    obtain ⟨its, rv, p', hz⟩ := I1.list hq
    refine call_enumerate_list p'.isList fun h' he hit hsz hk => wpAny_pyIter_enum he ?_
    have I2 : Inv X pins σ H1 { s1 with heap := h' } := I1.kept (t' := s1.toks) hk
    refine ⟨s1.heap.objs.size + 1, [s1.heap.objs.size + 1, s1.heap.objs.size], _, _, H1, rfl, I2, turn_enum a (s1.heap.objs.size + 1) s1.heap.objs.size, ⟨⟨.none, he⟩, hit, Nat.succ_ne_self _⟩, fun b hb => ?_, q⟩
    have e' : b = s1.heap.objs.size + 1 ∨ b = s1.heap.objs.size := by simpa using hb
    have hle : s1.heap.objs.size ≤ b := by
      rcases e' with z | z
      · rw [z]; exact Nat.le_add_right _ _
      · rw [z]; exact Nat.le_refl _
    exact I1.fpOk hle (I1.hok.fresh hle)
/-! ### zip(list, list) -/
theorem boot_zip5 : bootBuiltins "zip" = some (.type "zip") := by decide +kernel
end L2

section 
namespace Bits
open PySem PyProof.Rows








end Bits
end 

section 
namespace TL
open PySem PySem.Builtin PySem.Builtin.Str PySem.StrLaws


/-! ### the list functions -/




/-! ### the model's split and partition are these -/




/-! ### computing spl and par -/


/-! ### digits -/

/-! ### words: x.split() -/
end TL
end 

namespace L2
open PySem PySem.Spec PyProof.Rows




section
variable {X : Cx} {pins : List (Addr × Obj)} {σ : St} {H : Hp} {s : Shared} {Q : VK}
end

section
variable {X : Cx}





/-! ### of a text alone -/

/-! ### of a text and a text -/

end

section
variable {X : Cx} {o e : Expr} {to te : TE}

end
end L2

namespace L2
open PySem PySem.Spec PyProof.Rows

section
variable {X : Cx}
end

/-! ### slices of a text -/


end L2

namespace Att
open PySem PySem.W PySem.Calls PyProof.Rows

/-! ### the script -/



/-! ### the attachment: holds_open's last premise (the goal 'hc' behind k_head) from a wpAny of the law's body -/



/-! ### rules over ANY heap (no ledger) from facts about the written part K: the library's own take a ledger (News) for what they write -/
section
variable {prog : Program} {w : World} {A : Around} {E : Value → Shared → Prop} {s : Shared} {K : Frag}





/-! the whole heap as the ledger: makes every rule that writes through a ledger a rule over any heap -/

end
end Att

namespace L2
open PySem PySem.Spec PyProof.Rows



end L2

namespace L2
open PySem PySem.Spec PyProof.Rows


end L2

/- THE LAST THEOREM (shape; LID, My.* are yours):
   My.Adr: a structure of the addresses that your layer names (classes, functions); My.Txt K t: a structure (Prop) of the equations over K;
   My.txt_mk : {K} {implicit addresses ..} (e1 : nsIn K mainGlobals "law" = some (some (.ref f))) (e2 : K.lookup f = some ⟨oc, od, .func (fnOf "law" "law" params body scope dV kV doc pm an cdv ct), sl⟩) (e3 : codeIn K cdv "law" = true) .. : ∃ t, My.Txt K t

(the tactic k_is has no namespace: write k_is) -/

/-! SHORT WORDS over the layer: a def of the text, its body, what a loop and a test want. -/
namespace L2
open PySem PySem.Spec PyProof.Rows

/-! ### the text by places -/
/-- the j-th statement of a class's body -/
def inClass (s : Stmt) (j : Nat) : Stmt := match s with
  | .ClassDef _ _ _ body _ _ _ _ _ _ _ => body.getD j (.Pass ⟨0, 0, 0, 0⟩)
  | _ => .Pass ⟨0, 0, 0, 0⟩
def defArgs (s : Stmt) : Arguments := match s with
  | .FunctionDef _ a _ _ _ _ _ _ _ _ => a
  | _ => { posonlyargs := [], args := [], vararg := none, kwonlyargs := [], kw_defaults := [], kwarg := none, defaults := [] }
def defBody (s : Stmt) : List Stmt := match s with
  | .FunctionDef _ _ b _ _ _ _ _ _ _ => b
  | _ => []
def defScope (s : Stmt) : Scope := match s with
  | .FunctionDef _ _ _ _ _ _ sc _ _ _ => sc
  | _ => { kind := .function, names := [], isGenerator := false, isCoroutine := false }

/-! ### no exception leaves a def -/
abbrev CX0 : CXT := fun _ _ _ _ _ _ => False
abbrev E0 : XK := fun _ _ _ => False
theorem pass0 {X : Cx} : Passes CX0 X E0 := fun _ _ _ _ _ _ _ h => h.elim

/-! ### a def (or method) of the text as it stands behind the top -/
structure Fun (K : PySem.W.Frag) (x qual : Str) (st : Stmt) (f : Addr) (fd : FuncData) : Prop where
  ex : ∃ (oc : Value) (od : Option Addr) (kV doc pm : Value) (an : Option Addr) (cdv ct : Value) (osl : Array (Option Value)),
    fd = PySem.W.fnOf x qual (defArgs st) (defBody st) (defScope st) .none kV doc pm an cdv ct ∧ K.lookup f = some ⟨oc, od, .func fd, osl⟩ ∧ PySem.W.codeIn K cdv qual = true
  kp : PySem.W.keepIn K (.ref f) = true
section
variable {P : Program} {w : World} {K : PySem.W.Frag} {mg : Str → Option Value} {base : Heap}
/-- THE RULE for a def: its body as a term of rules, and the reading of that term -/
theorem Fun.ok {x qual : Str} {st : Stmt} {f : Addr} {fd : FuncData} {N ps : List Str} {k : Nat} {sp : Sp} (F : Fun K x qual st f fd) (S : FnScope N ps (defScope st)) (len : ∀ vs H Q E, sp vs H Q E → vs.length = ps.length)
    (hbody : ∀ (cdv : Value) (A : Around) (outer : List Env) (s : Shared) (H : Hp) (vs : List V) (Q : VK) (E : XK), Room k (A.deeper (envOfC qual (defScope st) s.heap.objs.size f cdv)) → sp vs H Q E →
      ∃ t, PSs (cxOf CX0 P w K mg base N qual (defScope st) f cdv A outer s H E).nox (defBody st) t ∧ t { nx := fun _ H' => Q .non H', rt := Q } (start N vs) H) : FnOk P w K mg base CX0 (k + 1) f fd ps sp := by
  obtain ⟨oc, od, kV, doc, pm, an, cdv, ct, osl, rfl, lk, hcd⟩ := F.ex
  refine fn_of lk hcd S len fun A outer s H vs Q E hr hsp => ?_
  obtain ⟨t, h, q⟩ := hbody cdv A outer s H vs Q E hr hsp
  exact ⟨t, h.nox, q⟩
/-- how its arguments bind (no defaults): h is «fun _ _ _ _ _ _ us hl => match us, hl with | [_, _], _ => rfl», one _ a parameter -/
theorem Fun.binds {x qual : Str} {st : Stmt} {f : Addr} {fd : FuncData} {ps : List Str} (F : Fun K x qual st f fd)
    (h : ∀ (kV doc pm : Value) (an : Option Addr) (cdv ct : Value) (us : List Value), us.length = ps.length → bindArgs (PySem.W.fnOf x qual (defArgs st) (defBody st) (defScope st) .none kV doc pm an cdv ct) ⟨us, []⟩ = pure (ps.zip us)) : Binds K fd ps [] := by
  obtain ⟨oc, od, kV, doc, pm, an, cdv, ct, osl, rfl, lk, hcd⟩ := F.ex
  exact .all (h kV doc pm an cdv ct)
theorem fun_mk {x qual : Str} {st : Stmt} {f : Addr} {oc : Value} {od an : Option Addr} {osl : Array (Option Value)} {kV doc pm cdv ct : Value} (l : K.lookup f = some ⟨oc, od, .func (PySem.W.fnOf x qual (defArgs st) (defBody st) (defScope st) .none kV doc pm an cdv ct), osl⟩)
    (c : PySem.W.codeIn K cdv qual = true) (k : PySem.W.keepIn K (.ref f) = true) : Fun K x qual st f (PySem.W.fnOf x qual (defArgs st) (defBody st) (defScope st) .none kV doc pm an cdv ct) := ⟨⟨oc, od, kV, doc, pm, an, cdv, ct, osl, rfl, l, c⟩, k⟩
end

/-! ### expressions in short: the name that stands in the i-th slot -/
section
variable {X : Cx}
theorem pv (i : Nat) {x : Str} {pos : Pos} (hN : X.N[i]? = some x := by rfl) (hv : Vis X.env.scope x := by first | exact Or.inl rfl | exact Or.inr (Or.inl rfl) | exact Or.inr (Or.inr rfl)) (hd : (x == ("__debug__" : Str)) = false := by decide)
    (hcd : (x == ("__classdict__" : Str)) = false := by decide) : PE X (.Name x pos) (tVar i) := pe_var hN hv hd hcd
end

/-! ### tests -/
theorem ite2 {c A B : Prop} [Decidable c] (h1 : c → A) (h2 : ¬ c → B) : if c then A else B := by
  by_cases h : c
  · rw [if_pos h]
    exact h1 h
  · rw [if_neg h]
    exact h2 h

/-! ### heaps -/
/-- all that was tracked is as it was -/
def Same (H H' : Hp) : Prop := ∀ b o, H b = some o → H' b = some o
theorem Same.refl (H : Hp) : Same H H := fun _ _ h => h
theorem Same.trans {H H1 H2 : Hp} (a : Same H H1) (b : Same H1 H2) : Same H H2 := fun c o h => b c o (a c o h)
theorem Same.free {H H' : Hp} (e : Same H H') {l : Addr} (h : H' l = Option.none) : H l = Option.none := by
  cases q : H l with
  | none => rfl
  | some o =>
    rw [e l o q] at h
    cases h
theorem Same.seq {K : PySem.W.Frag} {H H' : Hp} {a : Addr} {xs : List V} (e : Same H H') (h : SqL K H a xs) : SqL K H' a xs := by
  rcases h with (h | ⟨o, h⟩) | h
  · exact .inl (.inl (e _ _ h))
  · exact .inl (.inr ⟨o, e _ _ h⟩)
  · exact .inr h

/-! ### a dict's pairs: keys that differ -/
section
variable {κ : Type} [DecidableEq κ]
end
/-! ### lists -/
/-- a new instance and its __init__ leave all that was tracked as it was -/
theorem Same.made {H H1 : Hp} {x dx C : Addr} (nx : H x = Option.none) (nd : H dx = Option.none) (k : ∀ b o, (upd (upd H dx (.own x)) x (.ins C dx [])) b = some o → b ≠ x → H1 b = some o) : Same H H1 := fun b o e =>
  k b o (by rw [upd_ne (ne_of_none e nx), upd_ne (ne_of_none e nd)]; exact e) (ne_of_none e nx)
end L2

set_option Elab.async false
set_option linter.all false
set_option maxRecDepth 100000
section
set_option Elab.async false
set_option linter.all false
set_option maxRecDepth 100000
set_option maxHeartbeats 2000000
namespace L2
open PySem PySem.Spec PyProof.Rows
open PySem.W (WData Codec OpenSpec Well WellAll ReadsW ReadsAllW)
/-! ### an answer as data -/
mutual
/-- x stands for the datum d, lists and tuples all the way -/
inductive Dw (K : PySem.W.Frag) (H : Hp) : V → WData → Prop
  | non : Dw K H .non .none
  | bl (b : Bool) : Dw K H (.bl b) (.bool b)
  | int (i : Int) : Dw K H (.int i) (.int i)
  | str (x : Str) : Dw K H (.str x) (.str x)
  | byt (b : Array UInt8) : Dw K H (.byt b) (.bytes b.toList)
  | lst {a : Addr} {xs : List V} {ds : List WData} : SqL K H a xs → DwAll K H xs ds → Dw K H (.ref a) (.list ds)
  | tup {a : Addr} {xs : List V} {ds : List WData} : SqT K H a xs → DwAll K H xs ds → Dw K H (.ref a) (.tuple ds)
inductive DwAll (K : PySem.W.Frag) (H : Hp) : List V → List WData → Prop
  | nil : DwAll K H [] []
  | cons {v : V} {vs : List V} {d : WData} {ds : List WData} : Dw K H v d → DwAll K H vs ds → DwAll K H (v :: vs) (d :: ds)
end
theorem dw_ints {K : PySem.W.Frag} {H : Hp} : ∀ ns : List Int, DwAll K H (ns.map V.int) (ns.map WData.int)
  | [] => .nil
  | n :: r => .cons (.int n) (dw_ints r)
theorem ints_dw {K : PySem.W.Frag} {H : Hp} : ∀ (ns : List Int) (xs : List V), DwAll K H xs (ns.map WData.int) → xs = ns.map V.int
  | [], xs, h => by
    cases h
    rfl
  | n :: r, xs, h => by
    cases h with
    | cons h1 h2 =>
      cases h1
      rw [ints_dw r _ h2] <;> rfl
section
variable {P : Program} {w : World} {K : PySem.W.Frag} {H : Hp} {h : Heap} {R : PySem.W.WRecords} {cl : Str → Option Addr}
theorem sqL_at {a : Addr} {xs : List V} (hok : HOk P w H h) (KX : K.In h) (q : SqL K H a xs) : ∃ (its : List Value) (o : Obj) (n : Nat), Vals xs its ∧ h.get? a = some o ∧ o.cls = .type "list" ∧ o.data = .seq its.toArray n := by
  rcases q with q | ⟨o, its, n, e, hc, _, hd, _, hv⟩
  · obtain ⟨_, its, n, hv, e⟩ := (show ObjOk P w H h a (.lst xs) from q.ok hok)
    exact ⟨its, _, n, hv, e, rfl, rfl⟩
  · exact ⟨its.toList, o, n, hv, KX _ _ e, hc, by simp [hd]⟩
theorem sqT_at {a : Addr} {xs : List V} (hok : HOk P w H h) (KX : K.In h) (q : SqT K H a xs) : ∃ (its : List Value) (o : Obj) (n : Nat), Vals xs its ∧ h.get? a = some o ∧ o.cls = .type "tuple" ∧ o.data = .seq its.toArray n := by
  rcases q with q | ⟨o, its, n, e, hc, hd, _, hv⟩
  · obtain ⟨_, its, hv, o, e, hc, n, hd⟩ := (show ObjOk P w H h a (.tup xs) from q.ok hok)
    exact ⟨its, o, n, hv, e, hc, hd⟩
  · exact ⟨its.toList, o, n, hv, KX _ _ e, hc, by simp [hd]⟩
mutual
theorem Dw.reads (hok : HOk P w H h) (KX : K.In h) : ∀ (d : WData) (v : V) (u : Value), Dw K H v d → RelV v u → ∃ as, ReadsW R cl h u d as
  | .none, _, _, x, r => by
    cases x
    cases r
    exact ⟨_, ReadsW.none⟩
  | .bool b, _, _, x, r => by
    cases x
    cases r
    exact ⟨_, ReadsW.bool b⟩
  | .int i, _, _, x, r => by
    cases x
    obtain ⟨t, rfl⟩ := r
    exact ⟨_, ReadsW.int i t⟩
  | .str s, _, _, x, r => by
    cases x
    obtain ⟨t, rfl⟩ := r
    exact ⟨_, ReadsW.str s t⟩
  | .bytes b, _, _, x, r => by
    cases x
    obtain ⟨t, rfl⟩ := r
    exact ⟨_, ReadsW.bytes _ t⟩
  | .list ds, _, _, x, r => by
    cases x with
    | lst hs ha =>
      cases r
      obtain ⟨its, o, n, rv, ho, hc, hd⟩ := sqL_at hok KX hs
      obtain ⟨as, hr⟩ := Dw.readsAll hok KX ds _ its ha rv
      exact ⟨_, ReadsW.list ho hc hd hr⟩
  | .tuple ds, _, _, x, r => by
    cases x with
    | tup hs ha =>
      cases r
      obtain ⟨its, o, n, rv, ho, hc, hd⟩ := sqT_at hok KX hs
      obtain ⟨as, hr⟩ := Dw.readsAll hok KX ds _ its ha rv
      exact ⟨_, ReadsW.tuple ho hc hd hr⟩
  | .float _, _, _, x, _ => by cases x
  | .dict _, _, _, x, _ => by cases x
  | .bytearray _, _, _, x, _ => by cases x
  | .set _, _, _, x, _ => by cases x
  | .frozenset _, _, _, x, _ => by cases x
  | .obj _ _, _, _, x, _ => by cases x
theorem Dw.readsAll (hok : HOk P w H h) (KX : K.In h) : ∀ (ds : List WData) (vs : List V) (us : List Value), DwAll K H vs ds → Vals vs us → ∃ as, ReadsAllW R cl h us ds as
  | [], _, _, x, r => by
    cases x
    cases r
    exact ⟨_, ReadsAllW.nil⟩
  | d :: ds, _, _, x, r => by
    cases x with
    | cons h1 h2 =>
      cases r with
      | cons r1 r2 =>
        obtain ⟨as, q1⟩ := Dw.reads hok KX d _ _ h1 r1
        obtain ⟨bs, q2⟩ := Dw.readsAll hok KX ds _ _ h2 r2
        exact ⟨_, ReadsAllW.cons q1 q2⟩
end
end
/-! ### the arguments -/
mutual
/-- data that a codec tells -/
def plW : WData → Bool
  | .none => true
  | .bool _ => true
  | .int _ => true
  | .str _ => true
  | .bytes _ => true
  | .list xs => plWs xs
  | .tuple xs => plWs xs
  | _ => false
def plWs : List WData → Bool
  | [] => true
  | x :: r => plW x && plWs r
end
theorem plWs_map {α : Type} {f : α → WData} (h : ∀ a, plW (f a) = true) : ∀ l : List α, plWs (l.map f) = true
  | [] => rfl
  | x :: r => by
    show (plW (f x) && plWs (r.map f)) = true
    rw [h x, plWs_map h r] <;> rfl
theorem pl_enc : ∀ (c : Codec) (a : c.denote), plW (c.enc a) = true
  | .unit, _ => rfl
  | .bool, _ => rfl
  | .int _ _, _ => rfl
  | .nat _ _, _ => rfl
  | .u8, _ => rfl
  | .bytes _ _, _ => rfl
  | .text _ _ _ _, _ => rfl
  | .list _ _ c, a => plWs_map (fun x => pl_enc c x) a
  | .pair c d, a => by
    show (plW (c.enc a.1) && (plW (d.enc a.2) && true)) = true
    rw [pl_enc c a.1, pl_enc d a.2] <;> rfl
  | .triple c d e, a => by
    show (plW (c.enc a.1) && (plW (d.enc a.2.1) && (plW (e.enc a.2.2) && true))) = true
    rw [pl_enc c a.1, pl_enc d a.2.1, pl_enc e a.2.2] <;> rfl
  | .option c, none => rfl
  | .option c, some x => pl_enc c x
theorem pl_encAll : ∀ (cs : List Codec) (a : Codec.denoteAll cs), plWs (Codec.encAll cs a) = true
  | [], _ => rfl
  | c :: cs, a => by
    show (plW (c.enc a.1) && plWs (Codec.encAll cs a.2)) = true
    rw [pl_enc c a.1, pl_encAll cs a.2] <;> rfl
theorem weight_mem : ∀ {xs : List WData} {d : WData}, d ∈ xs → d.weight ≤ WData.weightAll xs
  | [], d, h => absurd h (by simp)
  | x :: r, d, h => by
    show d.weight ≤ x.weight + 1 + WData.weightAll r
    rcases List.mem_cons.mp h with e | m
    · rw [e]
      omega
    · have z := weight_mem m
      omega
def toV : Value → V
  | .none => .non
  | .bool b => .bl b
  | .int i _ => .int i
  | .str x _ => .str x
  | .bytes b _ => .byt b
  | .ref a => .ref a
  | _ => .non
/-- a value of the arguments, its objects among A -/
def OkU (A : List Addr) : Value → Prop
  | .none => True
  | .bool _ => True
  | .int _ _ => True
  | .str _ _ => True
  | .bytes _ _ => True
  | .ref a => a ∈ A
  | _ => False
theorem OkU.mono {A B : List Addr} (h : ∀ a ∈ A, a ∈ B) : ∀ {u : Value}, OkU A u → OkU B u := fun {u} x => by
  cases u with
  | ref a => exact h a x
  | none => trivial
  | bool b => trivial
  | int i t => trivial
  | str s t => trivial
  | bytes b t => trivial
  | _ => exact False.elim x
theorem relV_toV {A : List Addr} {u : Value} (x : OkU A u) : RelV (toV u) u := by
  cases u with
  | ref a => rfl
  | none => rfl
  | bool b => rfl
  | int i t => exact ⟨t, rfl⟩
  | str s t => exact ⟨t, rfl⟩
  | bytes b t => exact ⟨t, rfl⟩
  | _ => exact False.elim x
theorem vals_toV {A : List Addr} : ∀ {vs : List Value}, (∀ u ∈ vs, OkU A u) → Vals (vs.map toV) vs
  | [], _ => .nil
  | u :: r, h => .cons (relV_toV (h u (List.mem_cons_self ..))) (vals_toV fun x hx => h x (List.mem_cons_of_mem _ hx))
/-- an object of the arguments -/
def ArgOb (h : Heap) (A : List Addr) (a : Addr) : Prop := ∃ vs : List Value, vs.length ≤ sizeLine ∧ (∀ u ∈ vs, OkU A u) ∧
  (h.get? a = some { cls := .type "list", data := .seq vs.toArray } ∨ h.get? a = some { cls := .type "tuple", data := .seq vs.toArray })
theorem ArgOb.mono {h : Heap} {A B : List Addr} {a : Addr} (k : ∀ a ∈ A, a ∈ B) (x : ArgOb h A a) : ArgOb h B a := by
  obtain ⟨vs, h1, h2, h3⟩ := x
  exact ⟨vs, h1, fun u hu => (h2 u hu).mono k, h3⟩
theorem wellAll_len {P : Params} {h : Heap} : ∀ {vs : List Value} {ds : List WData}, WellAll P h vs ds → vs.length = ds.length
  | _, _, .nil => rfl
  | _, _, .cons _ b => by
    show _ + 1 = _ + 1
    rw [wellAll_len b]
theorem well_list {P : Params} {h : Heap} {v : Value} {ds : List WData} (x : Well P h v (.list ds)) : ∃ (a : Addr) (vs : List Value), v = .ref a ∧ h.get? a = some { cls := .type "list", data := .seq vs.toArray } ∧ WellAll P h vs ds := by
  cases x with
  | list ho hall => exact ⟨_, _, rfl, ho, hall⟩
theorem well_tuple {P : Params} {h : Heap} {v : Value} {ds : List WData} (x : Well P h v (.tuple ds)) : ∃ (a : Addr) (vs : List Value), v = .ref a ∧ h.get? a = some { cls := .type "tuple", data := .seq vs.toArray } ∧ WellAll P h vs ds := by
  cases x with
  | tuple ho hall => exact ⟨_, _, rfl, ho, hall⟩
theorem well_cons {P : Params} {h : Heap} {us : List Value} {d : WData} {ds : List WData} (x : WellAll P h us (d :: ds)) : ∃ (v : Value) (vs : List Value), us = v :: vs ∧ Well P h v d ∧ WellAll P h vs ds := by
  cases x with
  | cons a b => exact ⟨_, _, rfl, a, b⟩
theorem line_of {n : Nat} (h : n ≤ 1048576) : n ≤ sizeLine := Nat.le_trans h (by decide)
section
variable {P : Params} {h : Heap}
mutual
theorem area_one : ∀ (d : WData) (v : Value), Well P h v d → plW d = true → d.weight ≤ 1048576 → ∃ A : List Addr, OkU A v ∧ ∀ a ∈ A, ArgOb h A a
  | .none, _, x, _, _ => by
    cases x
    exact ⟨[], trivial, fun a m => absurd m (by simp)⟩
  | .bool b, _, x, _, _ => by
    cases x
    exact ⟨[], trivial, fun a m => absurd m (by simp)⟩
  | .int i, _, x, _, _ => by
    cases x
    exact ⟨[], trivial, fun a m => absurd m (by simp)⟩
  | .str s, _, x, _, _ => by
    cases x
    exact ⟨[], trivial, fun a m => absurd m (by simp)⟩
  | .bytes b, _, x, _, _ => by
    cases x
    exact ⟨[], trivial, fun a m => absurd m (by simp)⟩
  | .list ds, _, x, p, z => by
    obtain ⟨a, vs, rfl, ho, hall⟩ := well_list x
    have z2 : WData.weightAll ds ≤ 1048576 := z
    obtain ⟨A, h1, h2⟩ := area_all ds _ hall p fun d hd => Nat.le_trans (weight_mem hd) z2
    have k : ∀ b ∈ A, b ∈ a :: A := fun b hb => List.mem_cons_of_mem _ hb
    refine ⟨a :: A, List.mem_cons_self .., fun b hb => ?_⟩
    rcases List.mem_cons.mp hb with e | m
    · rw [e]
      exact ⟨vs, line_of (by rw [wellAll_len hall]; exact Nat.le_trans (PySem.W.length_le_weightAllW ds) z2), fun u hu => (h1 u hu).mono k, .inl ho⟩
    · exact (h2 b m).mono k
  | .tuple ds, _, x, p, z => by
    obtain ⟨a, vs, rfl, ho, hall⟩ := well_tuple x
    have z2 : WData.weightAll ds ≤ 1048576 := z
    obtain ⟨A, h1, h2⟩ := area_all ds _ hall p fun d hd => Nat.le_trans (weight_mem hd) z2
    have k : ∀ b ∈ A, b ∈ a :: A := fun b hb => List.mem_cons_of_mem _ hb
    refine ⟨a :: A, List.mem_cons_self .., fun b hb => ?_⟩
    rcases List.mem_cons.mp hb with e | m
    · rw [e]
      exact ⟨vs, line_of (by rw [wellAll_len hall]; exact Nat.le_trans (PySem.W.length_le_weightAllW ds) z2), fun u hu => (h1 u hu).mono k, .inr ho⟩
    · exact (h2 b m).mono k
  | .float _, _, _, p, _ => Bool.noConfusion (show false = true from p)
  | .dict _, _, _, p, _ => Bool.noConfusion (show false = true from p)
  | .bytearray _, _, _, p, _ => Bool.noConfusion (show false = true from p)
  | .set _, _, _, p, _ => Bool.noConfusion (show false = true from p)
  | .frozenset _, _, _, p, _ => Bool.noConfusion (show false = true from p)
  | .obj _ _, _, _, p, _ => Bool.noConfusion (show false = true from p)
theorem area_all : ∀ (ds : List WData) (vs : List Value), WellAll P h vs ds → plWs ds = true → (∀ d ∈ ds, d.weight ≤ 1048576) → ∃ A : List Addr, (∀ u ∈ vs, OkU A u) ∧ ∀ a ∈ A, ArgOb h A a
  | [], _, x, _, _ => by
    cases x
    exact ⟨[], fun u m => absurd m (by simp), fun a m => absurd m (by simp)⟩
  | d :: ds, _, x, p, z => by
    obtain ⟨v, vs, rfl, x1, x2⟩ := well_cons x
    have q : plW d = true ∧ plWs ds = true := Bool.and_eq_true_iff.mp p
    obtain ⟨A, a1, a2⟩ := area_one d v x1 q.1 (z d (List.mem_cons_self ..))
    obtain ⟨B, b1, b2⟩ := area_all ds vs x2 q.2 fun e he => z e (List.mem_cons_of_mem _ he)
    have kA : ∀ b ∈ A, b ∈ A ++ B := fun b hb => List.mem_append.mpr (.inl hb)
    have kB : ∀ b ∈ B, b ∈ A ++ B := fun b hb => List.mem_append.mpr (.inr hb)
    refine ⟨A ++ B, fun u hu => ?_, fun b hb => ?_⟩
    · rcases List.mem_cons.mp hu with e | m
      · rw [e]
        exact a1.mono kA
      · exact (b1 u m).mono kB
    · rcases List.mem_append.mp hb with m | m
      · exact (a2 b m).mono kA
      · exact (b2 b m).mono kB
end
end
/-- what is tracked of an argument's object -/
def hoOf (o : Obj) : Option HO := match o.data with
  | .seq vs _ => if (o.cls == Value.type "list") = true then some (.frz o (.lst (vs.toList.map toV))) else some (.frz o (.tup (vs.toList.map toV)))
  | _ => none
def argH (K : PySem.W.Frag) (h : Heap) (A : List Addr) : Hp := fun b => if b ∈ A then (if (K.lookup b).isNone = true then (h.get? b).bind hoOf else none) else none
/-- nothing is tracked but what is known to the object -/
def OnlyF (H : Hp) : Prop := ∀ b, H b = none ∨ ∃ o u, H b = some (.frz o u)
theorem hoOf_lst (vs : List Value) : hoOf { cls := .type "list", data := .seq vs.toArray } = some (.frz { cls := .type "list", data := .seq vs.toArray } (.lst (vs.map toV))) := by
  show (if (Value.type "list" == Value.type "list") = true then some (HO.frz { cls := .type "list", data := .seq vs.toArray } (.lst (vs.toArray.toList.map toV))) else some (HO.frz { cls := .type "list", data := .seq vs.toArray } (.tup (vs.toArray.toList.map toV)))) = _
  rw [if_pos (beq_self_eq_true _)]
theorem hoOf_tup (vs : List Value) : hoOf { cls := .type "tuple", data := .seq vs.toArray } = some (.frz { cls := .type "tuple", data := .seq vs.toArray } (.tup (vs.map toV))) := by
  show (if (Value.type "tuple" == Value.type "list") = true then some (HO.frz { cls := .type "tuple", data := .seq vs.toArray } (.lst (vs.toArray.toList.map toV))) else some (HO.frz { cls := .type "tuple", data := .seq vs.toArray } (.tup (vs.toArray.toList.map toV)))) = _
  rw [if_neg (by decide)]
section
variable {P : Program} {w : World} {K : PySem.W.Frag} {h : Heap} {A : List Addr}
theorem argH_at {b : Addr} {o : Obj} (hb : b ∈ A) (hk : K.lookup b = none) (e : h.get? b = some o) : argH K h A b = hoOf o := by
  unfold argH
  rw [if_pos hb, hk, if_pos (show (none : Option Obj).isNone = true from rfl), e] <;> rfl
theorem of_argH {b : Addr} {u : HO} (q : argH K h A b = some u) : b ∈ A ∧ K.lookup b = none := by
  unfold argH at q
  by_cases hb : b ∈ A
  · rw [if_pos hb] at q
    cases hk : K.lookup b with
    | none => exact ⟨hb, rfl⟩
    | some o =>
      rw [hk, if_neg (by simp)] at q
      cases q
  · rw [if_neg hb] at q
    cases q
/-- what stands tracked -/
theorem argH_is (ar : ∀ a ∈ A, ArgOb h A a) {b : Addr} {u : HO} (q : argH K h A b = some u) : K.lookup b = none ∧ ∃ vs : List Value, vs.length ≤ sizeLine ∧ (∀ u ∈ vs, OkU A u) ∧
    ((h.get? b = some { cls := .type "list", data := .seq vs.toArray } ∧ u = .frz { cls := .type "list", data := .seq vs.toArray } (.lst (vs.map toV))) ∨
     (h.get? b = some { cls := .type "tuple", data := .seq vs.toArray } ∧ u = .frz { cls := .type "tuple", data := .seq vs.toArray } (.tup (vs.map toV)))) := by
  obtain ⟨hb, hk⟩ := of_argH q
  obtain ⟨vs, h1, h2, h3⟩ := ar b hb
  refine ⟨hk, vs, h1, h2, ?_⟩
  rcases h3 with e | e
  · rw [argH_at hb hk e, hoOf_lst] at q
    exact .inl ⟨e, (Option.some.inj q).symm⟩
  · rw [argH_at hb hk e, hoOf_tup] at q
    exact .inr ⟨e, (Option.some.inj q).symm⟩
theorem argH_only (ar : ∀ a ∈ A, ArgOb h A a) : OnlyF (argH K h A) := fun b => by
  cases q : argH K h A b with
  | none => exact .inl rfl
  | some u =>
    obtain ⟨_, vs, _, _, ⟨_, e⟩ | ⟨_, e⟩⟩ := argH_is ar q
    · exact .inr ⟨_, _, by rw [e]⟩
    · exact .inr ⟨_, _, by rw [e]⟩
theorem argH_ok (ar : ∀ a ∈ A, ArgOb h A a) : HOk P w (argH K h A) h := fun b u q => by
  obtain ⟨_, vs, h1, h2, ⟨e, rfl⟩ | ⟨e, rfl⟩⟩ := argH_is ar q
  · exact ⟨e, by rw [List.length_map]; exact h1, vs, _, vals_toV h2, e⟩
  · exact ⟨e, by rw [List.length_map]; exact h1, vs, vals_toV h2, _, e, rfl, _, rfl⟩
theorem seq_inj {c c' : Value} {vs us : List Value} (e : (some { cls := c, data := .seq vs.toArray } : Option Obj) = some { cls := c', data := .seq us.toArray }) : c = c' ∧ vs = us := by
  have e1 := Option.some.inj e
  have e2 : c = c' := congrArg Obj.cls e1
  have e3 : Data.seq vs.toArray = Data.seq us.toArray := congrArg Obj.data e1
  injection e3 with e4
  refine ⟨e2, ?_⟩
  have e5 := congrArg Array.toList e4
  simpa using e5
/-- a list argument -/
theorem argL (KX : K.In h) (ar : ∀ a ∈ A, ArgOb h A a) {a : Addr} {vs : List Value} (ha : a ∈ A) (e : h.get? a = some { cls := .type "list", data := .seq vs.toArray }) : (∀ u ∈ vs, OkU A u) ∧ SqL K (argH K h A) a (vs.map toV) := by
  obtain ⟨us, h1, h2, h3⟩ := ar a ha
  have hu : us = vs := by
    rcases h3 with q | q
    · rw [e] at q
      exact (seq_inj q).2.symm
    · rw [e] at q
      exact absurd (Value.type.inj (seq_inj q).1) (by decide)
  subst hu
  refine ⟨h2, ?_⟩
  cases hk : K.lookup a with
  | none => exact .inl (.inr ⟨_, by rw [argH_at ha hk e, hoOf_lst]⟩)
  | some o =>
    have e2 := KX a o hk
    rw [e] at e2
    obtain rfl := Option.some.inj e2
    exact .inr ⟨_, us.toArray, _, hk, rfl, rfl, rfl, by rw [List.size_toArray]; exact h1, by simpa using vals_toV h2⟩
theorem argT (KX : K.In h) (ar : ∀ a ∈ A, ArgOb h A a) {a : Addr} {vs : List Value} (ha : a ∈ A) (e : h.get? a = some { cls := .type "tuple", data := .seq vs.toArray }) : (∀ u ∈ vs, OkU A u) ∧ SqT K (argH K h A) a (vs.map toV) := by
  obtain ⟨us, h1, h2, h3⟩ := ar a ha
  have hu : us = vs := by
    rcases h3 with q | q
    · rw [e] at q
      exact absurd (Value.type.inj (seq_inj q).1) (by decide)
    · rw [e] at q
      exact (seq_inj q).2.symm
  subst hu
  refine ⟨h2, ?_⟩
  cases hk : K.lookup a with
  | none => exact .inl (.inr ⟨_, by rw [argH_at ha hk e, hoOf_tup]⟩)
  | some o =>
    have e2 := KX a o hk
    rw [e] at e2
    obtain rfl := Option.some.inj e2
    exact .inr ⟨_, us.toArray, _, hk, rfl, rfl, by rw [List.size_toArray]; exact h1, by simpa using vals_toV h2⟩
mutual
theorem dw_one {Pm : Params} (KX : K.In h) (ar : ∀ a ∈ A, ArgOb h A a) : ∀ (d : WData) (v : Value), Well Pm h v d → plW d = true → OkU A v → Dw K (argH K h A) (toV v) d
  | .none, _, x, _, _ => by
    cases x
    exact .non
  | .bool b, _, x, _, _ => by
    cases x
    exact .bl b
  | .int i, _, x, _, _ => by
    cases x
    exact .int i
  | .str s, _, x, _, _ => by
    cases x
    exact .str s
  | .bytes b, _, x, _, _ => by
    cases x
    have z := Dw.byt (K := K) (H := argH K h A) b.toArray
    exact z
  | .list ds, _, x, p, hu => by
    obtain ⟨a, vs, rfl, ho, hall⟩ := well_list x
    obtain ⟨h2, hs⟩ := argL KX ar hu ho
    exact .lst hs (dw_all KX ar ds _ hall p h2)
  | .tuple ds, _, x, p, hu => by
    obtain ⟨a, vs, rfl, ho, hall⟩ := well_tuple x
    obtain ⟨h2, hs⟩ := argT KX ar hu ho
    exact .tup hs (dw_all KX ar ds _ hall p h2)
  | .float _, _, _, p, _ => Bool.noConfusion (show false = true from p)
  | .dict _, _, _, p, _ => Bool.noConfusion (show false = true from p)
  | .bytearray _, _, _, p, _ => Bool.noConfusion (show false = true from p)
  | .set _, _, _, p, _ => Bool.noConfusion (show false = true from p)
  | .frozenset _, _, _, p, _ => Bool.noConfusion (show false = true from p)
  | .obj _ _, _, _, p, _ => Bool.noConfusion (show false = true from p)
theorem dw_all {Pm : Params} (KX : K.In h) (ar : ∀ a ∈ A, ArgOb h A a) : ∀ (ds : List WData) (vs : List Value), WellAll Pm h vs ds → plWs ds = true → (∀ u ∈ vs, OkU A u) → DwAll K (argH K h A) (vs.map toV) ds
  | [], _, x, _, _ => by
    cases x
    exact .nil
  | d :: ds, _, x, p, hu => by
    obtain ⟨v, vs, rfl, x1, x2⟩ := well_cons x
    have q : plW d = true ∧ plWs ds = true := Bool.and_eq_true_iff.mp p
    exact .cons (dw_one KX ar d v x1 q.1 (hu _ (List.mem_cons_self ..))) (dw_all KX ar ds vs x2 q.2 fun u m => hu u (List.mem_cons_of_mem _ m))
end
end
/-! ### the call -/
theorem spec_call {P : Program} {w : World} {K : PySem.W.Frag} {mg mb : Str → Option Value} {CX : CXT} {k : Nat} {fa : Addr} {fd : FuncData} {ps : List Str} {sp : Sp} {s₁ : Shared} {vals : List Value} {ds : List WData} {R : PySem.W.WRecords} {cl : Str → Option Addr} {d0 : WData}
    (KX : K.In s₁.heap) (hns : s₁.heap.Ns mainGlobals mg) (hb : s₁.heap.Ns builtinsNs mb) (hbb : ∀ x : Str, x ≠ "__name__" → mb x = bootBuiltins x) (hlim : s₁.heap.NoLimit) (hg : s₁.gens = #[])
    (hwl : WellAll w.params s₁.heap vals ds) (hpl : plWs ds = true) (hwt : ∀ d ∈ ds, d.weight ≤ 1048576) (hr : Room k callerA)
    (F : ∀ base : Heap, K.In base → base.Ns mainGlobals mg → FnOk P w K mg base CX k fa fd ps sp) (hbind : ∀ (s : Shared) (us : List Value), us.length = ps.length → BindsTo s fd ⟨us, []⟩ (ps.zip us)) (hlen : ds.length = ps.length)
    (hsp : ∀ (H : Hp) (xs : List V), OnlyF H → DwAll K H xs ds → sp xs H (fun v H' => Dw K H' v d0) fun _ _ _ => False)
    (hCX : ∀ H e s', CX [] H s₁ (fun _ _ _ => False) e s' → False) :
    codeAny (model P w) callerA (.call (.ref fa) ⟨vals, []⟩) (fun r s' => ∃ u as, r = .ok (.ret u) ∧ ReadsW R cl s'.heap u d0 as ∧ OldK s₁.heap s'.heap ∧ s'.os = s₁.os ∧ AllBare s'.gens) s₁ := by
  obtain ⟨A, ho, ar⟩ := area_all ds vals hwl hpl hwt
  have hO : OnlyF (argH K s₁.heap A) := argH_only ar
  have hok : HOk P w (argH K s₁.heap A) s₁.heap := argH_ok ar
  have hS := dw_all KX ar ds vals hwl hpl ho
  have hV := vals_toV ho
  have hK : ∀ b u, argH K s₁.heap A b = some u → K.lookup b = none := fun b u q => (argH_is ar q).1
  have noA : ∀ {b : Addr} {o : Obj} {es : Array DictEntry} {ep : Nat}, s₁.heap.get? b = some o → o.data = .dict es ep → argH K s₁.heap A b = none := fun {b o es ep} e d => by
    cases q : argH K s₁.heap A b with
    | none => rfl
    | some u =>
      obtain ⟨_, vs, _, _, ⟨e2, _⟩ | ⟨e2, _⟩⟩ := argH_is ar q
      · rw [e2] at e
        cases e
        have d' : Data.seq vs.toArray _ = Data.dict es ep := d
        cases d'
      · rw [e2] at e
        cases e
        have d' : Data.seq vs.toArray _ = Data.dict es ep := d
        cases d'
  generalize argH K s₁.heap A = H at hO hok hS hK noA
  have base_of : ∀ {b : Addr} {o : Obj}, s₁.heap.get? b = some o → H b = none → (hidT s₁.heap H).get? b = some o := fun e n => hidT_get e n
  have nsK : ∀ {b : Addr} {m : Str → Option Value}, s₁.heap.Ns b m → (hidT s₁.heap H).Ns b m := fun {b m} ⟨o, es, ep, e, d, r⟩ => ⟨o, es, ep, base_of e (noA e d), d, r⟩
  have nK : ∀ b o, K.lookup b = some o → H b = none := fun b o e => by
    cases q : H b with
    | none => rfl
    | some u =>
      rw [hK b u q] at e
      cases e
  have hKb : K.In (hidT s₁.heap H) := fun b o e => base_of (KX b o e) (nK b o e)
  have hM : Mod K mg (hidT s₁.heap H) := ⟨hKb, nsK hns, ⟨mb, nsK hb, hbb⟩, let ⟨mc, h1, h2⟩ := hlim; ⟨mc, nsK h1, h2⟩⟩
  have e0 : Env0 P w K mg (hidT s₁.heap H) callerA [] s₁ H := ⟨rfl, hM, fun b o e => of_hidT e, Nat.le_of_eq (hidT_size _ _), trivial, fun b hb => absurd (show b ∈ ([] : List Addr) from hb) (by simp), hok, .of_eq hg⟩
  have hl : vals.length = ps.length := by rw [wellAll_len hwl]; exact hlen
  refine codeAny_mono ((F _ hKb (nsK hns)).run callerA [] s₁ H ⟨vals, []⟩ vals (vals.map toV) _ _ hr e0 (hbind s₁ vals hl) hV (hsp H _ hO hS)) fun r s' x => ?_
  cases r with
  | error e => exact (hCX H e s' x).elim
  | ok fl =>
    cases fl with
    | next => exact False.elim x
    | brk => exact False.elim x
    | cont => exact False.elim x
    | ret u =>
      obtain ⟨v, H', os, bare, un, hok', r', q⟩ := x
      have kept : ∀ b o, s₁.heap.get? b = some o → s'.heap.get? b = some o := fun b o e => by
        cases q2 : H b with
        | none => exact un.keep b o e q2 (by intro z; exact absurd (show b ∈ ([] : List Addr) from z) (by simp)) (by simp)
        | some u2 =>
          rcases hO b with z | ⟨ob, u3, z⟩
          · rw [q2] at z
            cases z
          · have z2 := un.frzs b ob _ z
            obtain ⟨e1, _⟩ := hok b _ z
            obtain ⟨e2, _⟩ := hok' b _ z2
            rw [e] at e1
            cases e1
            exact e2
      have KX' : K.In s'.heap := fun b o e => kept b o (KX b o e)
      obtain ⟨as, hrd⟩ := Dw.reads (R := R) (cl := cl) hok' KX' d0 v u q r'
      exact ⟨u, as, rfl, hrd, OldK.of_keep kept, os, bare⟩
/-! ### the row -/
theorem layable_weight {ds : List WData} (h : WData.layableAll ds = true) : ∀ d ∈ ds, d.weight ≤ 1048576 := fun d hd =>
  (PySem.W.layableW_iff.mp (List.all_eq_true.mp h d hd)).2.2
theorem encAll_len : ∀ (cs : List Codec) (a : Codec.denoteAll cs), (Codec.encAll cs a).length = cs.length
  | [], _ => rfl
  | c :: cs, a => by
    show (Codec.encAll cs a.2).length + 1 = cs.length + 1
    rw [encAll_len cs a.2]
/-- the goal that k_headS leaves (case hc), from the promise of the row's def: whatever the arguments that the codecs let and the row asks for, the def gives what stands for enc (f ..) -/
theorem walk_spec {r : OpenSpec} {k : Nat} {q : Program} {loose : List Str} {XP : (Str → Option Value) → Heap → Prop} {YP : World → Heap → Prop} {d : DefRec} {K : Params → PySem.W.Frag} {CX : World → CXT} {ps : List Str} {sp : World → Sp}
    (hwell : r.wellSaid = true) (hdf : d.params.defaults = []) (hlen : r.args.length = ps.length) (hr : Room k callerA)
    (hY : ∀ (w : World) (h : Heap), YP w h → (K w.params).In h)
    (F : ∀ (w : World) (mg : Str → Option Value) (fa : Addr) (h : Heap), YP w h → (K w.params).In h → h.Ns mainGlobals mg → mg d.name = some (.ref fa) →
      ∃ fd : FuncData, (∀ (s : Shared) (us : List Value), us.length = ps.length → BindsTo s fd ⟨us, []⟩ (ps.zip us)) ∧
        ∀ base : Heap, (K w.params).In base → base.Ns mainGlobals mg → FnOk r.prog w (K w.params) mg base (CX w) k fa fd ps (sp w))
    (hsp : ∀ (w : World) (H : Hp) (xs : List V) (a : Codec.denoteAll r.args), OnlyF H → Codec.withinAll r.args a = true → Codec.app r.args r.asked a = true → DwAll (K w.params) H xs (Codec.encAll r.args a) →
      sp w xs H (fun v H' => Dw (K w.params) H' v (r.ret.enc (Codec.app r.args r.f a))) fun _ _ _ => False)
    (hCX : ∀ (w : World) (H : Hp) (s : Shared) (e : Value) (s' : Shared), CX w [] H s (fun _ _ _ => False) e s' → False) :
    PySem.W.WalkOS q loose XP YP r d [] (fun f vs => PySem.call f vs) := by
  intro w s_0 s₁ mg mb G Y fa o pm cd doc dV kV ho hd hcd hD hmg hg args vals as hpre hlay hrd hwl hlo
  obtain ⟨a, e1, e2⟩ := PySem.W.os_pre_some hpre
  obtain ⟨e3, hwi⟩ := Codec.encAll_of_decAll r.args args a e1
  subst e3
  have KX := hY w _ Y
  obtain ⟨fd, hb, hF⟩ := F w mg fa _ Y KX G.T.g hmg
  refine PySem.W.enter_call (codeAny_mono (spec_call (R := []) (cl := classAt s_0.heap) (d0 := r.ret.enc (Codec.app r.args r.f a)) KX G.T.g G.T.b G.T.builtins G.T.nolimit hg hwl (pl_encAll _ _) (layable_weight hlay) hr hF hb (by rw [encAll_len]; exact hlen)
    (fun H xs hO hS => hsp w H xs a hO hwi e2 hS) fun H e s' => hCX w H s₁ e s') fun r' s' hq => ?_)
  obtain ⟨u, as', rfl, h1, h2, h3, h4⟩ := hq
  exact ⟨.inl ⟨u, _, as', rfl, fun _ => rfl, h1, (OpenSpec.post_iff hwell hwi _ _).mpr rfl, fun z => Bool.noConfusion (show false = true from z)⟩, h2, h3, h4⟩
/-- the same where the promise hangs on the written part alone -/
theorem walk_specK {r : OpenSpec} {k : Nat} {q : Program} {loose : List Str} {XP : (Str → Option Value) → Heap → Prop} {YP : World → Heap → Prop} {d : DefRec} {K : Params → PySem.W.Frag} {CX : CXT} {ps : List Str} {sp : PySem.W.Frag → Sp}
    (hwell : r.wellSaid = true) (hdf : d.params.defaults = []) (hlen : r.args.length = ps.length) (hr : Room k callerA)
    (hY : ∀ (w : World) (h : Heap), YP w h → (K w.params).In h)
    (F : ∀ (w : World) (mg : Str → Option Value) (fa : Addr) (h : Heap), YP w h → (K w.params).In h → h.Ns mainGlobals mg → mg d.name = some (.ref fa) →
      ∃ fd : FuncData, (∀ (s : Shared) (us : List Value), us.length = ps.length → BindsTo s fd ⟨us, []⟩ (ps.zip us)) ∧
        ∀ base : Heap, (K w.params).In base → base.Ns mainGlobals mg → FnOk r.prog w (K w.params) mg base CX k fa fd ps (sp (K w.params)))
    (hsp : ∀ (K : PySem.W.Frag) (H : Hp) (xs : List V) (a : Codec.denoteAll r.args), OnlyF H → Codec.withinAll r.args a = true → Codec.app r.args r.asked a = true → DwAll K H xs (Codec.encAll r.args a) →
      sp K xs H (fun v H' => Dw K H' v (r.ret.enc (Codec.app r.args r.f a))) fun _ _ _ => False)
    (hCX : ∀ (H : Hp) (s : Shared) (e : Value) (s' : Shared), CX [] H s (fun _ _ _ => False) e s' → False) :
    PySem.W.WalkOS q loose XP YP r d [] (fun f vs => PySem.call f vs) :=
  walk_spec (K := K) (CX := fun _ => CX) (sp := fun w => sp (K w.params)) hwell hdf hlen hr hY F (fun w H xs a h1 h2 h3 h4 => hsp (K w.params) H xs a h1 h2 h3 h4) fun _ H s e s' => hCX H s e s'
end L2
-- rests on (row put in by the clerk, for the bench that shows a file only what it spells): KE.SpHead KE.OsShapes
end

set_option linter.all false
namespace LL
open Si45 (Lies Leaf waysOf)

/-! ### rows that grow, and the specification's rows -/
def longer (row places : List Lies) : List (List Lies) := match row.getLast? with
  | none => places.map fun p => [p]
  | some x => (places.filter fun p => p.from_ == x.to_ && !(row.map (·.leaf)).contains p.leaf).map fun p => row ++ [p]
def grow (places : List Lies) : Nat → List (List Lies)
  | 0 => [[]]
  | n + 1 => (grow places n).flatMap fun r => longer r places
def placesOf (wss : List (List Lies)) : List Lies := wss.zipIdx.flatMap fun x => x.1.map fun w => { w with leaf := x.2 }

def iter (places : List Lies) : Nat → List (List Lies) → List (List Lies)
  | 0, rs => rs
  | n + 1, rs => iter places n (rs.flatMap fun r => longer r places)
theorem iter_last (places : List Lies) : ∀ n rs, iter places (n + 1) rs = (iter places n rs).flatMap fun r => longer r places
  | 0, rs => rfl
  | n + 1, rs => by
    show iter places (n + 1) (rs.flatMap fun r => longer r places) = (iter places n (rs.flatMap fun r => longer r places)).flatMap fun r => longer r places
    exact iter_last places n _
theorem grow_iter (places : List Lies) : ∀ n, grow places n = iter places n [[]]
  | 0 => rfl
  | n + 1 => by rw [iter_last, ← grow_iter places n]; rfl
theorem iter_each (places : List Lies) : ∀ n rs, iter places n rs = rs.flatMap fun r => iter places n [r]
  | 0, rs => by
    show rs = rs.flatMap fun r => [r]
    rw [List.flatMap_singleton']
  | n + 1, rs => by
    show iter places n (rs.flatMap fun r => longer r places) = rs.flatMap fun r => iter places n ([r].flatMap fun r => longer r places)
    rw [iter_each places n, List.flatMap_assoc]
    congr 1
    funext r
    rw [List.flatMap_singleton, ← iter_each places n]
def avail (places : List Lies) (r : List Lies) : List Lies := places.filter fun p => !(r.map (·.leaf)).contains p.leaf
theorem avail_nil (places : List Lies) : avail places [] = places := by
  unfold avail
  exact List.filter_eq_self.mpr fun p _ => rfl
theorem avail_snoc (places r : List Lies) (x : Lies) : avail places (r ++ [x]) = (avail places r).filter fun y => y.leaf != x.leaf := by
  unfold avail
  rw [List.filter_filter]
  congr 1
  funext p
  rw [List.map_append, List.contains_eq_any_beq, List.contains_eq_any_beq, List.any_append]
  simp only [List.map_cons, List.map_nil, List.any_cons, List.any_nil, Bool.or_false, Bool.not_or]
  rw [Bool.and_comm]
  rfl
/-- what follows the last of a row, if there is one -/
def fol (o : Option Lies) (x : Lies) : Bool := match o with
  | some y => Si45.follows y x
  | none => true
theorem flatMap_filter {α β : Type} (p : α → Bool) (f : α → List β) : ∀ l : List α, (l.filter p).flatMap f = l.flatMap fun x => if p x = true then f x else []
  | [] => rfl
  | a :: l => by
    rw [List.filter_cons, List.flatMap_cons, ← flatMap_filter p f l]
    split
    · rw [List.flatMap_cons]
    · rw [List.nil_append]
theorem rowsFrom0 (n : Nat) (o : Option Lies) (w : List Lies) : Si45.rowsFrom (n + 1) 0 o w = (w.filter (fol o)).flatMap fun x => (Si45.rowsFrom n 0 (some x) (w.filter fun y => y.leaf != x.leaf)).map fun r => x :: r := by
  rw [flatMap_filter]
  show (w.flatMap fun x => _) = _
  congr 1
  funext x
  cases o with
  | none => simp [fol]
  | some y =>
    cases h : Si45.follows y x with
    | true => simp [fol, h]
    | false => simp [fol, h]
theorem longer_eq (r places : List Lies) : longer r places = ((avail places r).filter (fol r.getLast?)).map fun p => r ++ [p] := by
  unfold longer
  cases h : r.getLast? with
  | none =>
    have e := List.getLast?_eq_none_iff.mp h
    subst e
    rw [avail_nil]
    show _ = (places.filter fun _ => true).map _
    rw [List.filter_eq_self.mpr fun _ _ => rfl]
    rfl
  | some x =>
    unfold avail
    rw [List.filter_filter]
    show List.map _ (List.filter _ places) = _
    congr 1
    congr 1
    funext p
    show (p.from_ == x.to_ && _) = (x.to_ == p.from_ && _)
    rw [Bool.beq_comm]
theorem iter_rows (places : List Lies) : ∀ n (r : List Lies), iter places n [r] = (Si45.rowsFrom n 0 r.getLast? (avail places r)).map fun q => r ++ q
  | 0, r => by
    show [r] = [r ++ []]
    rw [List.append_nil]
  | n + 1, r => by
    show iter places n ([r].flatMap fun r => longer r places) = _
    rw [List.flatMap_singleton, iter_each, longer_eq, rowsFrom0, List.flatMap_map, List.map_flatMap]
    congr 1
    funext x
    rw [iter_rows places n, avail_snoc, List.map_map, List.getLast?_append]
    simp only [List.getLast?_singleton, Option.some_or]
    congr 1
    funext q
    simp
theorem grow_rows (places : List Lies) (n : Nat) : grow places n = Si45.rowsFrom n 0 none places := by
  rw [grow_iter, iter_rows, avail_nil]
  simp
/-- too few leaves: no row -/
theorem rows_none : ∀ (n g : Nat) (o : Option Lies) (w : List Lies) (L : List Nat), L.length < n → (∀ x ∈ w, x.leaf ∈ L) → Si45.rowsFrom n g o w = []
  | 0, _, _, _, _, h, _ => by omega
  | n + 1, g, o, w, L, h, hw => by
    show (w.flatMap fun x => _) = []
    rw [List.flatMap_eq_nil_iff]
    intro x hx
    have e : ∀ g o, Si45.rowsFrom n g o (w.filter fun y => y.leaf != x.leaf) = [] := fun g o => by
      refine rows_none n g o _ (L.erase x.leaf) ?_ fun y hy => ?_
      · rw [List.length_erase_of_mem (hw x hx)]
        have := List.length_pos_of_mem (hw x hx)
        omega
      · obtain ⟨h1, h2⟩ := List.mem_filter.mp hy
        exact (List.mem_erase_of_ne (by simpa using h2)).mpr (hw y h1)
    simp only [e, List.map_nil, ite_self]
theorem waysOf_leaf (i : Nat) (x : Leaf) : (waysOf 0 x).map (fun w => { w with leaf := i }) = waysOf i x := by
  unfold waysOf
  rw [List.map_append]
  congr 1
  · split <;> rfl
  · split <;> rfl
theorem placesOf_all (l : List Leaf) : placesOf (l.map (waysOf 0)) = Si45.allWays l := by
  unfold placesOf Si45.allWays
  rw [List.zipIdx_map, List.flatMap_map]
  congr 1
  funext x
  exact waysOf_leaf x.2 x.1
theorem mem_waysOf {i : Nat} {x : Leaf} {y : Lies} (h : y ∈ waysOf i x) : y.leaf = i := by
  unfold waysOf at h
  rcases List.mem_append.mp h with h | h
  · split at h
    · rw [List.mem_singleton.mp h]
    · cases h
  · split at h
    · rw [List.mem_singleton.mp h]
    · cases h
theorem bad_rows {l : List Leaf} (h : Si45.good l = false) (g : Nat) : Si45.rowsFrom l.length g none (Si45.allWays l) = [] := by
  unfold Si45.good at h
  obtain ⟨⟨x, i⟩, hm, hx⟩ := List.all_eq_false.mp h
  have hi := List.mem_zipIdx_iff_getElem?.mp hm
  have il : i < l.length := (List.getElem?_eq_some_iff.mp hi).1
  have hx : waysOf i x = [] := by simpa using hx
  refine rows_none _ _ _ _ ((List.range l.length).erase i) ?_ fun y hy => ?_
  · rw [List.length_erase_of_mem (List.mem_range.mpr il), List.length_range]; omega
  · obtain ⟨⟨z, j⟩, hz, hy⟩ := List.mem_flatMap.mp hy
    have ej := mem_waysOf hy
    have hj := List.mem_zipIdx_iff_getElem?.mp hz
    have jl : j < l.length := (List.getElem?_eq_some_iff.mp hj).1
    have hij : j ≠ i := by
      rintro rfl
      have e := Option.some.inj (hi.symm.trans hj)
      subst e
      rw [show waysOf j x = [] from hx] at hy
      cases hy
    rw [ej]
    exact (List.mem_erase_of_ne hij).mpr (List.mem_range.mpr jl)
theorem rows_eq (l : List Leaf) (g : Nat) : Si45.rows l g = Si45.rowsFrom l.length g none (Si45.allWays l) := by
  unfold Si45.rows
  cases h : Si45.good l with
  | true => rfl
  | false => rw [bad_rows h]; rfl
theorem orders_eq (l : List Leaf) : Si45.orders l = grow (placesOf (l.map (waysOf 0))) l.length := by
  unfold Si45.orders
  rw [rows_eq, grow_rows, placesOf_all]
end LL

set_option linter.all false
namespace LL
open Si45 (Lies Leaf)
/-! ### a line: calls one behind another in a list of numbers -/
theorem whole_id (c : List (List Int)) : PySi45.whole c = c := by
  unfold PySi45.whole
  split <;> rfl
theorem shape_cases {p : Int} {n k : Nat} (h : PySi45.shape p = some (n, k)) : k = 0 ∧ ((p = 0 ∧ n = 0) ∨ (p = 1 ∧ n = 4) ∨ (p = 2 ∧ n = 1) ∨ (p = 3 ∧ n = 1) ∨ (p = 4 ∧ n = 0) ∨ (p = 5 ∧ n = 1) ∨ (p = 6 ∧ n = 0) ∨ (p = 7 ∧ n = 0) ∨ (p = 8 ∧ n = 2) ∨ (p = 9 ∧ n = 0)) := by
  unfold PySi45.shape at h
  repeat' split at h
  all_goals first
    | (cases h; refine ⟨rfl, ?_⟩; omega)
    | cases h
theorem calls_cons {f : Nat} {p : Int} {r : List Int} {cs : List (List (List Int))} (h : PyFlat.calls PySi45.shape f (p :: r) = some cs) :
    ∃ n cs' f', PySi45.shape p = some (n, 0) ∧ n ≤ r.length ∧ cs = [p :: r.take n] :: cs' ∧ PyFlat.calls PySi45.shape f' (r.drop n) = some cs' := by
  cases f with
  | zero => cases h
  | succ f =>
    unfold PyFlat.calls at h
    cases hc : PyFlat.call PySi45.shape (p :: r) with
    | none => rw [hc] at h; cases h
    | some ct =>
      obtain ⟨c, t⟩ := ct
      rw [hc] at h
      unfold PyFlat.call at hc
      dsimp only at hc
      cases hs : PySi45.shape p with
      | none => rw [hs] at hc; cases hc
      | some nk =>
        obtain ⟨n, k⟩ := nk
        obtain ⟨rfl, _⟩ := shape_cases hs
        rw [hs] at hc
        dsimp only at hc
        split at hc
        · cases hc
        · rename_i hn
          unfold PyFlat.rows at hc
          dsimp only at hc
          cases hc
          dsimp only at h
          cases hr : PyFlat.calls PySi45.shape f (r.drop n) with
          | none => rw [hr] at h; cases h
          | some cs' =>
            rw [hr] at h
            cases h
            exact ⟨n, cs', f, rfl, by omega, rfl, hr⟩
/-- what is still to be done of a line: its numbers, the leaves now, how many numbers may still be answered, the calls -/
structure Line (l : List Int) (ls : List Leaf) (n : Nat) (cs : List (List (List Int))) : Prop where
  dec : ∃ f, PyFlat.calls PySi45.shape f l = some cs
  ask : cs.all Si45Neutral.asked1 = true
  short : Si45Neutral.short ls n cs = true
def ansOf (ls : List Leaf) (q : Si45.Call) : List Int := (Si45.step ls q).2.v :: (Si45.step ls q).2.l
theorem Line.nil {ls : List Leaf} {n : Nat} {cs : List (List (List Int))} (L : Line [] ls n cs) : cs = [] := by
  obtain ⟨f, h⟩ := L.dec
  cases f <;> (unfold PyFlat.calls at h; cases h; rfl)
theorem Line.cons {p : Int} {r : List Int} {ls : List Leaf} {n : Nat} {cs : List (List (List Int))} (L : Line (p :: r) ls n cs) :
    ∃ k q cs', PySi45.shape p = some (k, 0) ∧ k ≤ r.length ∧ cs = [p :: r.take k] :: cs' ∧ Si45Neutral.callOf (p :: r.take k) = some q ∧ (∀ z ∈ p :: r.take k, 0 ≤ z ∧ z < 2 ^ 32) ∧
      Si45Neutral.step ls [p :: r.take k] = ((Si45.step ls q).1, ansOf ls q) ∧ (ansOf ls q).length ≤ n ∧ Line (r.drop k) (Si45.step ls q).1 (n - (ansOf ls q).length) cs' := by
  obtain ⟨f, h⟩ := L.dec
  obtain ⟨k, cs', f', h1, h2, rfl, h3⟩ := calls_cons h
  have ha := L.ask
  rw [List.all_cons, Bool.and_eq_true] at ha
  obtain ⟨ha1, ha2⟩ := ha
  unfold Si45Neutral.asked1 at ha1
  rw [Bool.and_eq_true, Bool.and_eq_true] at ha1
  obtain ⟨_, hn, hc⟩ := ha1
  obtain ⟨q, hq⟩ := Option.isSome_iff_exists.mp hc
  have hq : Si45Neutral.callOf (p :: r.take k) = some q := hq
  have hs := L.short
  have st : Si45Neutral.step ls [p :: r.take k] = ((Si45.step ls q).1, ansOf ls q) := by
    unfold Si45Neutral.step
    show (match Si45Neutral.callOf (p :: r.take k) with | none => (ls, []) | some q => ((Si45.step ls q).1, (Si45.step ls q).2.v :: (Si45.step ls q).2.l)) = _
    rw [hq]
    rfl
  unfold Si45Neutral.short at hs
  dsimp only at hs
  rw [st, Bool.and_eq_true] at hs
  refine ⟨k, q, cs', h1, h2, rfl, hq, fun z hz => ?_, st, of_decide_eq_true hs.1, ⟨f', h3⟩, ha2, hs.2⟩
  have := List.all_eq_true.mp hn z hz
  unfold Si45Neutral.natural at this
  rw [Bool.and_eq_true] at this
  exact ⟨of_decide_eq_true this.1, of_decide_eq_true this.2⟩
/-- what is answered to a line's rest -/
def rest (ls : List Leaf) (cs : List (List (List Int))) : List Int := PyFlat.told (PyFlat.played Si45Neutral.step ls cs)
theorem rest_nil (ls : List Leaf) : rest ls [] = [] := rfl
theorem rest_cons {ls ls' : List Leaf} {c : List (List Int)} {cs : List (List (List Int))} {an : List Int} (h : Si45Neutral.step ls c = (ls', an)) : rest ls (c :: cs) = (an.length : Int) :: an ++ rest ls' cs := by
  show PyFlat.told ((Si45Neutral.step ls c).2 :: PyFlat.played Si45Neutral.step (Si45Neutral.step ls c).1 cs) = _
  rw [h]
  rfl
theorem asked_line {l : List Int} (h : PySi45.answers_asked l = true) : ∃ cs, Line l [] 999999 cs ∧ cs.length ≤ 60 ∧ PySi45.answers l = rest [] cs := by
  unfold PySi45.answers_asked at h
  cases hc : PyFlat.calls PySi45.shape l.length l with
  | none => rw [hc] at h; cases h
  | some raw =>
    rw [hc] at h
    have hm : raw.map PySi45.whole = raw := by
      rw [show PySi45.whole = id from funext whole_id, List.map_id]
    dsimp only at h
    rw [hm, Bool.and_eq_true, Bool.and_eq_true] at h
    obtain ⟨⟨h60, _⟩, ha⟩ := h
    unfold Si45Neutral.asked at ha
    rw [Bool.and_eq_true, Bool.and_eq_true, Bool.and_eq_true, Bool.and_eq_true] at ha
    obtain ⟨a1, _, _, _, a2⟩ := ha
    refine ⟨raw, ⟨⟨_, hc⟩, a1, a2⟩, of_decide_eq_true h60, ?_⟩
    unfold PySi45.answers PySi45.calls
    rw [hc]
    dsimp only
    rw [hm]
    rfl
/-- the calls by their numbers -/
inductive IsCall : Nat → List Nat → Si45.Call → Prop
  | begins : IsCall 0 [] .begins
  | leaf (x : Leaf) : IsCall 1 [x.a, x.b, x.c, x.d] (.leaf x)
  | drop (i : Nat) : IsCall 2 [i] (.drop i)
  | ways (i : Nat) : IsCall 3 [i] (.ways i)
  | orders : IsCall 4 [] .orders
  | from_ (i : Nat) : IsCall 5 [i] (.from_ i)
  | runs : IsCall 6 [] .runs
  | sure : IsCall 7 [] .sure
  | behind (i j : Nat) : IsCall 8 [i, j] (.behind i j)
  | least : IsCall 9 [] .least
theorem callOf_is {n : Int} {xs : List Int} {q : Si45.Call} (h : Si45Neutral.callOf (n :: xs) = some q) : IsCall n.toNat (xs.map Int.toNat) q := by
  unfold Si45Neutral.callOf at h
  rw [List.map_cons] at h
  generalize n.toNat = k at h ⊢
  generalize xs.map Int.toNat = ys at h ⊢
  split at h
  all_goals first
    | (rename_i e; injection e with e1 e2; subst e1 e2; cases h; constructor)
    | (rename_i e; injection e with e1 e2; subst e1 e2; cases h; exact IsCall.leaf ⟨_, _, _, _⟩)
    | cases h
end LL

set_option Elab.async false
set_option linter.all false
set_option maxRecDepth 100000
set_option maxHeartbeats 4000000
/-! Data on the abstract heap: what a value stands for, seen through a set of addresses. -/
namespace LL
open PySem PySem.Spec PyProof.Rows L2
abbrev St := L2.St

/-! ### max of four -/
section
variable {prog : Program} {w : World} {A : Around} {E : Value → Shared → Prop} {s : Shared}
theorem args_max4 (a b c d : Value) : argsOk "max" ⟨[a, b, c, d], []⟩ := by unfold argsOk; kernel_rfl
/-- the four, as the tuple that max makes of them -/
def four (a b c d : Int) (t u x y : Tok) : Array (Int × Tok) := #[(a, t), (b, u), (c, x), (d, y)]
theorem four_best (a b c d : Int) (t u x y : Tok) : ∃ m, numAt (four a b c d t u x y) (argBest (fun i j => decide (numAt (four a b c d t u x y) i > numAt (four a b c d t u x y) j)) 3) = m ∧ m ∈ [a, b, c, d] ∧ a ≤ m ∧ b ≤ m ∧ c ≤ m ∧ d ≤ m := by
  obtain ⟨le, top⟩ := argBest_gt (numAt (four a b c d t u x y)) 3
  refine ⟨_, rfl, ?_, top 0 (by decide), top 1 (by decide), top 2 (by decide), top 3 (by decide)⟩
  generalize argBest _ 3 = j at le
  match j, le with
  | 0, _ => exact List.mem_cons_self
  | 1, _ => exact List.mem_cons_of_mem _ List.mem_cons_self
  | 2, _ => exact List.mem_cons_of_mem _ (List.mem_cons_of_mem _ List.mem_cons_self)
  | 3, _ => exact List.mem_cons_of_mem _ (List.mem_cons_of_mem _ (List.mem_cons_of_mem _ List.mem_cons_self))
theorem max_four_ints {a b c d : Int} {t u x y : Tok} {Q : Value → Shared → Prop} (hh : A.handled = none)
    (h : ∀ m tm h' tk, (∀ p o, s.heap.get? p = some o → h'.get? p = some o) → m ∈ [a, b, c, d] → a ≤ m → b ≤ m → c ≤ m → d ≤ m → Q (.int m tm) { s with heap := h', toks := tk }) :
    wpAny (model prog w) A (call (.builtin "max") [.int a t, .int b u, .int c x, .int d y]) Q E s := by
  refine call_function_tree F.kind_max F.plain_max F.entry_max (args_max4 _ _ _ _) (wpAny_bind (wpAny_of_eq (a := [none, none]) rfl (wpAny_bind (wpAny_newObj_type ?_))))
  have size : (s.heap.push { cls := .type "tuple", data := .seq #[.int a t, .int b u, .int c x, .int d y] }).objs.size = s.heap.objs.size + 1 := Heap.size_push ..
  have tup : (s.heap.push { cls := .type "tuple", data := .seq #[.int a t, .int b u, .int c x, .int d y] }).IsTuple s.heap.objs.size (intItems (four a b c d t u x y)) := ⟨_, Heap.get?_push_size _ rfl, rfl, 0, by simp [intItems, four]⟩
  have old : ∀ p o, s.heap.get? p = some o → (s.heap.push { cls := .type "tuple", data := .seq #[.int a t, .int b u, .int c x, .int d y] }).get? p = some o := fun p o e => Heap.get?_push_of_some _ e
  have walk := Walks.tuple (prog := prog) (w := w) (A := A.in1) hh (s.heap.objs.size + 1) s.heap.objs.size (Nat.ne_of_lt (Nat.lt_succ_self _)) (intItems (four a b c d t u x y))
  refine wpAny_bind (wpAny_pyIter_tuple tup (wpAny_bind (wpAny_newObj_type ?_)))
  rw [show (toString "max" ++ toString ".loop" : String) = "max.loop" by decide]
  rw [size]
  refine wpAny_pure ⟨plainId_quiet F.plain_max_loop _, codeAny_max_loop_first walk _ (CmpOf.ints_gt (numAt (four a b c d t u x y)) fun _ _ => intItems_at) _ ?_ (by simp [intItems, four]) ⟨?_, (tup.push _).push _⟩ (Heap.get?_push_size _ rfl) fun v h' tk hv kept => ?_⟩
  · rw [Heap.size_push, size]
    have far : ∀ n : Nat, n + 1 + 1 ∉ [n + 1, n] := fun n m => by simp at m; omega
    exact far _
  · rw [← size]
    exact ⟨_, Heap.get?_push_of_some _ (Heap.get?_push_size _ rfl), rfl, rfl⟩
  · obtain ⟨m, em, hm, ha, hb, hc, hd⟩ := four_best a b c d t u x y
    rw [show (intItems (four a b c d t u x y)).size - 1 = 3 by simp [intItems, four]] at hv
    obtain ⟨tm, rfl⟩ := intItems_at hv
    rw [em]
    refine h m tm h' tk (fun p o e => ?_) hm ha hb hc hd
    have lt := Heap.lt_size e
    refine kept p o (fun q => ?_) (fun q => ?_) (Heap.get?_push_of_some _ (Heap.get?_push_of_some _ (old p o e)))
    · rw [List.mem_singleton.mp q] at lt
      exact absurd lt (Nat.not_lt.mpr (Nat.le_succ _))
    · rw [q, Heap.size_push, size] at lt
      exact absurd lt (Nat.not_lt.mpr (Nat.le_trans (Nat.le_succ _) (Nat.le_succ _)))
end
theorem vals4 {x y z w : V} {us : List Value} (r : Vals [x, y, z, w] us) : ∃ a b c d, us = [a, b, c, d] ∧ RelV x a ∧ RelV y b ∧ RelV z c ∧ RelV w d := by
  cases r with
  | cons r1 r => cases r with
    | cons r2 r => cases r with
      | cons r3 r => cases r with
        | cons r4 r => cases r; exact ⟨_, _, _, _, rfl, r1, r2, r3, r4⟩
theorem call_max4 {X : Cx} (hc : X.calm = true) : CallR X (.builtin "max") (fun xs H Q => ∃ a b c d, xs = [.int a, .int b, .int c, .int d] ∧ ∀ m, m ∈ [a, b, c, d] → a ≤ m → b ≤ m → c ≤ m → d ≤ m → Q (.int m) H) := by
  intro pins s σ H xs us Q I r h
  obtain ⟨a, b, c, d, rfl, q⟩ := h
  obtain ⟨_, _, _, _, rfl, ⟨t1, rfl⟩, ⟨t2, rfl⟩, ⟨t3, rfl⟩, ⟨t4, rfl⟩⟩ := vals4 r
  exact max_four_ints (I.ok.hd hc) fun m tm h' tk k hm h1 h2 h3 h4 => ⟨.int m, H, I.kept k, ⟨tm, rfl⟩, q m hm h1 h2 h3 h4⟩

/-- len of a list or a tuple -/
def rLen (K : PySem.W.Frag) : List V → Hp → VK → Prop := fun xs H Q => ∃ p ys, xs = [.ref p] ∧ (SqL K H p ys ∨ SqT K H p ys) ∧ Q (.int ys.length) H
/-! ### lists in step -/
theorem Paired.get {α β : Type} {F : α → β → Prop} : ∀ {l₁ : List α} {l₂ : List β} {i : Nat} {x : α}, Paired F l₁ l₂ → l₁[i]? = some x → ∃ y, l₂[i]? = some y ∧ F x y
  | _, _, _, _, .nil, e => by simp at e
  | _, _, 0, _, .cons r _, e => by simp at e; subst e; exact ⟨_, rfl, r⟩
  | _, _, i + 1, x, .cons _ t, e => by
    obtain ⟨u, h1, h2⟩ := Paired.get (i := i) (x := x) t (by simpa using e)
    exact ⟨u, by simpa using h1, h2⟩
theorem Paired.get2 {α β : Type} {F : α → β → Prop} : ∀ {l₁ : List α} {l₂ : List β} {i : Nat} {y : β}, Paired F l₁ l₂ → l₂[i]? = some y → ∃ x, l₁[i]? = some x ∧ F x y
  | _, _, _, _, .nil, e => by simp at e
  | _, _, 0, _, .cons r _, e => by simp at e; subst e; exact ⟨_, rfl, r⟩
  | _, _, i + 1, x, .cons _ t, e => by
    obtain ⟨u, h1, h2⟩ := Paired.get2 (i := i) (y := x) t (by simpa using e)
    exact ⟨u, by simpa using h1, h2⟩
theorem Paired.append {α β : Type} {F : α → β → Prop} : ∀ {a c : List α} {b d : List β}, Paired F a b → Paired F c d → Paired F (a ++ c) (b ++ d)
  | _, _, _, _, .nil, s => s
  | _, _, _, _, .cons r t, s => .cons r (Paired.append t s)
theorem Paired.eraseIdx {α β : Type} {F : α → β → Prop} : ∀ {a : List α} {b : List β} (i : Nat), Paired F a b → Paired F (a.eraseIdx i) (b.eraseIdx i)
  | _, _, _, .nil => .nil
  | _, _, 0, .cons _ t => t
  | _, _, i + 1, .cons r t => .cons r (Paired.eraseIdx i t)
theorem Paired.of_map {α β γ : Type} {F : α → β → Prop} {f : γ → α} {g : γ → β} (h : ∀ c, F (f c) (g c)) : ∀ l : List γ, Paired F (l.map f) (l.map g)
  | [] => .nil
  | c :: l => .cons (h c) (Paired.of_map h l)
theorem Paired.snoc' {α β : Type} {F : α → β → Prop} {a : α} {b : β} {l₁ : List α} {l₂ : List β} (h : Paired F l₁ l₂) (r : F a b) : Paired F (l₁ ++ [a]) (l₂ ++ [b]) := Paired.append h (.cons r .nil)

/-! ### what a value stands for -/
abbrev Rep (α : Type) := Hp → (Addr → Prop) → V → α → Prop
/-- what S shows in H stands in H', and S' shows it -/
def Keep (H H' : Hp) (S S' : Addr → Prop) : Prop := ∀ b o, S b → H b = some o → S' b ∧ H' b = some o
class Stb {α : Type} (R : Rep α) : Prop where
  keep : ∀ {H H' : Hp} {S S' : Addr → Prop} {v : V} {d : α}, Keep H H' S S' → R H S v d → R H' S' v d
def repI : Rep Int := fun _ _ v i => v = .int i
def repN : Rep Nat := fun _ _ v n => v = .int (n : Nat)
def repT {α : Type} (f : α → List V) : Rep α := fun H S v d => ∃ a, v = .ref a ∧ S a ∧ H a = some (.tup (f d))
def repL {α : Type} (R : Rep α) : Rep (List α) := fun H S v ds => ∃ a vs, v = .ref a ∧ S a ∧ H a = some (.lst vs) ∧ Paired (R H S) vs ds
instance : Stb repI := ⟨fun _ h => h⟩
instance : Stb repN := ⟨fun _ h => h⟩
instance {α : Type} (f : α → List V) : Stb (repT f) := ⟨fun k ⟨a, e, s, h⟩ => ⟨a, e, (k a _ s h).1, (k a _ s h).2⟩⟩
theorem Paired.keep {α : Type} {R : Rep α} [Stb R] {H H' : Hp} {S S' : Addr → Prop} {vs : List V} {ds : List α} (k : Keep H H' S S') (h : Paired (R H S) vs ds) : Paired (R H' S') vs ds :=
  Paired.mapP h fun _ _ r => Stb.keep k r
instance {α : Type} (R : Rep α) [Stb R] : Stb (repL R) := ⟨fun k ⟨a, vs, e, s, h, p⟩ => ⟨a, vs, e, (k a _ s h).1, (k a _ s h).2, Paired.keep k p⟩⟩
theorem Stb.mono {α : Type} {R : Rep α} [Stb R] {H : Hp} {S S' : Addr → Prop} {v : V} {d : α} (h : R H S v d) (k : ∀ b, H b ≠ none → S b → S' b) : R H S' v d :=
  Stb.keep (fun b o s e => ⟨k b (by rw [e]; simp) s, e⟩) h
theorem Stb.same {α : Type} {R : Rep α} [Stb R] {H H' : Hp} {S : Addr → Prop} {v : V} {d : α} (h : R H S v d) (k : Same H H') : R H' S v d :=
  Stb.keep (fun b o s e => ⟨s, k b o e⟩) h
/-- the same set, behind a heap in which all it shows stands -/
theorem Stb.stay {α : Type} {R : Rep α} [Stb R] {H H' : Hp} {S : Addr → Prop} {v : V} {d : α} (h : R H S v d) (k : ∀ b o, S b → H b = some o → H' b = some o) : R H' S v d :=
  Stb.keep (fun b o s e => ⟨s, k b o s e⟩) h
/-- only what stands is shown -/
theorem Stb.dom {α : Type} {R : Rep α} [Stb R] {H : Hp} {S : Addr → Prop} {v : V} {d : α} (h : R H S v d) : R H (fun b => S b ∧ H b ≠ none) v d :=
  Stb.mono h fun b n s => ⟨s, n⟩
/-- S, and all that is new since H -/
def Or2 (S : Addr → Prop) (H : Hp) : Addr → Prop := fun b => S b ∨ H b = none
theorem same_upd {H H1 : Hp} {p : Addr} {o : HO} (s : Same H H1) (n : H1 p = none) : Same H (upd H1 p o) := fun b u e => by
  rw [upd_ne (ne_of_none (s b u e) n)]; exact s b u e
theorem same_upd_self {H : Hp} {p : Addr} {o : HO} (n : H p = none) : Same H (upd H p o) := same_upd (Same.refl H) n
/-- a change of what H did not have -/
theorem same_chg {H H1 : Hp} {p : Addr} {o : HO} (s : Same H H1) (n : H p = none) : Same H (upd H1 p o) := fun b u e => by
  rw [upd_ne (ne_of_none e n)]; exact s b u e
theorem upd_none {H : Hp} {a b : Addr} {o : HO} (h : upd H a o b = none) : b ≠ a ∧ H b = none := by
  by_cases e : b = a
  · subst e; rw [upd_same] at h; cases h
  · rw [upd_ne e] at h; exact ⟨e, h⟩
theorem ints_rep : ∀ {H : Hp} {S : Addr → Prop} {vs : List V} {ns : List Int}, Paired (repI H S) vs ns ↔ vs = ns.map V.int
  | H, S, vs, ns => by
    constructor
    · intro h
      induction h with
      | nil => rfl
      | cons r _ ih => rw [show _ = V.int _ from r, ih]; rfl
    · rintro rfl
      have h := Paired.of_map (F := repI H S) (f := V.int) (g := id) (fun c => (rfl : V.int c = V.int (id c))) ns
      rw [List.map_id] at h
      exact h

/-! ### loops over what stands for a list -/
theorem take_snoc {α : Type} : ∀ {l : List α} {i : Nat} {x : α}, l[i]? = some x → l.take (i + 1) = l.take i ++ [x]
  | [], i, x, h => by simp at h
  | a :: l, 0, x, h => by
    have e : a = x := Option.some.inj h
    subst e
    rfl
  | a :: l, i + 1, x, h => by
    have ih := take_snoc (l := l) (i := i) (x := x) h
    show a :: l.take (i + 1) = a :: l.take i ++ [x]
    rw [ih]
    rfl
theorem split_at {α : Type} {l : List α} {i : Nat} {x : α} (h : l[i]? = some x) : l = l.take i ++ x :: l.drop (i + 1) := by
  obtain ⟨h1, h2⟩ := List.getElem?_eq_some_iff.mp h
  subst h2
  rw [← List.drop_eq_getElem_cons h1, List.take_append_drop]
/-- for x in xs: over a list that stands for ds; Pv: by what is done -/
theorem for_rep {α : Type} {R : Rep α} [Stb R] {K : PySem.W.Frag} {a : Addr} {vs : List V} {ds : List α} {S : Addr → Prop} {H1 : Hp} {g : TG} {tb : TS} {D : Ends} {σ : St} {H : Hp} (Pv : List α → St → Hp → Prop)
    (ha : H1 a = some (.lst vs)) (hp : Paired (R H1 S) vs ds) (h0 : Pv [] σ H) (hk : ∀ pre σ H', Pv pre σ H' → H' a = some (.lst vs))
    (hs : ∀ pre d post x σ H', ds = pre ++ d :: post → R H1 S x d → Pv pre σ H' → g x σ H' fun σ2 H2 => tb { D with nx := Pv (pre ++ [d]), ct := Pv (pre ++ [d]), bk := D.nx } σ2 H2) (hd : ∀ σ H', Pv ds σ H' → D.nx σ H') :
    ∃ W : Nat → Nat → St → Hp → Prop, (∃ m, W 0 m σ H) ∧ ∀ i m σ H, W i m σ H →
      ((Itl K a).stop i H ∧ D.nx σ H) ∨ ((Itl K a).go i H ∧ ∃ N : St → Hp → Prop, (∀ σ' H', N σ' H' → ∃ m', m' < m ∧ W (i + 1) m' σ' H') ∧ ∀ x H', (Itl K a).yld i H x H' → g x σ H' fun σ2 H2 => tb { D with nx := N, ct := N, bk := D.nx } σ2 H2) := by
  have hlen := hp.length
  refine for_list (K := K) (a := a) (xs := vs) (fun i σ H' => Pv (ds.take i) σ H') (by rw [List.take_zero]; exact h0) (fun i σ H' _ p => SqL.of (hk _ σ H' p)) (fun i x σ H' hx p => ?_) (fun σ H' p => hd σ H' ?_)
  · obtain ⟨d, hd', r⟩ := Paired.get hp hx
    have q := hs (ds.take i) d (ds.drop (i + 1)) x σ H' (split_at hd') r p
    show g x σ H' fun σ2 H2 => tb { D with nx := fun σ H' => Pv (ds.take (i + 1)) σ H', ct := fun σ H' => Pv (ds.take (i + 1)) σ H', bk := D.nx } σ2 H2
    rw [take_snoc hd']
    exact q
  · rw [hlen, List.take_length] at p; exact p
/-- [elt for x in xs if ..]: over a list that stands for ds -/
theorem lc_rep {α : Type} {R : Rep α} [Stb R] {K : PySem.W.Frag} {a : Addr} {vs : List V} {ds : List α} {S : Addr → Prop} {H0 : Hp} {g : TG} {tt : TT} {te : TE} {is : List Nat} {σ : St} {H1 : Hp} {D : Addr} {Qd : Hp → Prop} (Pv : List α → Hp → Prop)
    (hp : Paired (R H0 S) vs ds) (h0 : Pv [] (upd H1 D (.lst []))) (hk : ∀ pre H', Pv pre H' → H' a = some (.lst vs))
    (hs : ∀ pre d post x H', ds = pre ++ d :: post → R H0 S x d → Pv pre H' → g x (wipe σ is) H' fun σ2 H2 => wipe σ2 is = wipe σ is ∧ tt σ2 H2 fun b H3 => if b = true then te σ2 H3 fun y H4 => ∃ acc, H4 D = some (.lst acc) ∧ acc.length < sizeLine ∧ Pv (pre ++ [d]) (upd H4 D (.lst (acc ++ [y]))) else Pv (pre ++ [d]) H3)
    (hd : ∀ H, Pv ds H → Qd H) :
    ∃ W : Nat → Nat → Hp → Prop, (∃ m, W 0 m (upd H1 D (.lst []))) ∧ ∀ i m H, W i m H → ((Itl K a).stop i H ∧ Qd H) ∨ ((Itl K a).go i H ∧ ∃ Nx : Hp → Prop, (∀ H', Nx H' → ∃ m', m' < m ∧ W (i + 1) m' H') ∧ ∀ x H', (Itl K a).yld i H x H' → g x (wipe σ is) H' fun σ2 H2 => wipe σ2 is = wipe σ is ∧ tt σ2 H2 fun b H3 => if b = true then te σ2 H3 fun y H4 => ∃ acc, H4 D = some (.lst acc) ∧ acc.length < sizeLine ∧ Nx (upd H4 D (.lst (acc ++ [y]))) else Nx H3) := by
  have hlen := hp.length
  refine lc_list (K := K) (a := a) (xs := vs) (fun i H' => Pv (ds.take i) H') (by rw [List.take_zero]; exact h0) (fun i H' _ p => SqL.of (hk _ H' p)) (fun i x H' hx p => ?_) (fun H' p => hd H' ?_)
  · obtain ⟨d, hd', r⟩ := Paired.get hp hx
    have q := hs (ds.take i) d (ds.drop (i + 1)) x H' (split_at hd') r p
    show g x (wipe σ is) H' fun σ2 H2 => wipe σ2 is = wipe σ is ∧ tt σ2 H2 fun b H3 => if b = true then te σ2 H3 fun y H4 => ∃ acc, H4 D = some (.lst acc) ∧ acc.length < sizeLine ∧ Pv (ds.take (i + 1)) (upd H4 D (.lst (acc ++ [y]))) else Pv (ds.take (i + 1)) H3
    rw [take_snoc hd']
    exact q
  · rw [hlen, List.take_length] at p; exact p
/-- for i, x in enumerate(xs) -/
theorem for_enum {K : PySem.W.Frag} {a : Addr} {xs : List V} {g : TG} {tb : TS} {D : Ends} {σ : St} {H : Hp} (Pv : Nat → St → Hp → Prop) (h0 : Pv 0 σ H) (hl : ∀ i σ H, i ≤ xs.length → Pv i σ H → SqL K H a xs)
    (hs : ∀ i x T σ H, xs[i]? = some x → Pv i σ H → H T = none → g (.ref T) σ (upd H T (.tup [.int (i : Nat), x])) fun σ2 H2 => tb { D with nx := Pv (i + 1), ct := Pv (i + 1), bk := D.nx } σ2 H2) (hd : ∀ σ H, Pv xs.length σ H → D.nx σ H) :
    ∃ W : Nat → Nat → St → Hp → Prop, (∃ m, W 0 m σ H) ∧ ∀ i m σ H, W i m σ H →
      ((Ite K a).stop i H ∧ D.nx σ H) ∨ ((Ite K a).go i H ∧ ∃ N : St → Hp → Prop, (∀ σ' H', N σ' H' → ∃ m', m' < m ∧ W (i + 1) m' σ' H') ∧ ∀ x H', (Ite K a).yld i H x H' → g x σ H' fun σ2 H2 => tb { D with nx := N, ct := N, bk := D.nx } σ2 H2) := by
  refine ⟨fun i m σ H => m = xs.length - i ∧ i ≤ xs.length ∧ Pv i σ H, ⟨xs.length, by simp, Nat.zero_le _, h0⟩, ?_⟩
  rintro i m σ H ⟨rfl, hi, p⟩
  have q := hl i σ H hi p
  by_cases hlt : i < xs.length
  · refine .inr ⟨⟨xs, xs[i], q, by simp [hlt]⟩, Pv (i + 1), fun σ' H' p' => ⟨xs.length - (i + 1), by omega, rfl, hlt, p'⟩, fun x H' y => ?_⟩
    obtain ⟨T, x', rfl, hT, rfl, y⟩ := y
    exact hs i x' T σ H (y xs q) p hT
  · have e : i = xs.length := by omega
    subst e
    exact .inl ⟨⟨xs, q, Nat.le_refl _⟩, hd σ H p⟩

/-! ### calls of the text's own defs -/
structure Cal (P : Program) (w : World) (K : PySem.W.Frag) (mg : Str → Option Value) (base : Heap) (k : Nat) (x : Str) (ps : List Str) (sp : Sp) : Prop where
  ex : ∃ f fd, FnOk P w K mg base CX0 k f fd ps sp ∧ mg x = some (.ref f) ∧ PySem.W.keepIn K (.ref f) = true ∧ Binds K fd ps []
structure MCal (P : Program) (w : World) (K : PySem.W.Frag) (mg : Str → Option Value) (base : Heap) (k : Nat) (C : Addr) (m : Str) (ps : List Str) (sp : Sp) : Prop where
  ex : ∃ f fd, FnOk P w K mg base CX0 k f fd ps sp ∧ Cls K C ∧ Meth K C m f ∧ Binds K fd ps []
structure KCal (P : Program) (w : World) (K : PySem.W.Frag) (mg : Str → Option Value) (base : Heap) (k : Nat) (C : Addr) (x : Str) (ps : List Str) (sp : Sp) : Prop where
  ex : ∃ f fd, FnOk P w K mg base CX0 k f fd ps sp ∧ Mk K C f ∧ mg x = some (.ref C) ∧ Binds K fd ps []
section
variable {X : Cx} {k : Nat} {C : Addr} {ps : List Str} {sp : Sp} {x m : Str} {p pos apos : Pos} {e o : Expr} {es : List Expr} {ta : TE} {t : TA}
theorem pe_cal (c : Cal X.prog X.w X.K X.mg X.base k x ps sp) (hr : Room k X.A) (hg : Gl X x) (ha : PA X (e :: es) t) (hdb : (x == ("__debug__" : Str)) = false := by decide)
    (he : starEach (e :: es) X.env = (false, eval e X.env) :: starEach es X.env := by rfl) (hpl : (backTo pos (starEach es X.env)).any (·.1) = false := by rfl) : PE X (.Call (.Name x p) (e :: es) [] pos) (tCall sp [] E0 t) := by
  obtain ⟨f, fd, F, hm, hk, hb⟩ := c.ex
  exact pe_call F hr hg hm hk hb .nil pass0 ha hdb he hpl
theorem pe_mcal {pl : Sem Bool} (c : MCal X.prog X.w X.K X.mg X.base k C m ps sp) (hr : Room k X.A) (he : PE X o ta) (ha : PA X (e :: es) t)
    (hst : starEach (e :: es) X.env = (false, eval e X.env) :: starEach es X.env := by rfl) (hpl : (backTo pos (starEach es X.env)).any (·.1) = false := by rfl)
    (ht : eval (.Call (.Attribute o m apos) (e :: es) [] pos) X.env = (do
      let ov ← eval o X.env
      standAt apos.atName
      let (f, first) ← holding [ov] (getMethod ov m pl)
      callWith pos f first (backTo pos (starEach (e :: es) X.env)) (backToKw pos (keywordEach [] X.env))) := by rfl) :
    PE X (.Call (.Attribute o m apos) (e :: es) [] pos) (tMeth C m sp [] E0 ta t) := by
  obtain ⟨f, fd, F, cl, hm, hb⟩ := c.ex
  exact pe_meth he cl hm F hr hb .nil pass0 ha hst hpl ht
theorem pe_mcal0 {pl : Sem Bool} (c : MCal X.prog X.w X.K X.mg X.base k C m ps sp) (hr : Room k X.A) (he : PE X o ta)
    (ht : eval (.Call (.Attribute o m apos) [] [] pos) X.env = (do
      let ov ← eval o X.env
      standAt apos.atName
      let (f, first) ← holding [ov] (getMethod ov m pl)
      callWith pos f first (backTo pos (starEach [] X.env)) (backToKw pos (keywordEach [] X.env))) := by rfl) :
    PE X (.Call (.Attribute o m apos) [] [] pos) (tMeth C m sp [] E0 ta tNil) := by
  obtain ⟨f, fd, F, cl, hm, hb⟩ := c.ex
  exact pe_meth0 he cl hm F hr hb .nil pass0 ht
theorem pe_mk0 (c : KCal X.prog X.w X.K X.mg X.base k C x ps sp) (hr : Room (k + 1) X.A) (hg : Gl X x) (hdb : (x == ("__debug__" : Str)) = false := by decide) : PE X (.Call (.Name x p) [] [] pos) (tMake C sp [] E0 tNil) := by
  obtain ⟨f, fd, F, mk, hm, hb⟩ := c.ex
  exact pe_make0 mk F hr hg hm hb .nil pass0 hdb
end

/-! ### a statement by what holds behind it -/
def tCut (t : TS) : TS := fun D σ H => ∃ M : St → Hp → Prop, t { D with nx := M } σ H ∧ ∀ σ' H', M σ' H' → D.nx σ' H'
theorem ps_cut {X : Cx} {st : Stmt} {t : TS} (h : PS X st t) : PS X st (tCut t) := by
  intro pins s σ H D I ⟨M, ht, hm⟩
  refine thn (h pins s σ H _ I ht) fun f s' q => ?_
  cases f with
  | next => obtain ⟨σ', H', I', m⟩ := q; exact ⟨σ', H', I', hm σ' H' m⟩
  | brk => exact q
  | cont => exact q
  | ret u => exact q

/-! ### a list that grows: new since H, its items shown by S or new, never itself -/
structure Acc {α : Type} (R : Rep α) (H H1 : Hp) (S : Addr → Prop) (l : Addr) (ds : List α) : Prop where
  new : H l = none
  same : Same H H1
  lst : ∃ vs, H1 l = some (.lst vs) ∧ Paired (R H1 (fun b => (S b ∨ H b = none) ∧ b ≠ l)) vs ds
section
variable {α : Type} {R : Rep α} [Stb R] {H H1 H2 : Hp} {S : Addr → Prop} {l : Addr} {ds : List α}
theorem Acc.start (s : Same H H1) (n : H1 l = none) : Acc R H (upd H1 l (.lst [])) S l [] := ⟨s.free n, same_upd s n, [], upd_same, .nil⟩
theorem Acc.begin {vs : List V} (s : Same H H1) (n : H1 l = none) (p : Paired (R H1 (fun b => (S b ∨ H b = none) ∧ b ≠ l)) vs ds) : Acc R H (upd H1 l (.lst vs)) S l ds :=
  ⟨s.free n, same_upd s n, vs, upd_same, Paired.keep (fun b o sb e => ⟨sb, by rw [upd_ne sb.2]; exact e⟩) p⟩
theorem Acc.fresh (A : Acc R H H1 S l ds) {b : Addr} (n : H1 b = none) : H b = none ∧ b ≠ l := by
  obtain ⟨vs, h, _⟩ := A.lst
  exact ⟨A.same.free n, fun e => by rw [e, h] at n; cases n⟩
/-- what was shown at the entry, as the list sees it -/
theorem Acc.old {β : Type} {R' : Rep β} [Stb R'] (A : Acc R H H1 S l ds) {v : V} {d : β} (r : R' H S v d) : R' H1 (fun b => (S b ∨ H b = none) ∧ b ≠ l) v d :=
  Stb.keep (fun b o s e => ⟨⟨.inl s, fun q => by subst q; rw [A.new] at e; cases e⟩, A.same b o e⟩) r
theorem Acc.oldP {β : Type} {R' : Rep β} [Stb R'] (A : Acc R H H1 S l ds) {vs : List V} {es : List β} (r : Paired (R' H S) vs es) : Paired (R' H1 (fun b => (S b ∨ H b = none) ∧ b ≠ l)) vs es :=
  Paired.mapP r fun _ _ r => A.old r
theorem Acc.viewP {β : Type} {R' : Rep β} [Stb R'] (A : Acc R H H1 S l ds) {S' : Addr → Prop} {vs : List V} {es : List β} (hS : ∀ b, H1 b ≠ none → S' b → (S b ∨ H b = none) ∧ b ≠ l) (r : Paired (R' H2 (Or2 S' H1)) vs es) (s : Same H1 H2) : Paired (R' H2 (fun b => (S b ∨ H b = none) ∧ b ≠ l)) vs es :=
  Paired.mapP r fun _ _ r => Stb.mono r fun b n q => by
    by_cases e : H1 b = none
    · exact ⟨.inr (A.fresh e).1, (A.fresh e).2⟩
    · exact q.elim (fun q => hS b e q) fun q => absurd q e
theorem Acc.more (A : Acc R H H1 S l ds) (s : Same H1 H2) : Acc R H H2 S l ds := by
  obtain ⟨vs, h, p⟩ := A.lst
  exact ⟨A.new, A.same.trans s, vs, s _ _ h, Paired.keep (fun b o sb e => ⟨sb, s b o e⟩) p⟩
theorem Acc.len (A : Acc R H H1 S l ds) {vs : List V} (h : H1 l = some (.lst vs)) : vs.length = ds.length := by
  obtain ⟨ws, h', p⟩ := A.lst
  rw [h] at h'; cases h'
  exact p.length
theorem Acc.push (A : Acc R H H1 S l ds) {vs : List V} {v : V} {d : α} (h : H1 l = some (.lst vs)) (r : R H1 (fun b => (S b ∨ H b = none) ∧ b ≠ l) v d) : Acc R H (upd H1 l (.lst (vs ++ [v]))) S l (ds ++ [d]) := by
  obtain ⟨ws, h', p⟩ := A.lst
  rw [h] at h'; cases h'
  have k : Keep H1 (upd H1 l (.lst (vs ++ [v]))) (fun b => (S b ∨ H b = none) ∧ b ≠ l) (fun b => (S b ∨ H b = none) ∧ b ≠ l) := fun b o sb e => ⟨sb, by rw [upd_ne sb.2]; exact e⟩
  exact ⟨A.new, same_chg A.same A.new, _, upd_same, Paired.snoc' (Paired.keep k p) (Stb.keep k r)⟩
theorem Acc.pushAll (A : Acc R H H1 S l ds) {vs ws : List V} {es : List α} (h : H1 l = some (.lst vs)) (r : Paired (R H1 (fun b => (S b ∨ H b = none) ∧ b ≠ l)) ws es) : Acc R H (upd H1 l (.lst (vs ++ ws))) S l (ds ++ es) := by
  obtain ⟨us, h', p⟩ := A.lst
  rw [h] at h'; cases h'
  have k : Keep H1 (upd H1 l (.lst (vs ++ ws))) (fun b => (S b ∨ H b = none) ∧ b ≠ l) (fun b => (S b ∨ H b = none) ∧ b ≠ l) := fun b o sb e => ⟨sb, by rw [upd_ne sb.2]; exact e⟩
  exact ⟨A.new, same_chg A.same A.new, _, upd_same, Paired.append (Paired.keep k p) (Paired.keep k r)⟩
theorem Acc.rep (A : Acc R H H1 S l ds) : repL R H1 (Or2 S H) (.ref l) ds := by
  obtain ⟨vs, h, p⟩ := A.lst
  exact ⟨l, vs, rfl, .inr A.new, h, Paired.keep (fun b o sb e => ⟨sb.1, e⟩) p⟩
end
section
variable {α : Type} {H H1 : Hp} {S : Addr → Prop} {l t : Addr} {ds : List α}
/-- a new tuple, appended -/
theorem Acc.pushT {f : α → List V} (A : Acc (repT f) H H1 S l ds) (ht : H1 t = none) (d : α) : ∃ vs, upd H1 t (.tup (f d)) l = some (.lst vs) ∧ vs.length = ds.length ∧ Acc (repT f) H (upd (upd H1 t (.tup (f d))) l (.lst (vs ++ [.ref t]))) S l (ds ++ [d]) := by
  have A1 := A.more (same_upd_self (o := .tup (f d)) ht)
  obtain ⟨vs, hv, p⟩ := A1.lst
  exact ⟨vs, hv, p.length, A1.push hv ⟨t, rfl, ⟨.inr (A.fresh ht).1, (A.fresh ht).2⟩, upd_same⟩⟩
end
/-! ### tests -/
theorem ifI {a b : Int} {A B : Prop} (h1 : a = b → A) (h2 : ¬ a = b → B) : if decide (V.int a = V.int b) = true then A else B := by
  refine ite2 (fun h => h1 (by simpa using h)) (fun h => h2 fun e => h (by simp [e]))
theorem ifN {a b : Nat} {A B : Prop} (h1 : a = b → A) (h2 : ¬ a = b → B) : if decide (V.int (a : Nat) = V.int (b : Nat)) = true then A else B :=
  ifI (fun h => h1 (by omega)) fun h => h2 (by omega)
theorem ifD {c A B : Prop} [Decidable c] (h1 : c → A) (h2 : ¬ c → B) : if decide c = true then A else B :=
  ite2 (fun h => h1 (of_decide_eq_true h)) fun h => h2 fun e => h (decide_eq_true e)
/-! ### ints in a list -/
theorem flat_ints (ns : List Int) : (ns.map V.int).all flatV = true := by
  induction ns with
  | nil => rfl
  | cons n r ih => rw [List.map_cons, List.all_cons, ih]; rfl
theorem inV_ints (n : Int) (ns : List Int) : inV (.int n) (ns.map V.int) = ns.contains n := by
  unfold inV
  induction ns with
  | nil => rfl
  | cons a r ih =>
    rw [List.map_cons, List.any_cons, ih, List.contains_cons]
    show ((a == n) || r.contains n) = ((n == a) || r.contains n)
    rw [Bool.beq_comm]
theorem contains_cast (n : Nat) (ns : List Nat) : (ns.map fun (k : Nat) => (k : Int)).contains (n : Int) = ns.contains n := by
  induction ns with
  | nil => rfl
  | cons a r ih =>
    rw [List.map_cons, List.contains_cons, List.contains_cons, ih]
    have : ((n : Int) == (a : Int)) = (n == a) := by
      by_cases h : n = a
      · subst h; simp
      · have h' : ¬ (n : Int) = (a : Int) := by omega
        rw [beq_eq_false_iff_ne.mpr h, beq_eq_false_iff_ne.mpr h']
    rw [this]
theorem last_of {vs : List V} {α : Type} {F : V → α → Prop} {front : List α} {last : α} (h : Paired F vs (front ++ [last])) : ∃ us x, vs = us ++ [x] ∧ F x last := by
  obtain ⟨x, hx, r⟩ := Paired.get2 (i := front.length) (y := last) h (by simp)
  have hl := h.length
  simp at hl
  refine ⟨vs.take front.length, x, ?_, r⟩
  rw [← take_snoc hx, List.take_of_length_le (by omega)]
theorem fm_yes {α β : Type} {p : α → Bool} {f : α → β} {pre : List α} {d : α} (h : p d = true) : ((pre ++ [d]).filter p).map f = (pre.filter p).map f ++ [f d] := by
  rw [List.filter_append, List.map_append, List.filter_cons, if_pos h, List.filter_nil]; rfl
theorem fm_no {α β : Type} {p : α → Bool} {f : α → β} {pre : List α} {d : α} (h : p d = false) : ((pre ++ [d]).filter p).map f = (pre.filter p).map f := by
  rw [List.filter_append, List.map_append, List.filter_cons, if_neg (by rw [h]; decide), List.filter_nil]; simp
theorem fm_len {α β : Type} {p : α → Bool} {f : α → β} (l : List α) : ((l.filter p).map f).length ≤ l.length := by
  rw [List.length_map]; exact List.length_filter_le p l
theorem flatMap_len {α β : Type} {f : α → List β} {k : Nat} : ∀ {l : List α}, (∀ x ∈ l, (f x).length ≤ k) → (l.flatMap f).length ≤ k * l.length
  | [], _ => by simp
  | a :: l, h => by
    have h1 := h a (by simp)
    have h2 := flatMap_len (f := f) (k := k) (l := l) fun x m => h x (by simp [m])
    rw [List.flatMap_cons, List.length_append, List.length_cons, Nat.mul_succ]
    omega
end LL

set_option Elab.async false
set_option linter.all false
set_option maxRecDepth 100000
set_option maxHeartbeats 4000000
/-! a pair of ints among pairs -/
namespace LL
open PySem PySem.Spec PyProof.Rows L2
def pairV (p : Nat × Nat) : List V := [.int (p.1 : Nat), .int (p.2 : Nat)]
abbrev repPair : Rep (Nat × Nat) := repT pairV
theorem pairV_inj {p q : Nat × Nat} (h : pairV p = pairV q) : p = q := by
  unfold pairV at h
  injection h with h1 h2
  injection h2 with h2 _
  injection h1 with h1
  injection h2 with h2
  exact Prod.ext (by omega) (by omega)
section
variable {X : Cx} {pins : List (Addr × Obj)} {σ : St} {H : Hp} {s : Shared}
theorem pair_eqAt {A : Around} {a b : Addr} {p q : Nat × Nat} (I : Inv X pins σ H s) (hu : A.units + 64 < cLine) (ha : H a = some (.tup (pairV p))) (hb : H b = some (.tup (pairV q))) :
    SeqAt.EqAt A s (.ref a) (.ref b) (decide (p = q)) := by
  have da : Dp X.K H (.ref a) (.tuple [.int p.1, .int p.2]) := .tup (SqT.of ha) (.cons (.int _) (.cons (.int _) .nil))
  have db : Dp X.K H (.ref b) (.tuple [.int q.1, .int q.2]) := .tup (SqT.of hb) (.cons (.int _) (.cons (.int _) .nil))
  obtain ⟨as, ra⟩ := Dp.reads I _ _ _ da rfl
  obtain ⟨bs, rb⟩ := Dp.reads I _ _ _ db rfl
  have h := SeqAt.eqAt_reads _ _ A s _ _ as bs ra rb rfl rfl (by show A.units + 1 < cLine; omega)
  have e : PyData.eqv (.tuple [.int p.1, .int p.2]) (.tuple [.int q.1, .int q.2]) = decide (p = q) := by
    have e1 : PyData.eqv (.tuple [.int p.1, .int p.2]) (.tuple [.int q.1, .int q.2]) = (((p.1 : Int) == (q.1 : Int)) && (((p.2 : Int) == (q.2 : Int)) && true)) := rfl
    rw [e1]
    by_cases h : p = q
    · subst h; simp
    · rw [decide_eq_false h, Bool.eq_false_iff]
      intro z
      simp only [Bool.and_true, Bool.and_eq_true, beq_iff_eq] at z
      exact h (Prod.ext (by omega) (by omega))
  rw [e] at h
  exact h
end
section
variable {X : Cx}
/-- x in a list of pairs, x a pair -/
def rInP (K : PySem.W.Frag) : R2 := fun x y H Q => ∃ (p : Addr) (vs : List V) (ps : List (Nat × Nat)) (q : Nat × Nat) (S S' : Addr → Prop), y = .ref p ∧ SqL K H p vs ∧ repPair H S x q ∧ Paired (repPair H S') vs ps ∧ Q (.bl (ps.contains q)) H
open Classical in
theorem op_inP (hu : X.A.units + 64 + 1 < cLine) : OpR X (compareOp .In) (rInP X.K) := by
  intro pins s σ H x y v u Q I rx ry h
  obtain ⟨p, vs, ps, q, S, S', rfl, hq, ⟨c, rfl, _, hc⟩, hp, k⟩ := h
  cases ry
  cases rx
  obtain ⟨its, r, pl, hz⟩ := I.list hq
  let e : Value → Bool := fun y => decide (∃ b, y = .ref b ∧ H b = some (.tup (pairV q)))
  have he : ∀ {vs : List V} {its : List Value} {ps : List (Nat × Nat)}, Vals vs its → Paired (repPair H S') vs ps → (∀ w ∈ its, SeqAt.EqAt X.A.in1 s w (.ref c) (e w)) ∧ its.any e = ps.contains q := by
    intro vs its ps r hp
    induction hp generalizing its with
    | nil => cases r; exact ⟨fun w hw => (nomatch hw), rfl⟩
    | @cons v0 p0 vs' ps' h0 hp' ih =>
      cases r with
      | @cons _ u0 _ its' r0 r' =>
      obtain ⟨t, rfl, _, ht⟩ := h0
      cases r0
      obtain ⟨i1, i2⟩ := ih r'
      have e0 : e (.ref t) = decide (p0 = q) := by
        show decide (∃ b, Value.ref t = .ref b ∧ H b = some (.tup (pairV q))) = _
        refine decide_eq_decide.mpr ⟨?_, ?_⟩
        · rintro ⟨b, eb, hb⟩
          injection eb with eb
          subst eb
          rw [ht] at hb
          injection hb with hb
          injection hb with hb
          exact pairV_inj hb
        · rintro rfl
          exact ⟨t, rfl, ht⟩
      refine ⟨fun w hw => ?_, ?_⟩
      · rcases List.mem_cons.mp hw with rfl | hw
        · rw [e0]
          exact pair_eqAt I (by show X.A.units + 1 + 64 < cLine; omega) ht hc
        · exact i1 w hw
      · rw [List.any_cons, i2, e0, List.contains_cons]
        congr 1
        rw [Bool.beq_comm]
        by_cases z : p0 = q
        · subst z; simp
        · rw [decide_eq_false z, beq_eq_false_iff_ne.mpr z]
  obtain ⟨h1, h2⟩ := he r hp
  refine SeqAt.in_listAt e pl.isList (fun w hw => h1 w (by simpa using hw)) ⟨.bl _, H, I, rfl, ?_⟩
  rw [show its.toArray.any e = its.any e by simp, h2]
  exact k
end
end LL

set_option Elab.async false
set_option linter.all false
set_option maxRecDepth 100000
set_option maxHeartbeats 4000000
/-! less-than of lists and tuples that hold lists and tuples -/
namespace LL
open PySem PySem.Spec PyProof.Rows L2
def LtA (A : Around) (s : Shared) (u v : Value) (b : Bool) : Prop := ∀ (prog : Program) (w : World) (E : Value → Shared → Prop) (Q : Value → Shared → Prop), Q (.bool b) s → wpAny (model prog w) A (richCompare .Lt u v) Q E s
/-- the answer from place i on: by lengths at an end, else by the first pair that differs -/
structure LexRes (n n2 : Nat) (e m res : Nat → Bool) : Prop where
  out : ∀ i, n ≤ i ∨ n2 ≤ i → i ≤ n → i ≤ n2 → res i = decide (n < n2)
  eq : ∀ i, i < n → i < n2 → e i = true → res i = res (i + 1)
  ne : ∀ i, i < n → i < n2 → e i = false → res i = m i
section
open PySem.SeqAt
open PySem.AutoSeq1 (wpAny_loadPart')
open PySem.MeetsSeq PySem.MeetsSeq2 PySem.MeetsSeq3
theorem ltloop (l b : Addr) (xs ys : Array Value) (n n2 : Nat) (dd dd2 : Option Addr) (sl sl2 : Array (Option Value)) (e m res : Nat → Bool) (hres : LexRes xs.size ys.size e m res) (k : Nat) :
    ∀ i : Nat, xs.size - i = k → i ≤ xs.size → i ≤ ys.size → Meets (Builtin.«list.__eq__.loop» ⟨[.ref l, .ref b, rawInt i, rawInt 0], []⟩)
      (fun A R s => s.heap.get? l = some { cls := .type "list", dict := dd, data := .seq xs n, slots := sl } ∧ s.heap.get? b = some { cls := .type "list", dict := dd2, data := .seq ys n2, slots := sl2 } ∧
        (∀ j (h1 : j < xs.size) (h2 : j < ys.size), EqAt A.in1 s xs[j] ys[j] (e j)) ∧ (∀ j (h1 : j < xs.size) (h2 : j < ys.size), e j = false → LtA A.in1 s xs[j] ys[j] (m j)) ∧
        R (.ok (.ret (.bool (res i)))) s) := by
  induction k with
  | zero =>
    intro i hk hi hi2 prog w A R s h
    obtain ⟨hp, g, d, tk, os⟩ := s; obtain ⟨hl, hb, he, hm, h⟩ := h
    rw [hres.out i (.inl (by omega)) hi hi2] at h
    wp_walk using wpAny_loadPart' hl, wpAny_loadPart' hb
    have q1 : xs[((i : Nat) : Int).toNat]? = none := by simp; omega
    rw [q1]
    wp_walk using wpAny_loadPart' hl, wpAny_loadPart' hb
    exact h
  | succ k ih =>
    intro i hk hi hi2 prog w A R s h
    obtain ⟨hp, g, d, tk, os⟩ := s; obtain ⟨hl, hb, he, hm, h⟩ := h
    have lt1 : i < xs.size := by omega
    have q1 : xs[((i : Nat) : Int).toNat]? = some xs[i] := by simp [lt1]
    by_cases lt2 : i < ys.size
    · have q2 : ys[((i : Nat) : Int).toNat]? = some ys[i] := by simp [lt2]
      have hc : ((i : Int) + 1) = ((i + 1 : Nat) : Int) := by omega
      wp_walk using wpAny_loadPart' hl, wpAny_loadPart' hb
      rw [q1, q2]
      refine wpAny_bind (he i lt1 lt2 prog w _ _ ?_)
      cases hb' : e i with
      | true =>
        rw [hres.eq i lt1 lt2 hb'] at h
        wp_walk
        rw [hc]
        exact ⟨plainId_quiet plain_eq_loop _, codeAny_builtin entry_eq_loop (by
          rw [Around.under_plainId plain_eq_loop _]
          exact ih (i + 1) (by omega) (by omega) (by omega) prog w A R _ ⟨hl, hb, he, hm, h⟩)⟩
      | false =>
        rw [hres.ne i lt1 lt2 hb'] at h
        have hlt := hm i lt1 lt2 hb' prog w
        wp_walk using wpAny_loadPart' hl, wpAny_loadPart' hb
        rw [q1, q2]
        wp_walk using hlt
        exact h
    · have q2 : ys[((i : Nat) : Int).toNat]? = none := by simp; omega
      rw [hres.out i (.inr (by omega)) hi hi2] at h
      wp_walk using wpAny_loadPart' hl, wpAny_loadPart' hb
      rw [q1, q2]
      wp_walk using wpAny_loadPart' hl, wpAny_loadPart' hb
      exact h
theorem list_ltA (l b : Addr) (xs ys : Array Value) (n n2 : Nat) (dd dd2 : Option Addr) (sl sl2 : Array (Option Value)) (e m res : Nat → Bool) (hres : LexRes xs.size ys.size e m res) :
    Meets (Builtin.«list.__lt__» ⟨[.ref l, .ref b], []⟩)
      (fun A R s => s.heap.get? l = some { cls := .type "list", dict := dd, data := .seq xs n, slots := sl } ∧ s.heap.get? b = some { cls := .type "list", dict := dd2, data := .seq ys n2, slots := sl2 } ∧
        (∀ j (h1 : j < xs.size) (h2 : j < ys.size), EqAt A.in1 s xs[j] ys[j] (e j)) ∧ (∀ j (h1 : j < xs.size) (h2 : j < ys.size), e j = false → LtA A.in1 s xs[j] ys[j] (m j)) ∧
        R (.ok (.ret (.bool (res 0)))) s) := by
  intro prog w A R s h
  obtain ⟨hp, g, d, tk, os⟩ := s; obtain ⟨hl, hb, he, hm, h⟩ := h
  have f3 := AutoSeq1.sub_list_list
  wp_walk using wpAny_loadPart' hl, wpAny_loadPart' hb
  exact ⟨plainId_quiet plain_eq_loop _, codeAny_builtin entry_eq_loop (by
    rw [Around.under_plainId plain_eq_loop _]
    exact ltloop l b xs ys n n2 dd dd2 sl sl2 e m res hres _ 0 rfl (Nat.zero_le _) (Nat.zero_le _) prog w A R _ ⟨hl, hb, he, hm, h⟩)⟩
theorem LtA.lists {A : Around} {s : Shared} {l b : Addr} {xs ys : Array Value} {e m res : Nat → Bool} (hres : LexRes xs.size ys.size e m res) (hl : s.heap.IsList l xs) (hb : s.heap.IsList b ys) (hu : A.units < cLine)
    (he : ∀ j (h1 : j < xs.size) (h2 : j < ys.size), EqAt A.in1 s xs[j] ys[j] (e j)) (hm : ∀ j (h1 : j < xs.size) (h2 : j < ys.size), e j = false → LtA A.in1 s xs[j] ys[j] (m j)) : LtA A s (.ref l) (.ref b) (res 0) := fun prog w E Q h => by
  obtain ⟨⟨cls, dd, data, sl⟩, ho, hc, n, hd⟩ := id hl
  obtain ⟨⟨cls2, dd2, data2, sl2⟩, ho2, hc2, n2, hd2⟩ := id hb
  simp only at hc hd hc2 hd2
  subst hc hd hc2 hd2
  exact richCompare_meets_room (op := .Lt) ⟨_, ho, rfl⟩ ⟨_, ho2, rfl⟩ PySem.F.slot_list_lt PySem.F.entry_list_lt (PySem.F.args_list_lt_2 _ _) (list_ltA l b xs ys n n2 dd dd2 sl sl2 e m res hres)
    ⟨ho, ho2, he, hm, show Value.bool (res 0) ≠ Value.notImplemented ∧ Q (.bool (res 0)) s from ⟨(fun x => nomatch x), h⟩⟩ hu
/-- a pair of things: the first by e, m; the second by e2, m2 -/
theorem tup2_lt (l b : Addr) (u1 u2 v1 v2 : Value) (n n2 : Nat) (dd dd2 : Option Addr) (sl sl2 : Array (Option Value)) (e1 m1 e2 m2 : Bool) :
    Meets (Builtin.«tuple.__lt__» ⟨[.ref l, .ref b], []⟩)
      (fun A R s => s.heap.get? l = some { cls := .type "tuple", dict := dd, data := .seq #[u1, u2] n, slots := sl } ∧ s.heap.get? b = some { cls := .type "tuple", dict := dd2, data := .seq #[v1, v2] n2, slots := sl2 } ∧
        EqAt A.in1 s u1 v1 e1 ∧ (e1 = false → LtA A.in1 s u1 v1 m1) ∧ EqAt A.in1 s u2 v2 e2 ∧ (e2 = false → LtA A.in1 s u2 v2 m2) ∧
        R (.ok (.ret (.bool (if e1 = true then if e2 = true then false else m2 else m1)))) s) :=
  .of_wp fun prog w A R s h => by
    obtain ⟨hp, g, d, tk, os⟩ := s; obtain ⟨hl, hb, q1, l1, q2, l2, h⟩ := h
    have f2 := AutoSeq1.sub_tuple_tuple
    have Q1 := q1 prog w
    have Q2 := q2 prog w
    cases e1 with
    | false =>
      have L1 := l1 rfl prog w
      wp_walk using wpAny_loadPart' hl, wpAny_loadPart' hb, Q1, L1
      exact ⟨_, rfl, h⟩
    | true =>
      cases e2 with
      | false =>
        have L2 := l2 rfl prog w
        wp_walk using wpAny_loadPart' hl, wpAny_loadPart' hb, Q1, Q2, L2
        exact ⟨_, rfl, h⟩
      | true =>
        wp_walk using wpAny_loadPart' hl, wpAny_loadPart' hb, Q1, Q2
        exact ⟨_, rfl, h⟩
theorem LtA.pairs {A : Around} {s : Shared} {l b : Addr} {u1 u2 v1 v2 : Value} {e1 m1 e2 m2 : Bool} (hl : IsTup s.heap l #[u1, u2]) (hb : IsTup s.heap b #[v1, v2]) (hu : A.units < cLine)
    (q1 : EqAt A.in1 s u1 v1 e1) (l1 : e1 = false → LtA A.in1 s u1 v1 m1) (q2 : EqAt A.in1 s u2 v2 e2) (l2 : e2 = false → LtA A.in1 s u2 v2 m2) :
    LtA A s (.ref l) (.ref b) (if e1 = true then if e2 = true then false else m2 else m1) := fun prog w E Q h => by
  obtain ⟨⟨cls, dd, data, sl⟩, ho, hc, n, hd⟩ := id hl
  obtain ⟨⟨cls2, dd2, data2, sl2⟩, ho2, hc2, n2, hd2⟩ := id hb
  simp only at hc hd hc2 hd2
  subst hc hd hc2 hd2
  exact richCompare_meets_room (op := .Lt) ⟨_, ho, rfl⟩ ⟨_, ho2, rfl⟩ PySem.F.slot_tuple_lt PySem.F.entry_tuple_lt (PySem.F.args_tuple_lt_2 _ _) (tup2_lt l b u1 u2 v1 v2 n n2 dd dd2 sl sl2 e1 m1 e2 m2)
    ⟨ho, ho2, q1, l1, q2, l2, show Value.bool (if e1 = true then if e2 = true then false else m2 else m1) ≠ Value.notImplemented ∧ Q (.bool (if e1 = true then if e2 = true then false else m2 else m1)) s from ⟨(fun x => nomatch x), h⟩⟩ hu
end
end LL

set_option Elab.async false
set_option linter.all false
set_option maxRecDepth 100000
set_option maxHeartbeats 4000000
/-! places, rows, rows with their gaps: what stands for them, and their order -/
namespace LL
open PySem PySem.Spec PyProof.Rows L2
open Si45 (Lies Leaf waysOf)
def wayV (x : Lies) : List V := [.int (Si45.bit x.turned : Nat), .int (x.from_ : Nat), .int (x.to_ : Nat)]
def placeV (x : Lies) : List V := [.int (x.leaf : Nat), .int (Si45.bit x.turned : Nat), .int (x.from_ : Nat), .int (x.to_ : Nat)]
abbrev repWay : Rep Lies := repT wayV
abbrev repPlace : Rep Lies := repT placeV
abbrev repRow : Rep (List Lies) := repL repPlace
def placeI (x : Lies) : List Int := [(x.leaf : Nat), (Si45.bit x.turned : Nat), (x.from_ : Nat), (x.to_ : Nat)]
theorem placeV_map (x : Lies) : placeV x = (placeI x).map V.int := rfl
theorem bit_inj {a b : Bool} (h : Si45.bit a = Si45.bit b) : a = b := by revert h; cases a <;> cases b <;> decide
theorem placeI_inj {x y : Lies} (h : placeI x = placeI y) : x = y := by
  unfold placeI at h
  injection h with h1 h
  injection h with h2 h
  injection h with h3 h
  injection h with h4 _
  obtain ⟨a, b, c, d⟩ := x
  obtain ⟨a', b', c', d'⟩ := y
  dsimp only at h1 h2 h3 h4
  have e1 : a = a' := by omega
  have e2 : b = b' := bit_inj (by omega)
  have e3 : c = c' := by omega
  have e4 : d = d' := by omega
  subst e1 e2 e3 e4
  rfl
/-- the order of rows of places -/
def placeLt (x y : Lies) : Bool := HT.lexLt (placeI x) (placeI y)
def rowLt : List Lies → List Lies → Bool
  | [], [] => false
  | [], _ :: _ => true
  | _ :: _, [] => false
  | x :: xs, y :: ys => if x = y then rowLt xs ys else placeLt x y
def cntLt (c d : Nat × List Lies) : Bool := if c.1 = d.1 then rowLt c.2 d.2 else decide (c.1 < d.1)
/-- a row with its gaps -/
def repCnt : Rep (Nat × List Lies) := fun H S v c => ∃ (t : Addr) (r : V), v = .ref t ∧ S t ∧ H t = some (.tup [.int (c.1 : Nat), r]) ∧ repRow H S r c.2
instance : Stb repCnt := ⟨fun k ⟨t, r, e, s, h, q⟩ => ⟨t, r, e, (k t _ s h).1, (k t _ s h).2, Stb.keep k q⟩⟩
def placeD (x : Lies) : PyData := .tuple [.int (x.leaf : Nat), .int (Si45.bit x.turned : Nat), .int (x.from_ : Nat), .int (x.to_ : Nat)]
theorem place_eqv (x y : Lies) : PyData.eqv (placeD x) (placeD y) = decide (x = y) := by
  have e1 : PyData.eqv (placeD x) (placeD y) = (((x.leaf : Int) == (y.leaf : Int)) && ((((Si45.bit x.turned : Nat) : Int) == ((Si45.bit y.turned : Nat) : Int)) && (((x.from_ : Int) == (y.from_ : Int)) && (((x.to_ : Int) == (y.to_ : Int)) && true)))) := rfl
  rw [e1]
  by_cases h : x = y
  · subst h; simp
  · rw [decide_eq_false h, Bool.eq_false_iff]
    intro z
    simp only [Bool.and_true, Bool.and_eq_true, beq_iff_eq] at z
    exact h (placeI_inj (by unfold placeI; rw [z.1, z.2.1, z.2.2.1, z.2.2.2]))
theorem row_eqv : ∀ r q : List Lies, PyData.eqvAll (r.map placeD) (q.map placeD) = decide (r = q)
  | [], [] => rfl
  | [], _ :: _ => rfl
  | _ :: _, [] => rfl
  | x :: r, y :: q => by
    show (PyData.eqv (placeD x) (placeD y) && PyData.eqvAll (r.map placeD) (q.map placeD)) = _
    rw [place_eqv, row_eqv r q]
    by_cases h : x = y
    · by_cases h2 : r = q
      · simp [h, h2]
      · simp [h, h2]
    · simp [h]
theorem row_lay : ∀ r : List Lies, PyData.canLayAll0 (r.map placeD) = true
  | [] => rfl
  | x :: r => by
    show ((placeD x).canLay0 && PyData.canLayAll0 (r.map placeD)) = true
    rw [row_lay r]; rfl
theorem row_depth : ∀ r : List Lies, PyData.depthAll (r.map placeD) ≤ 1
  | [] => by decide
  | x :: r => by
    show max ((placeD x).depth) (PyData.depthAll (r.map placeD)) ≤ 1
    exact Nat.max_le.mpr ⟨Nat.le_refl _, row_depth r⟩
section
variable {X : Cx} {pins : List (Addr × Obj)} {σ : St} {H : Hp} {s : Shared} {S S' : Addr → Prop}
theorem place_dp {v : V} {x : Lies} (h : repPlace H S v x) : Dp X.K H v (placeD x) := by
  obtain ⟨t, rfl, _, ht⟩ := h
  exact .tup (SqT.of ht) (.cons (.int _) (.cons (.int _) (.cons (.int _) (.cons (.int _) .nil))))
theorem places_dp {vs : List V} {r : List Lies} (h : Paired (repPlace H S) vs r) : DpAll X.K H vs (r.map placeD) := by
  induction h with
  | nil => exact .nil
  | cons h _ ih => exact .cons (place_dp h) ih
theorem row_eqAt {A : Around} {v u : V} {v' u' : Value} {r q : List Lies} (I : Inv X pins σ H s) (hu : A.units + 64 < cLine) (hv : repRow H S v r) (hq : repRow H S' u q) (rv : RelV v v') (ru : RelV u u') : SeqAt.EqAt A s v' u' (decide (r = q)) := by
  obtain ⟨a, vs, rfl, _, ha, pa⟩ := hv
  obtain ⟨b, us, rfl, _, hb, pb⟩ := hq
  have da : Dp X.K H (.ref a) (.list (r.map placeD)) := .lst (SqL.of ha) (places_dp pa)
  have db : Dp X.K H (.ref b) (.list (q.map placeD)) := .lst (SqL.of hb) (places_dp pb)
  obtain ⟨as, r1⟩ := Dp.reads I _ _ _ da rv
  obtain ⟨bs, r2⟩ := Dp.reads I _ _ _ db ru
  have h := SeqAt.eqAt_reads _ _ A s _ _ as bs r1 r2 (row_lay r) (row_lay q) (by
    show A.units + min (PyData.depthAll (r.map placeD) + 1) (PyData.depthAll (q.map placeD) + 1) < cLine
    have := row_depth r
    omega)
  rw [show PyData.eqv (.list (r.map placeD)) (.list (q.map placeD)) = decide (r = q) from row_eqv r q] at h
  exact h
theorem place_eqAt {A : Around} {v u : V} {v' u' : Value} {x y : Lies} (I : Inv X pins σ H s) (hu : A.units + 64 < cLine) (hv : repPlace H S v x) (hq : repPlace H S' u y) (rv : RelV v v') (ru : RelV u u') : SeqAt.EqAt A s v' u' (decide (x = y)) := by
  obtain ⟨as, r1⟩ := Dp.reads I _ _ _ (place_dp (X := X) hv) rv
  obtain ⟨bs, r2⟩ := Dp.reads I _ _ _ (place_dp (X := X) hq) ru
  have h := SeqAt.eqAt_reads _ _ A s _ _ as bs r1 r2 rfl rfl (by show A.units + min 1 1 < cLine; omega)
  rw [place_eqv] at h
  exact h
theorem place_lt {A : Around} {v u : V} {v' u' : Value} {x y : Lies} (I : Inv X pins σ H s) (hu : A.units + 64 < cLine) (hv : repPlace H S v x) (hq : repPlace H S' u y) (rv : RelV v v') (ru : RelV u u') : LtA A s v' u' (placeLt x y) := by
  obtain ⟨a, rfl, _, ha⟩ := hv
  obtain ⟨b, rfl, _, hb⟩ := hq
  cases rv
  cases ru
  intro prog w E Q h
  obtain ⟨its, r1, p1, _⟩ := I.tuple (SqT.of (K := X.K) ha)
  obtain ⟨its2, r2, p2, _⟩ := I.tuple (SqT.of (K := X.K) hb)
  have i1 : IntsAre its.toArray.toList (placeI x) := intsAre_of r1
  have i2 : IntsAre its2.toArray.toList (placeI y) := intsAre_of r2
  exact HT.lt_tupInts p1 p2 i1 i2 (by omega) h
end
theorem rowLt_drop {r q : List Lies} {x y : Lies} {i : Nat} (h1 : r[i]? = some x) (h2 : q[i]? = some y) : rowLt (r.drop i) (q.drop i) = if x = y then rowLt (r.drop (i + 1)) (q.drop (i + 1)) else placeLt x y := by
  obtain ⟨l1, e1⟩ := List.getElem?_eq_some_iff.mp h1
  obtain ⟨l2, e2⟩ := List.getElem?_eq_some_iff.mp h2
  rw [List.drop_eq_getElem_cons l1, List.drop_eq_getElem_cons l2, e1, e2]
  rfl
section
variable {X : Cx} {pins : List (Addr × Obj)} {σ : St} {H : Hp} {s : Shared} {S S' : Addr → Prop}
theorem row_lt {A : Around} {v u : V} {v' u' : Value} {r q : List Lies} (I : Inv X pins σ H s) (hu : A.units + 65 < cLine) (hv : repRow H S v r) (hq : repRow H S' u q) (rv : RelV v v') (ru : RelV u u') : LtA A s v' u' (rowLt r q) := by
  obtain ⟨a, vs, rfl, _, ha, pa⟩ := hv
  obtain ⟨b, us, rfl, _, hb, pb⟩ := hq
  cases rv
  cases ru
  obtain ⟨its, r1, p1, _⟩ := I.list (SqL.of (K := X.K) ha)
  obtain ⟨its2, r2, p2, _⟩ := I.list (SqL.of (K := X.K) hb)
  have z1 : its.toArray.size = r.length := by rw [List.size_toArray, ← r1.length, pa.length]
  have z2 : its2.toArray.size = q.length := by rw [List.size_toArray, ← r2.length, pb.length]
  have get1 : ∀ j (h1 : j < its.toArray.size), ∃ x v, r[j]? = some x ∧ repPlace H S v x ∧ RelV v its.toArray[j] := fun j h1 => by
    have hj : r[j]? = some r[j] := List.getElem?_eq_getElem (by omega)
    obtain ⟨v, hv, rp⟩ := Paired.get2 pa hj
    obtain ⟨u, hu, ru⟩ := r1.get hv
    refine ⟨_, v, hj, rp, ?_⟩
    obtain ⟨hl, e⟩ := List.getElem?_eq_some_iff.mp hu
    rw [show its.toArray[j] = its[j] from rfl, e]
    exact ru
  have get2 : ∀ j (h1 : j < its2.toArray.size), ∃ x v, q[j]? = some x ∧ repPlace H S' v x ∧ RelV v its2.toArray[j] := fun j h1 => by
    have hj : q[j]? = some q[j] := List.getElem?_eq_getElem (by omega)
    obtain ⟨v, hv, rp⟩ := Paired.get2 pb hj
    obtain ⟨u, hu, ru⟩ := r2.get hv
    refine ⟨_, v, hj, rp, ?_⟩
    obtain ⟨hl, e⟩ := List.getElem?_eq_some_iff.mp hu
    rw [show its2.toArray[j] = its2[j] from rfl, e]
    exact ru
  let e : Nat → Bool := fun j => decide (r[j]? = q[j]?)
  let m : Nat → Bool := fun j => match r[j]?, q[j]? with
    | some x, some y => placeLt x y
    | _, _ => false
  let res : Nat → Bool := fun j => rowLt (r.drop j) (q.drop j)
  have hres : LexRes its.toArray.size its2.toArray.size e m res := by
    rw [z1, z2]
    refine ⟨fun i h h1 h2 => ?_, fun i h1 h2 h => ?_, fun i h1 h2 h => ?_⟩
    · show rowLt (r.drop i) (q.drop i) = _
      by_cases hi : r.length ≤ i
      · rw [List.drop_eq_nil_of_le hi]
        cases hd : q.drop i with
        | nil =>
          have : q.length ≤ i := by simpa using hd
          exact (decide_eq_false (by omega)).symm
        | cons y ys =>
          have : ¬ q.length ≤ i := fun z => by rw [List.drop_eq_nil_of_le z] at hd; cases hd
          exact (decide_eq_true (by omega)).symm
      · have hq : q.length ≤ i := by omega
        rw [List.drop_eq_nil_of_le hq, List.drop_eq_getElem_cons (by omega : i < r.length)]
        exact (decide_eq_false (by omega)).symm
    · have h : r[i]? = q[i]? := of_decide_eq_true h
      have hr : r[i]? = some r[i] := List.getElem?_eq_getElem h1
      have hq : q[i]? = some r[i] := h ▸ hr
      show rowLt _ _ = rowLt _ _
      rw [rowLt_drop hr hq, if_pos rfl]
    · have h : ¬ r[i]? = q[i]? := of_decide_eq_false h
      have hr : r[i]? = some r[i] := List.getElem?_eq_getElem h1
      have hq : q[i]? = some q[i] := List.getElem?_eq_getElem h2
      rw [hr, hq] at h
      show rowLt _ _ = (match r[i]?, q[i]? with | some x, some y => placeLt x y | _, _ => false)
      rw [rowLt_drop hr hq, if_neg (fun z => h (by rw [z])), hr, hq]
  have hu1 : A.in1.units + 64 < cLine := by show A.units + 1 + 64 < cLine; omega
  refine LtA.lists hres p1.isList p2.isList (by omega) (fun j h1 h2 => ?_) fun j h1 h2 he => ?_
  · obtain ⟨x, v, e1, rp, rv⟩ := get1 j h1
    obtain ⟨y, u, e2, rq, ru⟩ := get2 j h2
    have := place_eqAt I hu1 rp rq rv ru
    rw [show e j = decide (x = y) by show decide (r[j]? = q[j]?) = _; rw [e1, e2]; simp]
    exact this
  · obtain ⟨x, v, e1, rp, rv⟩ := get1 j h1
    obtain ⟨y, u, e2, rq, ru⟩ := get2 j h2
    have := place_lt I hu1 rp rq rv ru
    rw [show m j = placeLt x y by show (match r[j]?, q[j]? with | some x, some y => placeLt x y | _, _ => false) = _; rw [e1, e2]]
    exact this
theorem cnt_lt {A : Around} {v u : V} {v' u' : Value} {c d : Nat × List Lies} (I : Inv X pins σ H s) (hu : A.units + 66 < cLine) (hv : repCnt H S v c) (hq : repCnt H S' u d) (rv : RelV v v') (ru : RelV u u') : LtA A s v' u' (cntLt c d) := by
  obtain ⟨a, x, rfl, _, ha, pa⟩ := hv
  obtain ⟨b, y, rfl, _, hb, pb⟩ := hq
  cases rv
  cases ru
  obtain ⟨its, r1, p1, _⟩ := I.tuple (SqT.of (K := X.K) ha)
  obtain ⟨its2, r2, p2, _⟩ := I.tuple (SqT.of (K := X.K) hb)
  obtain ⟨i1, i2, rfl, ⟨t1, rfl⟩, rx⟩ := vals2 r1
  obtain ⟨j1, j2, rfl, ⟨t2, rfl⟩, ry⟩ := vals2 r2
  have hu1 : A.in1.units + 65 < cLine := by show A.units + 1 + 65 < cLine; omega
  have h := LtA.pairs (A := A) (m1 := decide ((c.1 : Int) < (d.1 : Int))) (m2 := rowLt c.2 d.2) p1 p2 (by omega) (SeqAt.EqAt.int_int _ _ _ _) (fun _ prog w E Q q => HT.rcLt_int _ _ _ _ _ _ prog w E Q q) (row_eqAt I (by omega) pa pb rx ry) (fun _ => row_lt I hu1 pa pb rx ry)
  have self : ∀ r : List Lies, rowLt r r = false := fun r => by
    induction r with
    | nil => rfl
    | cons x r ih => show (if x = x then rowLt r r else _) = false; rw [if_pos rfl, ih]
  have e : (if ((c.1 : Int) == (d.1 : Int)) = true then if decide (c.2 = d.2) = true then false else rowLt c.2 d.2 else decide ((c.1 : Int) < (d.1 : Int))) = cntLt c d := by
    unfold cntLt
    by_cases h1 : c.1 = d.1
    · rw [if_pos (by rw [h1]; simp), if_pos h1]
      by_cases h2 : c.2 = d.2
      · rw [if_pos (decide_eq_true h2), h2, self]
      · rw [if_neg (by simp [h2])]
    · rw [if_neg (by simp; omega), if_neg h1]
      exact decide_eq_decide.mpr (by omega)
  rw [e] at h
  exact h
end
section
variable {X : Cx}
/-- c < d, both rows with their gaps -/
def rLtC : R2 := fun x y H Q => ∃ (c d : Nat × List Lies) (S S' : Addr → Prop), repCnt H S x c ∧ repCnt H S' y d ∧ Q (.bl (cntLt c d)) H
theorem op_ltC (hu : X.A.units + 66 < cLine) : OpR X (compareOp .Lt) rLtC := by
  intro pins s σ H x y v u Q I rx ry h
  obtain ⟨c, d, S, S', hc, hd, k⟩ := h
  exact cnt_lt I hu hc hd rx ry X.prog X.w _ _ ⟨.bl _, H, I, rfl, k⟩
end
end LL

set_option Elab.async false
set_option linter.all false
set_option maxRecDepth 100000
set_option maxHeartbeats 4000000
/-! min(xs, default=None) of rows with their gaps -/
namespace LL
open PySem PySem.Spec PyProof.Rows L2
open Si45 (Lies Leaf waysOf)
def Kp (h h' : Heap) : Prop := ∀ b o, h.get? b = some o → h'.get? b = some o
theorem ne_new {h : Heap} {b I : Addr} {o : Obj} (e : h.get? b = some o) (hI : h.objs.size ≤ I) : b ≠ I := fun z => by
  rw [z] at e
  exact absurd (Heap.lt_size e) (Nat.not_lt.mpr hI)
section
variable {prog : Program} {w : World} {A : Around} {s : Shared} {R : Result → Shared → Prop} {E : Value → Shared → Prop}
theorem min_turns (vs : List Value) {l I S : Addr} {h0 : Heap} {d : Value} (bt : Nat → Nat → Bool) (hh : A.handled = none) (hl : h0.IsList l vs.toArray) (hI : h0.objs.size ≤ I) (hS : h0.objs.size ≤ S) (hne : I ≠ S)
    (hcmp : ∀ i j u v h tk, vs[i]? = some u → vs[j]? = some v → Kp h0 h → LtA A.in1 { s with heap := h, toks := tk } u v (bt i j))
    (hR : ∀ v h' tk, vs[argBest bt (vs.length - 1)]? = some v → Kp h0 h' → R (.ok (.ret v)) { s with heap := h', toks := tk }) :
    ∀ (k j : Nat) (h : Heap) (tk : Nat) (vb : Value) (c : Nat), vs.length - (j + 1) = k → j + 1 ≤ vs.length → Kp h0 h → h.IsListIter I l (j + 1) → vs[argBest bt j]? = some vb →
      h.get? S = some { cls := .type "list", dict := none, data := .seq #[vb, vb] c, slots := #[] } →
      codeAny (model prog w) A (.builtin "min.loop" ⟨[.ref I, .none, .ref S], [("default", d)]⟩) R { s with heap := h, toks := tk } := by
  have hlI : l ≠ I := by obtain ⟨o, e1, _⟩ := hl; exact ne_new e1 hI
  have lname : (toString "min" ++ toString ".loop" : String) = "min.loop" := by decide
  have W := Walks.list (prog := prog) (w := w) (A := A.in1) hh I l hlI vs.toArray
  have keepI : ∀ {h h' : Heap}, Kp h0 h → (∀ b o, b ∉ [I] → h.get? b = some o → h'.get? b = some o) → Kp h0 h' := fun k k' b o e => k' b o (by simpa using ne_new e hI) (k b o e)
  have keepS : ∀ {h : Heap} {f : Obj → Obj}, Kp h0 h → Kp h0 (h.update S f) := fun k b o e => (Heap.get?_update_other _ _ (ne_new e hS).symm).trans (k b o e)
  intro k
  induction k with
  | zero =>
    intro j h tk vb c hk hj kp it hb hs
    have hin : j + 1 = vs.toArray.size := by simp; omega
    refine codeAny_builtin PySem.F.entry_min_loop ?_
    rw [Around.under_plainId PySem.F.plain_min_loop _]
    show wpAny _ A.in1 (seqItems? (.ref S) >>= _) _ _ _
    refine wpAny_bind (wpAny_seqItems hs rfl ?_)
    show wpAny _ A.in1 (tryCatch (pyNext (.ref I)) _ >>= _) _ _ _
    refine wpAny_bind (wpAny_tryCatch (W.done _ _ _ ⟨hin ▸ it, hl.at fun o e => kp _ _ e⟩ fun h' tk' hk' => ?_))
    have hs' := hk' S _ (by simpa using hne.symm) hs
    show wpAny _ A.in1 (updateSeq S (fun _ => #[]) >>= _) _ _ _
    refine wpAny_bind (wpAny_updateSeq hs' rfl (wpAny_bind (wpAny_letGo (wpAny_pure ?_))))
    exact hR vb _ tk' (by rw [show vs.length - 1 = j by omega]; exact hb) (keepS (keepI kp hk'))
  | succ k ih =>
    intro j h tk vb c hk hj kp it hb hs
    have hlt : j + 1 < vs.toArray.size := by simp; omega
    have hlt' : j + 1 < vs.length := by omega
    refine codeAny_builtin PySem.F.entry_min_loop ?_
    rw [Around.under_plainId PySem.F.plain_min_loop _]
    show wpAny _ A.in1 (seqItems? (.ref S) >>= _) _ _ _
    refine wpAny_bind (wpAny_seqItems hs rfl ?_)
    show wpAny _ A.in1 (tryCatch (pyNext (.ref I)) _ >>= _) _ _ _
    refine wpAny_bind (wpAny_tryCatch (W.item (j + 1) _ _ _ hlt ⟨it, hl.at fun o e => kp _ _ e⟩ fun v h' tk' hP hst' hk' => ?_))
    have hs' := hk' S _ (by simpa using hne.symm) hs
    have kp' := keepI kp hk'
    have hv : vs[j + 1]? = some v := by simpa using hP
    show wpAny _ A.in1 (tryCatch (holding [v, v] (richCompare .Lt v vb >>= _)) _ >>= _) _ _ _
    refine wpAny_bind (wpAny_tryCatch (wpAny_holding (wpAny_bind (hcmp (j + 1) (argBest bt j) v vb h' tk' hv hb kp' prog w _ _ ?_))))
    refine wpAny_bind (wpAny_holding (wpAny_truthy_bool ?_))
    refine wpAny_bind (wpAny_letGo (wpAny_pure ?_))
    cases hbt : bt (j + 1) (argBest bt j) with
    | true =>
      simp only [if_true]
      refine wpAny_bind (wpAny_updateSeq hs' rfl (wpAny_bind (wpAny_letGo ?_)))
      rw [lname]
      refine wpAny_pure ⟨plainId_quiet PySem.F.plain_min_loop _, ih (j + 1) _ _ v _ (by omega) (by omega) (keepS kp') ?_ (by simp only [argBest, hbt, if_true]; exact hv) (Heap.get?_update_self _ hs' rfl)⟩
      exact hst'.1.at fun o e => (Heap.get?_update_other _ _ hne.symm).trans e
    | false =>
      simp only [Bool.false_eq_true, if_false]
      refine wpAny_bind (wpAny_letGo ?_)
      rw [lname]
      exact wpAny_pure ⟨plainId_quiet PySem.F.plain_min_loop _, ih (j + 1) _ _ vb c (by omega) (by omega) kp' hst'.1 (by simp only [argBest, hbt, Bool.false_eq_true, if_false]; exact hb) hs'⟩
theorem args_minD (a v : Value) : argsOk "min" ⟨[a], [("default", v)]⟩ := by unfold argsOk; kernel_rfl
theorem call_minD (vs : List Value) {l : Addr} {d : Value} {Q : Value → Shared → Prop} (bt : Nat → Nat → Bool) (hh : A.handled = none) (hl : s.heap.IsList l vs.toArray)
    (hcmp : ∀ i j u v h tk, vs[i]? = some u → vs[j]? = some v → Kp s.heap h → LtA A.in1 { s with heap := h, toks := tk } u v (bt i j))
    (h0 : vs = [] → ∀ h' tk, Kp s.heap h' → Q d { s with heap := h', toks := tk }) (h1' : ∀ v h' tk, vs[argBest bt (vs.length - 1)]? = some v → Kp s.heap h' → Q v { s with heap := h', toks := tk }) :
    wpAny (model prog w) A (call (.builtin "min") [.ref l] [("default", d)]) Q E s := by
  have lname : (toString "min" ++ toString ".loop" : String) = "min.loop" := by decide
  refine kmb_tree PySem.F.kind_min PySem.F.plain_min PySem.F.entry_min (args_minD _ _) ?_
  show wpAny _ A.in1 (Builtin.Builtins.bindParams "min" ["key", "default"] 0 ⟨[], [("default", d)]⟩ >>= _) _ _ s
  refine wpAny_bind (wpAny_of_eq (show Builtin.Builtins.bindParams "min" ["key", "default"] 0 ⟨[], [("default", d)]⟩ = pure [none, some d] from rfl) ?_)
  refine wpAny_bind (wpAny_pure ?_)
  refine wpAny_bind (wpAny_pyIter_list hl ?_)
  refine wpAny_bind (wpAny_newObj_type ?_)
  rw [lname]
  refine wpAny_pure ⟨plainId_quiet PySem.F.plain_min_loop _, ?_⟩
  have hlI : l ≠ s.heap.objs.size := by obtain ⟨o, e1, _⟩ := hl; exact ne_new e1 (Nat.le_refl _)
  have W := Walks.list (prog := prog) (w := w) (A := A.in1) hh s.heap.objs.size l hlI vs.toArray
  have z1 : (s.heap.push { cls := .type "list_iterator", data := .fields #[.ref l, .int 0 0] }).objs.size = s.heap.objs.size + 1 := Heap.size_push ..
  have i0 : (s.heap.push { cls := .type "list_iterator", data := .fields #[.ref l, .int 0 0] }).IsListIter s.heap.objs.size l 0 := ⟨_, Heap.get?_push_size _ rfl, rfl, rfl⟩
  have k1 : Kp s.heap (s.heap.push { cls := .type "list_iterator", data := .fields #[.ref l, .int 0 0] }) := fun b o e => Heap.get?_push_of_some _ e
  generalize s.heap.push { cls := .type "list_iterator", data := .fields #[.ref l, .int 0 0] } = h1 at z1 i0 k1 ⊢
  have hs : (h1.push { cls := .type "list", data := .seq #[] }).get? h1.objs.size = some { cls := .type "list", data := .seq #[] } := Heap.get?_push_size _ rfl
  have i1 : (h1.push { cls := .type "list", data := .seq #[] }).IsListIter s.heap.objs.size l 0 := i0.at fun o e => Heap.get?_push_of_some _ e
  have k2 : Kp s.heap (h1.push { cls := .type "list", data := .seq #[] }) := fun b o e => Heap.get?_push_of_some _ (k1 b o e)
  show codeAny _ _ _ _ { s with heap := h1.push { cls := .type "list", data := .seq #[] } }
  generalize h1.push { cls := .type "list", data := .seq #[] } = h2 at hs i1 k2 ⊢
  have hne : s.heap.objs.size ≠ h1.objs.size := by rw [z1]; exact Nat.ne_of_lt (Nat.lt_succ_self _)
  refine codeAny_builtin PySem.F.entry_min_loop ?_
  rw [Around.under_plainId PySem.F.plain_min_loop _]
  show wpAny _ A.in1 (seqItems? (.ref h1.objs.size) >>= _) _ _ _
  refine wpAny_bind (wpAny_seqItems hs rfl ?_)
  show wpAny _ A.in1 (tryCatch (pyNext (.ref s.heap.objs.size)) _ >>= _) _ _ _
  have keepI : ∀ {h h' : Heap}, Kp s.heap h → (∀ b o, b ∉ [s.heap.objs.size] → h.get? b = some o → h'.get? b = some o) → Kp s.heap h' := fun k k' b o e => k' b o (by simpa using ne_new e (Nat.le_refl _)) (k b o e)
  cases vs with
  | nil =>
    refine wpAny_bind (wpAny_tryCatch (W.done _ _ _ ⟨i1, hl.at fun o e => k2 _ _ e⟩ fun h' tk' hk' => ?_))
    show wpAny _ A.in1 (rule _ >>= _) _ _ _
    refine wpAny_bind (wpAny_rule (wpAny_pure ?_))
    exact h0 rfl h' tk' (keepI k2 hk')
  | cons v0 vr =>
    refine wpAny_bind (wpAny_tryCatch (W.item 0 _ _ _ (by simp) ⟨i1, hl.at fun o e => k2 _ _ e⟩ fun v h' tk' hP hst' hk' => ?_))
    have hs' := hk' h1.objs.size _ (by simpa using hne.symm) hs
    have hv : (v0 :: vr)[0]? = some v := by simpa using hP
    show wpAny _ A.in1 (updateSeq h1.objs.size (fun _ => #[v, v]) >>= _) _ _ _
    refine wpAny_bind (wpAny_updateSeq hs' rfl ?_)
    rw [lname]
    refine wpAny_pure ⟨plainId_quiet PySem.F.plain_min_loop _, ?_⟩
    have hS : s.heap.objs.size ≤ h1.objs.size := by rw [z1]; exact Nat.le_succ _
    exact min_turns (s := s) (v0 :: vr) bt hh hl (Nat.le_refl _) hS hne hcmp (fun v h' tk e k => h1' v h' tk e k) _ 0 _ _ v _ rfl (by simp) (fun b o e => (Heap.get?_update_other _ _ (ne_new e hS).symm).trans (keepI k2 hk' b o e))
      (hst'.1.at fun o e => (Heap.get?_update_other _ _ hne.symm).trans e) hv (Heap.get?_update_self _ hs' rfl)
end
/-- the first of the least -/
def minC : Nat × List Lies → List (Nat × List Lies) → Nat × List Lies
  | c, [] => c
  | c, d :: ds => minC (if cntLt d c = true then d else c) ds
theorem minC_snoc (d : Nat × List Lies) : ∀ (pre : List (Nat × List Lies)) (c : Nat × List Lies), minC c (pre ++ [d]) = if cntLt d (minC c pre) = true then d else minC c pre
  | [], c => rfl
  | x :: pre, c => minC_snoc d pre _
theorem minC_mem : ∀ (ds : List (Nat × List Lies)) (c : Nat × List Lies), minC c ds ∈ c :: ds
  | [], c => by simp [minC]
  | d :: ds, c => by
    have h := minC_mem ds (if cntLt d c = true then d else c)
    show minC (if cntLt d c = true then d else c) ds ∈ _
    rcases List.mem_cons.mp h with h | h
    · rw [h]; split <;> simp
    · simp [h]
def btC (cs : List (Nat × List Lies)) (i j : Nat) : Bool := match cs[i]?, cs[j]? with
  | some x, some y => cntLt x y
  | _, _ => false
theorem best_min (c : Nat × List Lies) (ds : List (Nat × List Lies)) : ∀ k, k ≤ ds.length → (c :: ds)[argBest (btC (c :: ds)) k]? = some (minC c (ds.take k))
  | 0, _ => rfl
  | k + 1, h => by
    have ih := best_min c ds k (by omega)
    have hk : ds[k]? = some ds[k] := List.getElem?_eq_getElem (by omega)
    have e : btC (c :: ds) (k + 1) (argBest (btC (c :: ds)) k) = cntLt ds[k] (minC c (ds.take k)) := by
      show (match (c :: ds)[k + 1]?, (c :: ds)[argBest (btC (c :: ds)) k]? with | some x, some y => cntLt x y | _, _ => false) = _
      rw [ih, List.getElem?_cons_succ, hk]
    rw [take_snoc hk, minC_snoc]
    show (c :: ds)[if btC (c :: ds) (k + 1) (argBest (btC (c :: ds)) k) then k + 1 else argBest (btC (c :: ds)) k]? = _
    rw [e]
    cases hb : cntLt ds[k] (minC c (ds.take k)) with
    | true => rw [if_pos rfl, if_pos rfl, List.getElem?_cons_succ, hk]
    | false => rw [if_neg (by decide), if_neg (by decide), ih]
section
variable {X : Cx} {t : TA} {e : Expr} {p pos kp kpos : Pos} {j : Nat}
def rMinD (K : PySem.W.Frag) : List V → Hp → VK → Prop := fun xs H Q => ∃ (a : Addr) (us : List V) (cs : List (Nat × List Lies)) (S : Addr → Prop), xs = [.ref a] ∧ SqL K H a us ∧ Paired (repCnt H S) us cs ∧
  (cs = [] → Q .non H) ∧ (∀ c ds u, cs = c :: ds → repCnt H S u (minC c ds) → Q u H)
theorem pe_minD (hr : X.A.units + 67 < cLine) (hc : X.calm = true) (hg : Gl X "min") (hm : X.mg "min" = none) (ha : PA X [e] t)
    (he : backTo pos (starEach [e] X.env) = (false, eval e X.env) :: backTo pos (starEach [] X.env) := by rfl) (hpl : (backTo pos (starEach [e] X.env)).any (·.1) = false := by rfl) :
    PE X (.Call (.Name "min" p) [e] [⟨some "default", .Constant .none j kp, kpos⟩] pos) (tCB (rMinD X.K) t) := by
  intro pins s σ H Q I h
  refine wpAny_Call_Name_kw (ld_blt I hg hm (u := .builtin "min") (by decide +kernel) ?_ (by decide) (by decide))
  refine callWith_kw (thn (ha pos pins s σ H _ I h) fun us s1 ⟨vs, H1, I1, r1, q1⟩ => ?_) he hpl
  refine kws_cons (Constant_none (kws_nil ?_))
  obtain ⟨a, ws, cs, S, rfl, hq, hp, k0, k1⟩ := q1
  obtain ⟨w0, rfl, rw0⟩ := vals1 r1
  have ew : w0 = .ref a := rw0
  subst ew
  obtain ⟨its, rv, pl, hz⟩ := I1.list hq
  have l1 := rv.length
  have l2 := hp.length
  show wpAny (model X.prog X.w) X.A (call (.builtin "min") [.ref a] [("default", .none)]) _ _ _
  refine call_minD its (btC cs) (I1.ok.hd hc) pl.isList (fun i j u v h' tk hu hv kp => ?_) (fun e0 h' tk kp => ?_) (fun v h' tk hv kp => ?_)
  · have I2 : Inv X pins σ H1 { s1 with heap := h', toks := tk } := I1.kept kp
    have hi : i < cs.length := by have := (List.getElem?_eq_some_iff.mp hu).1; omega
    have hj : j < cs.length := by have := (List.getElem?_eq_some_iff.mp hv).1; omega
    have ci : cs[i]? = some cs[i] := List.getElem?_eq_getElem hi
    have cj : cs[j]? = some cs[j] := List.getElem?_eq_getElem hj
    obtain ⟨x, hx, rx⟩ := Paired.get2 hp ci
    obtain ⟨y, hy, ry⟩ := Paired.get2 hp cj
    obtain ⟨u', hu', ru⟩ := rv.get hx
    obtain ⟨v', hv', rv'⟩ := rv.get hy
    rw [hu] at hu'; cases hu'
    rw [hv] at hv'; cases hv'
    rw [show btC cs i j = cntLt cs[i] cs[j] by unfold btC; rw [ci, cj]]
    exact cnt_lt I2 (by show X.A.units + 1 + 66 < cLine; omega) rx ry ru rv'
  · subst e0
    have : cs = [] := List.eq_nil_of_length_eq_zero (by rw [← l2, l1]; rfl)
    exact ⟨.non, H1, I1.kept kp, rfl, k0 this⟩
  · cases cs with
    | nil =>
      have : its = [] := List.eq_nil_of_length_eq_zero (by rw [← l1, l2]; rfl)
      subst this
      simp at hv
    | cons c ds =>
      have hk := best_min c ds ds.length (Nat.le_refl _)
      rw [List.take_length] at hk
      have el : its.length - 1 = ds.length := by rw [← l1, l2]; rfl
      rw [el] at hv
      obtain ⟨x, hx, rx⟩ := Paired.get2 hp hk
      obtain ⟨u', hu', ru⟩ := rv.get hx
      rw [hv] at hu'; cases hu'
      exact ⟨x, H1, I1.kept kp, ru, k1 c ds x rfl rx⟩
end
end LL

set_option Elab.async false
set_option linter.all false
set_option maxRecDepth 100000
set_option maxHeartbeats 4000000
/-! list(x) of a thing that is walked; list(zip(xs, ys)) -/
namespace LL
open PySem PySem.Spec PyProof.Rows L2
/-- what has been drawn from the iterator at I into the list at S, and where the iterator stands: W -/
structure Col (prog : Program) (w : World) (A : Around) (I S : Addr) (n : Nat) (W F : List Value → Heap → Prop) : Prop where
  frame : ∀ acc h h', W acc h → (∀ b o, b ≠ S → h.get? b = some o → h'.get? b = some o) → W acc h'
  item : ∀ acc (s : Shared) (Q : Option Value → Shared → Prop) (E : Value → Shared → Prop), acc.length < n → W acc s.heap → (∃ o, s.heap.get? S = some o) →
    (∀ v h' tk, W (acc ++ [v]) h' → (∀ o, s.heap.get? S = some o → h'.get? S = some o) → Q (some v) { s with heap := h', toks := tk }) → wpAny (model prog w) A (pyNext (.ref I)) Q E s
  done : ∀ acc (s : Shared) (Q : Option Value → Shared → Prop) (E : Value → Shared → Prop), acc.length = n → W acc s.heap → (∃ o, s.heap.get? S = some o) →
    (∀ h' tk, F acc h' → (∀ o, s.heap.get? S = some o → h'.get? S = some o) → Q none { s with heap := h', toks := tk }) → wpAny (model prog w) A (pyNext (.ref I)) Q E s
section
variable {prog : Program} {w : World} {A : Around} {s : Shared} {R : Result → Shared → Prop} {E : Value → Shared → Prop}
/-- a list object that holds these -/
abbrev ListObj (acc : List Value) (c : Nat) : Obj := { cls := .type "list", dict := none, data := .seq acc.toArray c, slots := #[] }
/-- one turn of the extending -/
theorem Col.turn {I S : Addr} {n : Nat} {W G : List Value → Heap → Prop} (C : Col prog w A.in1 I S n W G) (fits : n ≤ sizeLine) (res : Value) {acc : List Value} {c : Nat} (le : acc.length ≤ n) (at_ : W acc s.heap) (got : s.heap.get? S = some (ListObj acc c))
    (more : ∀ v h' tk c', acc.length < n → W (acc ++ [v]) h' → h'.get? S = some (ListObj (acc ++ [v]) c') → codeAny (model prog w) A (.builtin "list.extend.loop" ⟨[.ref S, .ref I, res], []⟩) R { s with heap := h', toks := tk })
    (over : ∀ h' tk, acc.length = n → G acc h' → h'.get? S = some (ListObj acc c) → R (.ok (.ret res)) { s with heap := h', toks := tk }) :
    codeAny (model prog w) A (.builtin "list.extend.loop" ⟨[.ref S, .ref I, res], []⟩) R s := by
  refine codeAny_builtin F.entry_extend_loop ?_
  rw [Around.under_plainId F.plain_extend_loop]
  refine wpAny_bind ?_
  rcases Nat.lt_or_eq_of_le le with lt | eq
  · refine C.item acc _ _ _ lt at_ ⟨_, got⟩ fun v h' tk at' keep => ?_
    have got' := keep _ got
    refine wpAny_bind (wpAny_updateSeq got' rfl (wpAny_pure ⟨plainId_quiet F.plain_extend_loop _, ?_⟩) (by simp; omega) (by show (acc.toArray.push v).size ≤ sizeLine + 1; simp; omega))
    refine more v _ _ (c + 1) lt (C.frame _ _ _ at' fun b o ne e => (Heap.get?_update_other _ _ ne.symm).trans e) ((Heap.get?_update_self _ got' rfl).trans ?_)
    simp [Obj.mapSeq]
  · exact C.done acc _ _ _ eq at_ ⟨_, got⟩ fun h' tk at' keep => wpAny_pure (over h' tk eq at' (keep _ got))
theorem Col.loop {I S : Addr} {n : Nat} {W F : List Value → Heap → Prop} (C : Col prog w A.in1 I S n W F) (hn : n ≤ sizeLine) (res : Value)
    (hR : ∀ acc h' tk c, acc.length = n → F acc h' → h'.get? S = some (ListObj acc c) → R (.ok (.ret res)) { s with heap := h', toks := tk }) :
    ∀ (k : Nat) (acc : List Value) (h : Heap) (tk c : Nat), n - acc.length = k → acc.length ≤ n → W acc h → h.get? S = some (ListObj acc c) →
      codeAny (model prog w) A (.builtin "list.extend.loop" ⟨[.ref S, .ref I, res], []⟩) R { s with heap := h, toks := tk } := by
  intro k
  induction k with
  | zero => exact fun acc h tk c ek le hw hS => C.turn (s := { s with heap := h, toks := tk }) hn res le hw hS (fun _ _ _ _ lt => absurd lt (by omega)) fun h' tk' eq hf hS' => hR acc h' tk' c eq hf hS'
  | succ k ih =>
    exact fun acc h tk c ek le hw hS => C.turn (s := { s with heap := h, toks := tk }) hn res le hw hS (fun v h' tk' c' lt hw' hS' => ih (acc ++ [v]) h' tk' c' (by simp; omega) (by simp; omega) hw' hS') fun h' tk' eq hf hS' => hR acc h' tk' c eq hf hS'
/-- list(r): what is left is the extending -/
theorem call_list_by {r : Addr} {Q : Value → Shared → Prop} (Fin : Heap → Nat → Prop) (hfin : ∀ h' tk, Fin h' tk → Q (.ref s.heap.objs.size) { s with heap := h', toks := tk })
    (hext : ∀ (R : Result → Shared → Prop) (h1 : Heap) (c : Nat), h1.get? s.heap.objs.size = some (ListObj [] c) → Kp s.heap h1 → (∀ h' tk, Fin h' tk → R (.ok (.ret .none)) { s with heap := h', toks := tk }) →
      wpAny (model prog w) A.in1.in1 (Builtin.List.listExtendWith (.ref s.heap.objs.size) (.ref r) .none)
        (fun fin s' => match fin with | .done f => R (.ok f) s' | .again c' => c'.quiet = true ∧ codeAny (model prog w) A.in1 c' R s') (fun e s' => R (.error e) s') { s with heap := h1 }) :
    wpAny (model prog w) A (call (.type "list") [.ref r]) Q E s := by
  have made : (s.heap.push (ListObj [] 0)).get? s.heap.objs.size = some (ListObj [] 0) := Heap.get?_push_size _ rfl
  refine callType_codes (Q₁ := fun v s' => v = .ref s.heap.objs.size ∧ s' = { s with heap := s.heap.push (ListObj [] 0) }) F.called_list (F.typeCall_list_1 _) F.entry_list_init (code_list_new _ ⟨rfl, rfl⟩) fun v s' e => ?_
  obtain ⟨rfl, rfl⟩ := e
  refine ⟨⟨_, made, rfl⟩, F.args_list_init_2 _ _, ?_⟩
  refine wpAny_bind (wpAny_bind (wpAny_seqItems made rfl (wpAny_pure ?_)))
  refine wpAny_bind (wpAny_updateSeq made rfl (wpAny_bind (wpAny_letGo ?_)))
  refine hext _ _ _ (Heap.get?_update_self _ made rfl) (fun b o e => (Heap.get?_update_other _ _ (ne_new e (Nat.le_refl _)).symm).trans (Heap.get?_push_of_some _ e)) fun h' tk hf => ?_
  exact ⟨rfl, hfin h' tk hf⟩
end
/-! ### zip, a pair of which has been kept -/
abbrev IsZipK (h : Heap) (z TI TO a : Addr) (f : Bool) : Prop :=
  h.get? z = some { cls := .type "zip", dict := none, data := .fields #[rawInt a, .bool f, .bool false, .ref TI, .ref TO], slots := #[] }
section
variable {prog : Program} {w : World} {A : Around} {E : Value → Shared → Prop} {s : Shared}
/-- the pair that was given out last is still held: a new one must be made -/
theorem zipk_busy {z TI TO a : Addr} {f : Bool} {oa : Obj} {Q : Bool → Shared → Prop} (Z : IsZipK s.heap z TI TO a f) (held : s.heap.get? a = some oa)
    (next : ∀ h', IsZipK h' z TI TO a true → Heap.SameBut z s.heap h' → Q false { s with heap := h' }) : wpAny (model prog w) A (Builtin.SmallTypes.ownedTupleIsFree (.ref z)) Q E s := by
  have alive : wpAny (model prog w) A (loadIfAlive ((a : Int).toNat)) (fun o s' => o = some oa ∧ s' = s) E s := by rw [Int.toNat_natCast]; exact PySem.W.kdx_alive held ⟨rfl, rfl⟩
  refine wpAny_bind (wpAny_field Z rfl (x := rawInt a) rfl (wpAny_bind (thn alive fun _ _ ⟨e1, e2⟩ => ?_)))
  subst e1 e2
  refine wpAny_bind (wpAny_field Z rfl (x := .bool f) rfl ?_)
  cases f with
  | true => exact wpAny_pure (next _ Z (Heap.SameBut.refl _ _))
  | false => exact wpAny_bind (wpAny_setField_rec Z (by simp) fun h' Z' sb => wpAny_pure (next h' Z' sb))
/-- a step of such a zip, whether both lists go on or not -/
theorem zipk_step {z TI TO i1 i2 l1 l2 a : Addr} {f : Bool} {oa : Obj} {k1 k2 : Nat} {xs ys : Array Value} {Q : Option Value → Shared → Prop} (calm : A.handled = none) (D : ZipApart z TI TO i1 i2 l1 l2)
    (Z : IsZipK s.heap z TI TO a f) (its : IsPair s.heap TI (.ref i1) (.ref i2)) (held : s.heap.get? a = some oa) (w1 : s.heap.IsListIter i1 l1 k1) (w2 : s.heap.IsListIter i2 l2 k2) (b1 : s.heap.IsList l1 xs) (b2 : s.heap.IsList l2 ys)
    (more : ∀ x y h', xs[k1]? = some x → ys[k2]? = some y → IsZipK h' z TI TO a true → h'.IsListIter i1 l1 (k1 + 1) → h'.IsListIter i2 l2 (k2 + 1) → IsPair h' s.heap.objs.size x y → h'.objs.size = s.heap.objs.size + 1 →
      (∀ c o, c ≠ z → c ≠ i1 → c ≠ i2 → s.heap.get? c = some o → h'.get? c = some o) → Q (some (.ref s.heap.objs.size)) { s with heap := h' })
    (over : (xs[k1]? = none ∨ ys[k2]? = none) → ∀ h', (∀ c o, c ≠ z → c ≠ i1 → c ≠ i2 → s.heap.get? c = some o → h'.get? c = some o) → Q none { s with heap := h' }) :
    wpAny (model prog w) A (pyNext (.ref z)) Q E s := by
  have T : s.TypeIs (.ref z) "zip" := ⟨_, Z, rfl⟩
  unfold pyNext
  refine wpAny_bind (wpAny_attempt (wpAny_callSpecial?_slot (name := Str.ofString "__next__") T F.slot_zip_next (wpAny_call_entry F.slot_zip_next T F.entry_zip_next ?_ (F.args_zip_next_1 _))))
  refine wpAny_bind (wpAny_pure (wpAny_bind (wpAny_field Z rfl (x := .bool false) rfl (wpAny_bind (wpAny_field Z rfl (x := .ref TI) rfl (wpAny_bind (wpAny_seqItems its rfl ?_)))))))
  refine wpAny_bind (zipk_busy Z held fun hA ZA sA => wpAny_bind ?_)
  simp only [← Array.forIn_toList, List.forIn_cons, List.forIn_nil]
  have w1A := w1.extBut sA.extBut D.i1z
  have b1A := b1.extBut sA.extBut D.l1z
  refine wpAny_bind (wpAny_bind (wpAny_holding ?_))
  cases hx : xs[k1]? with
  | none =>
    refine wpAny_bind (wpAny_nextOf_list_end calm w1A b1A hx fun hB e sB ⟨oe, ge, ce⟩ => wpAny_bind (wpAny_isInstance (T := "StopIteration") (b := true) ⟨oe, ge, ce⟩ isSubtype_stop ?_))
    exact wpAny_pure (over (.inl hx) _ fun c o c1 c2 _ e => sB _ _ c2 (sA.extBut _ _ c1 e))
  | some x =>
    refine wpAny_bind (wpAny_nextOf_list_item w1A b1A hx fun hB w1B sB => wpAny_pure (wpAny_pure ?_))
    have w2B := (w2.extBut sA.extBut D.i2z).extBut sB.extBut D.i12.symm
    have b2B := (b2.extBut sA.extBut D.l2z).extBut sB.extBut D.l2i1
    refine wpAny_bind (wpAny_bind (wpAny_holding ?_))
    cases hy : ys[k2]? with
    | none =>
      refine wpAny_bind (wpAny_nextOf_list_end calm w2B b2B hy fun hC e sC ⟨oe, ge, ce⟩ => wpAny_bind (wpAny_isInstance (T := "StopIteration") (b := true) ⟨oe, ge, ce⟩ isSubtype_stop ?_))
      exact wpAny_pure (over (.inr hy) _ fun c o c1 c2 c3 e => sC _ _ c3 (sB.extBut _ _ c2 (sA.extBut _ _ c1 e)))
    | some y =>
      refine wpAny_bind (wpAny_nextOf_list_item w2B b2B hy fun hC w2C sC => wpAny_pure (wpAny_pure ?_))
      have size : hC.objs.size = s.heap.objs.size := by rw [sC.1, sB.1, sA.1]
      refine wpAny_pure (wpAny_bind (wpAny_newTuple (wpAny_pure ⟨_, rfl, wpAny_pure ?_⟩) (hsz := by show 2 ≤ sizeLine; decide)))
      have on : ∀ {c o}, hC.get? c = some o → (hC.push { cls := .type "tuple", data := .seq #[x, y] }).get? c = some o := fun e => Heap.get?_push_of_some _ e
      have go := more x y (hC.push { cls := .type "tuple", data := .seq #[x, y] }) hx hy (on (sC.extBut _ _ D.i2z.symm (sB.extBut _ _ D.i1z.symm ZA))) ((w1B.extBut sC.extBut D.i12).at fun o e => on e) (w2C.at fun o e => on e)
        (by rw [← size]; exact Heap.get?_push_size _ rfl) (by rw [Heap.size_push, size]) fun c o c1 c2 c3 e => on (sC.extBut _ _ c3 (sB.extBut _ _ c2 (sA.extBut _ _ c1 e)))
      rw [← size] at go
      exact go
end
/-! ### list(zip(xs, ys)) -/
section
variable {prog : Program} {w : World} {A : Around} {E : Value → Shared → Prop} {s : Shared}
/-- pairs that were made, at as -/
structure ZGot (h0 : Heap) (lo : Addr) (xs ys : Array Value) (as : List Addr) (h : Heap) : Prop where
  kp : Kp h0 h
  nd : as.Nodup
  new : ∀ a ∈ as, lo < a
  at_ : ∀ (j : Nat) (a : Addr), as[j]? = some a → ∃ x y, xs[j]? = some x ∧ ys[j]? = some y ∧ IsPair h a x y
structure ZRun (h0 : Heap) (z TI TO i1 i2 l1 l2 lo : Addr) (xs ys : Array Value) (as : List Addr) (h : Heap) : Prop extends ZGot h0 lo xs ys as h where
  ti : IsPair h TI (.ref i1) (.ref i2)
  a1 : h.IsListIter i1 l1 as.length
  a2 : h.IsListIter i2 l2 as.length
  zz : (as = [] ∧ IsZip h z TI TO .none ∧ ∃ a b, IsPair h TO a b) ∨ ∃ a f oa, IsZipK h z TI TO a f ∧ h.get? a = some oa ∧ a ∈ as
theorem zip_col {h0 : Heap} {z TI TO i1 i2 l1 l2 S : Addr} {xs ys : Array Value} (hh : A.handled = none) (D : ZipApart z TI TO i1 i2 l1 l2) (hl1 : h0.IsList l1 xs) (hl2 : h0.IsList l2 ys)
    (n1 : h0.objs.size ≤ i1) (n2 : h0.objs.size ≤ i2) (n3 : h0.objs.size ≤ TO) (n4 : h0.objs.size ≤ z) (s1 : i1 < S) (s2 : i2 < S) (s3 : TO < S) (s4 : z < S) (s5 : TI < S) (sS : h0.objs.size ≤ S) :
    Col prog w A z S (min xs.size ys.size) (fun acc h => ∃ as, acc = as.map Value.ref ∧ ZRun h0 z TI TO i1 i2 l1 l2 S xs ys as h) (fun acc h => ∃ as, acc = as.map Value.ref ∧ ZGot h0 S xs ys as h) where
  frame := by
    rintro acc h h' ⟨as, rfl, R⟩ k
    have nS : ∀ a ∈ as, a ≠ S := fun a m => Nat.ne_of_gt (R.new a m)
    refine ⟨as, rfl, ⟨⟨fun b o e => k b o (ne_new e sS) (R.kp b o e), R.nd, R.new, fun j a e => ?_⟩, k _ _ (Nat.ne_of_lt s5) R.ti, R.a1.at fun o e => k _ o (Nat.ne_of_lt s1) e, R.a2.at fun o e => k _ o (Nat.ne_of_lt s2) e, ?_⟩⟩
    · obtain ⟨x, y, e1, e2, e3⟩ := R.at_ j a e
      exact ⟨x, y, e1, e2, k _ _ (nS a (List.mem_of_getElem? e)) e3⟩
    · rcases R.zz with ⟨e, q, a, b, p⟩ | ⟨a, f, oa, q, e, m⟩
      · exact .inl ⟨e, k _ _ (Nat.ne_of_lt s4) q, a, b, k _ _ (Nat.ne_of_lt s3) p⟩
      · exact .inr ⟨a, f, oa, k _ _ (Nat.ne_of_lt s4) q, k _ _ (nS a m) e, m⟩
  item := by
    rintro acc s Q E hlt ⟨as, rfl, R⟩ ⟨oS, hS⟩ hQ
    rw [List.length_map] at hlt
    have hix : as.length < xs.size := Nat.lt_of_lt_of_le hlt (Nat.min_le_left ..)
    have hiy : as.length < ys.size := Nat.lt_of_lt_of_le hlt (Nat.min_le_right ..)
    have L1 := hl1.at fun o e => R.kp _ o e
    have L2 := hl2.at fun o e => R.kp _ o e
    have szS : S < s.heap.objs.size := Heap.lt_size hS
    have lt : ∀ a ∈ as, a < s.heap.objs.size := fun a m => by
      obtain ⟨j, e⟩ := List.mem_iff_getElem?.mp m
      obtain ⟨x, y, _, _, e3⟩ := R.at_ j a e
      exact Heap.lt_size e3
    have fin : ∀ (h' : Heap) (a : Addr) (f : Bool), (a ∈ as ∨ a = s.heap.objs.size) → (∃ oa, h'.get? a = some oa) → IsZipK h' z TI TO a f → h'.IsListIter i1 l1 (as.length + 1) → h'.IsListIter i2 l2 (as.length + 1) → IsPair h' s.heap.objs.size xs[as.length] ys[as.length] →
        (∀ c o, c ≠ z → c ≠ TO → c ≠ i1 → c ≠ i2 → s.heap.get? c = some o → h'.get? c = some o) → Q (some (.ref s.heap.objs.size)) { s with heap := h' } := by
      intro h' a f ha hoa hz' h1' h2' hp' hk
      have big : ∀ a ∈ as, a ≠ z ∧ a ≠ TO ∧ a ≠ i1 ∧ a ≠ i2 := fun a m => by
        have := R.new a m
        exact ⟨Nat.ne_of_gt (Nat.lt_trans s4 this), Nat.ne_of_gt (Nat.lt_trans s3 this), Nat.ne_of_gt (Nat.lt_trans s1 this), Nat.ne_of_gt (Nat.lt_trans s2 this)⟩
      refine hQ _ h' s.toks ⟨as ++ [s.heap.objs.size], by rw [List.map_append]; rfl, ⟨⟨fun b o e => hk b o (ne_new e n4) (ne_new e n3) (ne_new e n1) (ne_new e n2) (R.kp b o e), ?_, ?_, ?_⟩, hk _ _ D.TIz D.TITO D.TIi1 D.TIi2 R.ti, ?_, ?_, .inr ?_⟩⟩ fun o e => hk S o (Nat.ne_of_gt s4) (Nat.ne_of_gt s3) (Nat.ne_of_gt s1) (Nat.ne_of_gt s2) e
      · rw [List.nodup_append]
        refine ⟨R.nd, by simp, fun a m b m' => ?_⟩
        rw [List.mem_singleton.mp m']
        exact Nat.ne_of_lt (lt a m)
      · intro a m
        rcases List.mem_append.mp m with m | m
        · exact R.new a m
        · rw [List.mem_singleton.mp m]; exact szS
      · intro j b e
        by_cases hj : j < as.length
        · rw [List.getElem?_append_left hj] at e
          obtain ⟨x, y, e1, e2, e3⟩ := R.at_ j b e
          obtain ⟨q1, q2, q3, q4⟩ := big b (List.mem_of_getElem? e)
          exact ⟨x, y, e1, e2, hk b _ q1 q2 q3 q4 e3⟩
        · have hj' : j = as.length := by
            have := (List.getElem?_eq_some_iff.mp e).1
            simp at this
            omega
          subst hj'
          simp at e
          subst e
          exact ⟨_, _, Array.getElem?_eq_getElem hix, Array.getElem?_eq_getElem hiy, hp'⟩
      · rw [List.length_append]; exact h1'
      · rw [List.length_append]; exact h2'
      · obtain ⟨oa, e⟩ := hoa
        refine ⟨a, f, oa, hz', e, ?_⟩
        rcases ha with ha | ha
        · exact List.mem_append_left _ ha
        · rw [ha]; simp
    rcases R.zz with ⟨e, q, a, b, p⟩ | ⟨a, f, oa, q, e, m⟩
    · subst e
      refine wpAny_pyNext_zip_item D q R.ti p R.a1 R.a2 L1 L2 (Array.getElem?_eq_getElem hix) (Array.getElem?_eq_getElem hiy) fun h' b1 b2 b3 b4 b5 b6 hk => ?_
      exact fin h' s.heap.objs.size false (.inr rfl) ⟨_, b5⟩ b1 b3 b4 b5 hk
    · have ex := Array.getElem?_eq_getElem hix
      have ey := Array.getElem?_eq_getElem hiy
      refine zipk_step hh D q R.ti e R.a1 R.a2 L1 L2 (fun x y h' ex' ey' b1 b3 b4 b5 b6 hk => ?_) fun no => by rw [ex, ey] at no; exact absurd no (by simp)
      rw [ex] at ex'; cases ex'
      rw [ey] at ey'; cases ey'
      have := R.new a m
      exact fin h' a true (.inl m) ⟨oa, hk _ _ (Nat.ne_of_gt (Nat.lt_trans s4 this)) (Nat.ne_of_gt (Nat.lt_trans s1 this)) (Nat.ne_of_gt (Nat.lt_trans s2 this)) e⟩ b1 b3 b4 b5 fun c o c1 _ c3 c4 => hk c o c1 c3 c4
  done := by
    rintro acc s Q E hlt ⟨as, rfl, R⟩ ⟨oS, hS⟩ hQ
    rw [List.length_map] at hlt
    have L1 := hl1.at fun o e => R.kp _ o e
    have L2 := hl2.at fun o e => R.kp _ o e
    have hend : xs[as.length]? = none ∨ ys[as.length]? = none := by
      rw [Array.getElem?_eq_none_iff, Array.getElem?_eq_none_iff]
      omega
    have fin : ∀ h', (∀ c o, c ≠ z → c ≠ TO → c ≠ i1 → c ≠ i2 → s.heap.get? c = some o → h'.get? c = some o) → Q none { s with heap := h' } := by
      intro h' hk
      refine hQ h' s.toks ⟨as, rfl, ⟨fun b o e => hk b o (ne_new e n4) (ne_new e n3) (ne_new e n1) (ne_new e n2) (R.kp b o e), R.nd, R.new, fun j a e => ?_⟩⟩ fun o e => hk S o (Nat.ne_of_gt s4) (Nat.ne_of_gt s3) (Nat.ne_of_gt s1) (Nat.ne_of_gt s2) e
      obtain ⟨x, y, e1, e2, e3⟩ := R.at_ j a e
      have := R.new a (List.mem_of_getElem? e)
      exact ⟨x, y, e1, e2, hk a _ (Nat.ne_of_gt (Nat.lt_trans s4 this)) (Nat.ne_of_gt (Nat.lt_trans s3 this)) (Nat.ne_of_gt (Nat.lt_trans s1 this)) (Nat.ne_of_gt (Nat.lt_trans s2 this)) e3⟩
    rcases R.zz with ⟨e, q, a, b, p⟩ | ⟨a, f, oa, q, e, m⟩
    · exact wpAny_pyNext_zip_end hh D q R.ti p R.a1 R.a2 L1 L2 hend fin
    · refine zipk_step hh D q R.ti e R.a1 R.a2 L1 L2 (fun x y h' ex ey => ?_) fun _ h' hk => fin h' fun c o c1 _ c3 c4 => hk c o c1 c3 c4
      rw [ex, ey] at hend
      exact absurd hend (by simp)
end
theorem zip_nolen : typeLookup (.type "zip") "__len__" = pure none := by rw [typeLookup_type, builtinLookup_eq_fast]; kernel_rfl
theorem zip_nohint : typeLookup (.type "zip") "__length_hint__" = pure none := by rw [typeLookup_type, builtinLookup_eq_fast]; kernel_rfl
section
variable {prog : Program} {w : World} {A : Around} {E : Value → Shared → Prop} {s : Shared}
theorem zip_hint {z : Addr} (hT : s.TypeIs (.ref z) "zip") {Q : Bool → Shared → Prop} (h : Q true s) : wpAny (model prog w) A (Builtin.List.listLengthHint (.ref z)) Q E s := by
  unfold Builtin.List.listLengthHint
  refine wpAny_bind (wpAny_specialOf hT zip_nolen ?_)
  wp_delta
  refine wpAny_ite_split (fun hab => absurd hab (by decide)) (fun _ => ?_)
  refine wpAny_bind (wpAny_specialOf hT zip_nohint ?_)
  exact wpAny_pure h
theorem call_list_zip {l1 l2 : Addr} {xs ys : Array Value} {Q : Value → Shared → Prop} (hh : A.handled = none) (hl1 : s.heap.IsList l1 xs) (hl2 : s.heap.IsList l2 ys) (hn : min xs.size ys.size ≤ sizeLine)
    (h : ∀ h' tk c (as : List Addr) (L : Addr), s.heap.objs.size ≤ L → as.length = min xs.size ys.size → ZGot s.heap L xs ys as h' → h'.get? L = some { cls := .type "list", dict := none, data := .seq (as.map Value.ref).toArray c, slots := #[] } → Q (.ref L) { s with heap := h', toks := tk }) :
    wpAny (model prog w) A (call (.type "zip") [.ref l1, .ref l2]) (fun r s1 => wpAny (model prog w) A (call (.type "list") [r]) Q E s1) E s := by
  have la : l1 < s.heap.objs.size := by obtain ⟨o, e, _⟩ := hl1; exact Heap.lt_size e
  have lb : l2 < s.heap.objs.size := by obtain ⟨o, e, _⟩ := hl2; exact Heap.lt_size e
  refine call_zip_2 hl1 hl2 fun h1 hz hTI hTO b1 b2 z5 k1 => ?_
  have D := PySem.W.ktu_apart s.heap.objs.size l1 l2 la lb
  refine call_list_by (fun h' tk => ∃ c as, as.length = min xs.size ys.size ∧ ZGot s.heap h1.objs.size xs ys as h' ∧ h'.get? h1.objs.size = some { cls := .type "list", dict := none, data := .seq (as.map Value.ref).toArray c, slots := #[] })
    (fun h' tk ⟨c, as, e1, e2, e3⟩ => h h' tk c as _ (by rw [z5]; omega) e1 e2 e3) ?_
  intro R h2 c hS k2 hR
  have hS : h2.get? h1.objs.size = some { cls := .type "list", data := .seq #[] c } := hS
  have k2 : Kp h1 h2 := k2
  have col := zip_col (prog := prog) (w := w) (A := A.in1.in1) (h0 := s.heap) (z := s.heap.objs.size + 4) (TI := s.heap.objs.size + 2) (TO := s.heap.objs.size + 3) (i1 := s.heap.objs.size) (i2 := s.heap.objs.size + 1) (l1 := l1) (l2 := l2) (S := h1.objs.size) (xs := xs) (ys := ys)
    hh D hl1 hl2 (Nat.le_refl _) (by omega) (by omega) (by omega) (by rw [z5]; exact Nat.lt_add_of_pos_right (by decide)) (by rw [z5]; exact Nat.add_lt_add_left (by decide) _) (by rw [z5]; exact Nat.add_lt_add_left (by decide) _) (by rw [z5]; exact Nat.add_lt_add_left (by decide) _) (by rw [z5]; exact Nat.add_lt_add_left (by decide) _) (by omega)
  show wpAny _ _ (Builtin.List.listExtendWith (.ref h1.objs.size) (.ref (s.heap.objs.size + 4)) .none) _ _ { s with heap := h2 }
  have hz2 : IsZip h2 (s.heap.objs.size + 4) (s.heap.objs.size + 2) (s.heap.objs.size + 3) .none := k2 _ _ hz
  have hT : Shared.TypeIs { s with heap := h2 } (.ref (s.heap.objs.size + 4)) "zip" := ⟨_, hz2, rfl⟩
  unfold Builtin.List.listExtendWith
  refine wpAny_bind (wpAny_typeOf (T := "zip") hT ?_)
  have q1 : Builtin.List.listSameRef (.ref h1.objs.size) (.ref (s.heap.objs.size + 4)) = false := by
    have : ¬ h1.objs.size = s.heap.objs.size + 4 := by omega
    simp [Builtin.List.listSameRef, this]
  have q2 : (Value.type "zip" == Value.type "list") = false := by decide
  have q3 : (Value.type "zip" == Value.type "tuple") = false := by decide
  simp only [q1, q2, q3, Bool.or_false, Bool.false_eq_true, if_false]
  refine wpAny_bind (wpAny_pyIter_zip hz2 ?_)
  refine wpAny_bind (wpAny_holding (zip_hint hT ?_))
  refine wpAny_ite_split (fun _ => ?_) (fun hab => absurd rfl hab)
  refine wpAny_bind (wpAny_rule ?_)
  refine wpAny_bind ?_
  show wpAny _ _ (updateSeq h1.objs.size (·.push .none) >>= fun _ => updateSeq h1.objs.size (·.pop)) _ _ _
  refine wpAny_bind (wpAny_updateSeq hS rfl ?_)
  have hS2 := Heap.get?_update_self (Obj.mapSeq (·.push Value.none)) hS rfl
  refine wpAny_updateSeq (hz := by seq_fits) hS2 rfl ?_
  have hS3 := Heap.get?_update_self (Obj.mapSeq (·.pop)) hS2 rfl
  refine wpAny_pure ⟨plainId_quiet PySem.F.plain_extend_loop _, ?_⟩
  have up : ∀ b o, b ≠ h1.objs.size → h2.get? b = some o → ((h2.update h1.objs.size (Obj.mapSeq (·.push Value.none))).update h1.objs.size (Obj.mapSeq (·.pop))).get? b = some o := fun b o hb e =>
    (Heap.get?_update_other _ _ hb.symm).trans ((Heap.get?_update_other _ _ hb.symm).trans e)
  generalize (h2.update h1.objs.size (Obj.mapSeq (·.push Value.none))).update h1.objs.size (Obj.mapSeq (·.pop)) = h3 at hS3 up
  have nS : ∀ {b o}, h1.get? b = some o → h3.get? b = some o := fun e => up _ _ (ne_new e (Nat.le_refl _)) (k2 _ _ e)
  refine col.loop (s := s) (R := R) hn .none (fun acc h' tk c' hlen hF hS' => ?_) _ [] h3 _ _ rfl (Nat.zero_le _) ⟨[], rfl, ⟨⟨fun b o e => nS (k1 b o e), .nil, (fun _ m => nomatch m), fun j a e => by simp at e⟩, nS hTI, b1.at fun o e => nS e, b2.at fun o e => nS e, .inl ⟨rfl, nS hz, _, _, nS hTO⟩⟩⟩ hS3
  obtain ⟨as, rfl, G⟩ := hF
  exact hR h' tk ⟨c', as, by simpa using hlen, G, hS'⟩
end
section
variable {X : Cx} {pins : List (Addr × Obj)} {σ : St} {H H2 : Hp} {s : Shared}
/-- all that was there is kept, and new things are tracked -/
theorem Inv_grow {h' : Heap} {t' : Nat} (I : Inv X pins σ H s) (kp : Kp s.heap h') (old : ∀ b, b < s.heap.objs.size → H2 b = H b) (new : ∀ b o, s.heap.objs.size ≤ b → H2 b = some o → ObjOk X.prog X.w H2 h' b o) :
    Inv X pins σ H2 { s with heap := h', toks := t' } := by
  have tr : ∀ {b o}, H b = some o → H2 b = some o := fun e => (old _ (I.hok.lt e)).trans e
  refine I.un ⟨fun b o e _ _ _ => kp b o e, fun b o e _ _ _ => ⟨o.slots, kp b o e⟩, fun b o e n _ => by rw [old b (Heap.lt_size e)]; exact n, fun b o e _ => ⟨o, kp b o e⟩, fun b xs e => tr e, fun b o u e => tr e, fun b ps e => ⟨#[], by rw [tr e]; simp⟩⟩ fun b o e => ?_
  by_cases hb : b < s.heap.objs.size
  · rw [old b hb] at e
    exact (I.hok b o e).stay (fun c u _ q => kp c u q) (fun c q => tr q) fun c xs q => tr q
  · exact new b o (Nat.le_of_not_lt hb) e
end
section
variable {X : Cx} {t : TA} {e1 e2 : Expr} {p p2 pos pos2 : Pos}
def tLZ (K : PySem.W.Frag) (t : TA) : TE := fun σ H Q => t σ H fun vs H1 => ∃ (a b : Addr) (us ws : List V), vs = [.ref a, .ref b] ∧ SqL K H1 a us ∧ SqL K H1 b ws ∧
  ∀ (H2 : Hp) (L : Addr) (ts : List Addr), Same H1 H2 → H1 L = none → (∀ t ∈ ts, H1 t = none ∧ t ≠ L) → H2 L = some (.lst (ts.map V.ref)) → Paired (fun (t : Addr) (q : V × V) => H2 t = some (.tup [q.1, q.2])) ts (us.zip ws) → Q (.ref L) H2
theorem pe_listzip (hc : X.calm = true) (hg : Gl X "list") (hm : X.mg "list" = none) (hg2 : Gl X "zip") (hm2 : X.mg "zip" = none) (ha : PA X [e1, e2] t)
    (hs : starEach [e1, e2] X.env = (false, eval e1 X.env) :: starEach [e2] X.env := by rfl) (hpl : (backTo pos2 (starEach [e2] X.env)).any (·.1) = false := by rfl)
    (hs2 : starEach [.Call (.Name "zip" p2) [e1, e2] [] pos2] X.env = (false, eval (.Call (.Name "zip" p2) [e1, e2] [] pos2) X.env) :: starEach [] X.env := by rfl) :
    PE X (.Call (.Name "list" p) [.Call (.Name "zip" p2) [e1, e2] [] pos2] [] pos) (tLZ X.K t) := by
  intro pins s σ H Q I h
  refine wpAny_Call_Name_kw (ld_blt I hg hm (u := .type "list") (by decide +kernel) ?_ (by decide) (by decide))
  refine PyProof.Rows.callWith_type1 ?_ hs2 rfl
  rw [hs2]
  show wpAny _ _ (spliced ((false, eval (.Call (.Name "zip" p2) [e1, e2] [] pos2) X.env) :: backTo pos (starEach [] X.env))) _ _ s
  refine Calls.spliced_cons ?_
  refine wpAny_Call_Name_kw (ld_blt I hg2 hm2 boot_zip5 ?_ (by decide) (by decide))
  refine PyProof.Rows.callWith_type1 (thn (ha pos2 pins s σ H _ I h) fun us s1 ⟨vs, H1, I1, r1, q1⟩ => ?_) hs hpl
  obtain ⟨a, b, us, ws, rfl, hqa, hqb, k⟩ := q1
  obtain ⟨u1, u2, rfl, ra, rb⟩ := vals2 r1
  cases ra
  cases rb
  obtain ⟨its, rv, p1, z1⟩ := I1.list hqa
  obtain ⟨its2, rv2, p2, z2⟩ := I1.list hqb
  have l1 := rv.length
  have l2 := rv2.length
  have go := call_list_zip (prog := X.prog) (w := X.w) (A := X.A) (E := X.xe) (Q := EP X pins σ Q) (I1.ok.hd hc) p1.isList p2.isList (by simp only [List.size_toArray]; omega) ?_
  · exact thn go fun r s2 q => Calls.spliced_nil q
  intro h' tk c as L hL hlen G hS
  let H2 : Hp := fun x => if x = L then some (.lst (as.map V.ref)) else match (as.zip (us.zip ws)).lookup x with
    | some q => some (.tup [q.1, q.2])
    | none => H1 x
  have zl : (us.zip ws).length = as.length := by rw [List.length_zip, hlen]; simp only [List.size_toArray]; omega
  have inz : ∀ {as : List Addr} {qs : List (V × V)} {x : Addr} {q : V × V}, (as.zip qs).lookup x = some q → ∃ j : Nat, as[j]? = some x ∧ qs[j]? = some q := by
    intro as
    induction as with
    | nil => intro qs x q e; simp at e
    | cons a as ih =>
      intro qs x q e
      cases qs with
      | nil => simp at e
      | cons q0 qs =>
        rw [List.zip_cons_cons, List.lookup_cons] at e
        cases hx : (x == a) with
        | true =>
          rw [hx] at e
          cases e
          exact ⟨0, by rw [eq_of_beq hx]; rfl, rfl⟩
        | false =>
          rw [hx] at e
          obtain ⟨j, e1, e2⟩ := ih e
          exact ⟨j + 1, e1, e2⟩
  have lkz : ∀ {as : List Addr} {qs : List (V × V)}, as.Nodup → qs.length = as.length → Paired (fun (t : Addr) (q : V × V) => (as.zip qs).lookup t = some q) as qs := by
    intro as
    induction as with
    | nil => intro qs _ hl; cases qs with
      | nil => exact .nil
      | cons => simp at hl
    | cons a as ih =>
      intro qs hn hl
      cases qs with
      | nil => simp at hl
      | cons q qs =>
        obtain ⟨n1, n2⟩ := List.nodup_cons.mp hn
        refine .cons (by rw [List.zip_cons_cons, List.lookup_cons, beq_self_eq_true]) ?_
        have r := ih n2 (by simpa using hl)
        have key : ∀ {as' : List Addr} {qs' : List (V × V)}, (∀ x ∈ as', x ∈ as) → Paired (fun (t : Addr) (q : V × V) => (as.zip qs).lookup t = some q) as' qs' → Paired (fun (t : Addr) (q' : V × V) => ((a :: as).zip (q :: qs)).lookup t = some q') as' qs' := by
          intro as' qs' hsub r
          induction r with
          | nil => exact .nil
          | @cons x y as'' qs'' h0 _ ih2 =>
            refine .cons ?_ (ih2 fun z hz => hsub z (List.mem_cons_of_mem _ hz))
            have hxa : ¬ x = a := fun z => n1 (z ▸ hsub x (by simp))
            rw [List.zip_cons_cons, List.lookup_cons, beq_eq_false_iff_ne.mpr hxa]
            exact h0
        exact key (fun x h => h) r
  have newL : ∀ x, x < s1.heap.objs.size → H2 x = H1 x := fun x hx => by
    have e1 : ¬ x = L := fun z => by rw [z] at hx; exact absurd hx (Nat.not_lt.mpr hL)
    have e2 : (as.zip (us.zip ws)).lookup x = none := by
      cases e : (as.zip (us.zip ws)).lookup x with
      | none => rfl
      | some q =>
        obtain ⟨j, e1, _⟩ := inz e
        have := G.new x (List.mem_of_getElem? e1)
        exact absurd hx (Nat.not_lt.mpr (Nat.le_trans hL (Nat.le_of_lt this)))
    show (if x = L then _ else _) = _
    rw [if_neg e1, e2]
  have asL : ∀ x ∈ as, ¬ x = L := fun x m => Nat.ne_of_gt (G.new x m)
  have hasn : ∀ x ∈ as, H1 x = none := fun x m => I1.hok.fresh (Nat.le_trans hL (Nat.le_of_lt (G.new x m)))
  have I2 : Inv X pins σ H2 { s1 with heap := h', toks := tk } := by
    refine Inv_grow I1 G.kp newL fun x o hx e => ?_
    by_cases xl : x = L
    · subst xl
      have e' : H2 x = some (.lst (as.map V.ref)) := if_pos rfl
      rw [e'] at e
      cases e
      refine ⟨by rw [List.length_map, hlen]; simp only [List.size_toArray]; omega, as.map Value.ref, c, Paired.of_map (F := RelV) (f := V.ref) (g := Value.ref) (fun c => (rfl : RelV (.ref c) (.ref c))) as, hS⟩
    · have e : (match (as.zip (us.zip ws)).lookup x with | some q => some (.tup [q.1, q.2]) | none => H1 x) = some o := by
        have e' : H2 x = _ := if_neg xl
        rw [e'] at e; exact e
      cases e3 : (as.zip (us.zip ws)).lookup x with
      | none =>
        rw [e3] at e
        have := I1.hok.lt e
        exact absurd this (Nat.not_lt.mpr hx)
      | some q =>
        rw [e3] at e
        cases e
        obtain ⟨j, e4, e5⟩ := inz e3
        obtain ⟨x1, y1, e6, e7, e8⟩ := G.at_ j x e4
        have e9 := List.getElem?_zip_eq_some.mp e5
        obtain ⟨v1, f1, g1⟩ := rv.get e9.1
        obtain ⟨v2, f2, g2⟩ := rv2.get e9.2
        have e6' : its[j]? = some x1 := by simpa using e6
        have e7' : its2[j]? = some y1 := by simpa using e7
        rw [f1] at e6'; cases e6'
        rw [f2] at e7'; cases e7'
        exact ⟨by show 2 ≤ sizeLine; decide, [x1, y1], .cons g1 (.cons g2 .nil), ⟨_, e8, rfl, _, rfl⟩⟩
  refine ⟨.ref L, H2, I2, rfl, k H2 L as (fun b o e => (newL b (I1.hok.lt e)).trans e) (I1.hok.fresh hL) (fun x m => ⟨hasn x m, asL x m⟩) (if_pos rfl) ?_⟩
  have r := lkz G.nd zl
  have key : ∀ {as' : List Addr} {qs' : List (V × V)}, (∀ x ∈ as', x ∈ as) → Paired (fun (t : Addr) (q : V × V) => (as.zip (us.zip ws)).lookup t = some q) as' qs' → Paired (fun (t : Addr) (q : V × V) => H2 t = some (.tup [q.1, q.2])) as' qs' := by
    intro as' qs' hsub r
    induction r with
    | nil => exact .nil
    | @cons x y as'' qs'' h0 _ ih2 =>
      refine .cons ?_ (ih2 fun z hz => hsub z (List.mem_cons_of_mem _ hz))
      show (if x = L then _ else _) = _
      rw [if_neg (asL x (hsub x (by simp))), h0]
  exact key (fun x h => h) r
end
end LL

set_option Elab.async false
set_option linter.all false
set_option maxRecDepth 100000
set_option maxHeartbeats 4000000
/-! a dict whose keys are tuples of tuples -/
namespace LL
open PySem PySem.Spec PyProof.Rows L2
section
variable {prog : Program} {w : World} {K : Type} [DecidableEq K] (knd : PySem.KeyKind prog w K)
inductive NItems (h : Heap) : List (List K) → List Value → Prop
  | nil : NItems h [] []
  | cons {ks : List K} {b : Addr} {kss : List (List K)} {vs : List Value} : IsTupleKey knd h ks b → NItems h kss vs → NItems h (ks :: kss) (.ref b :: vs)
def IsNest (h : Heap) (kss : List (List K)) (a : Addr) : Prop := ∃ o items n, h.get? a = some o ∧ o.cls = .type "tuple" ∧ o.data = .seq items n ∧ NItems knd h kss items.toList
variable {knd}
theorem NItems.inj {h : Heap} {x y : List (List K)} {vs : List Value} (hx : NItems knd h x vs) (hy : NItems knd h y vs) : x = y := by
  induction hx generalizing y with
  | nil => cases hy; rfl
  | cons h1 _ ih =>
    cases hy with
    | cons h2 t2 => rw [h1.inj h2, ih t2]
theorem NItems.keeps {h h' : Heap} {d : Addr} {o : Obj} {es : Array DictEntry} {ep : Nat} (ho : h.get? d = some o) (hd : o.data = .dict es ep) (hs : Heap.SameBut d h h') {x : List (List K)} {vs : List Value} (hx : NItems knd h x vs) : NItems knd h' x vs := by
  induction hx with
  | nil => exact .nil
  | cons h1 _ ih => exact .cons (h1.keeps ho hd hs) ih
theorem IsNest.typeIs {s : Shared} {kss : List (List K)} {a : Addr} (x : IsNest knd s.heap kss a) : s.TypeIs (.ref a) "tuple" := let ⟨o, _, _, ho, hc, _⟩ := x; ⟨o, ho, hc⟩
theorem IsNest.inj {h : Heap} {a : Addr} {x y : List (List K)} (hx : IsNest knd h x a) (hy : IsNest knd h y a) : x = y := by
  obtain ⟨o, its, n, ho, _, hd, hi⟩ := hx
  obtain ⟨o', its', n', ho', _, hd', hi'⟩ := hy
  rw [ho] at ho'
  cases ho'
  rw [hd] at hd'
  injection hd' with e1 _
  subst e1
  exact hi.inj hi'
theorem IsNest.keeps {h h' : Heap} {kss : List (List K)} {a d : Addr} {o : Obj} {es : Array DictEntry} {ep : Nat} (x : IsNest knd h kss a) (ho : h.get? d = some o) (hd : o.data = .dict es ep) (hs : Heap.SameBut d h h') : IsNest knd h' kss a := by
  obtain ⟨o', its, n, ho', hc, hd', hi⟩ := x
  have hne : a ≠ d := fun e => by
    rw [e, ho] at ho'
    cases ho'
    rw [hd] at hd'
    cases hd'
  exact ⟨o', its, n, (hs.2 a hne).trans ho', hc, hd', hi.keeps ho hd hs⟩
/-- a tuple whose items are known one by one -/
def tupleHashBy (ps : List (Int × Nat)) : Int := reduceHash (Builtin.Tuple.tupleHashOf (ps.map (·.1)))
def drawsBy (ps : List (Int × Nat)) : Nat := (ps.map (·.2)).sum
structure TupAt (h : Heap) (a : Addr) (its : Array Value) : Prop where
  ex : ∃ o n, h.get? a = some o ∧ o.cls = .type "tuple" ∧ o.data = .seq its n
variable {A : Around} {E : Value → Shared → Prop} {s : Shared}
theorem TupAt.typeIs {a : Addr} {its : Array Value} (t : TupAt s.heap a its) : s.TypeIs (.ref a) "tuple" := let ⟨o, _, g, c, _⟩ := t.ex; ⟨o, g, c⟩
theorem TupAt.items {M : Model} {a : Addr} {its : Array Value} {Q : Array Value → Shared → Prop} (t : TupAt s.heap a its) (h : Q its s) : wpAny M A (Builtin.Tuple.tupleItemsOf (.ref a)) Q E s :=
  let ⟨_, _, g, _, f⟩ := t.ex; wpAny_tupleItemsOf g f h
/-- an item v hashes to p.1 by p.2 draws -/
def HashesTo (prog : Program) (w : World) (A : Around) (s : Shared) (v : Value) (p : Int × Nat) : Prop :=
  ∀ (t : Nat) (Q : Int → Shared → Prop) (E : Value → Shared → Prop), Q p.1 { s with toks := t + p.2 } → wpAny (model prog w) A (pyHash v) Q E { s with toks := t }
theorem tuple_hash {a : Addr} {its : Array Value} {ps : List (Int × Nat)} {Q : Int → Shared → Prop} (room : A.units < cLine) (t : TupAt s.heap a its) (each : Paired (HashesTo prog w A.in1 s) its.toList ps)
    (h : Q (tupleHashBy ps) { s with toks := s.toks + (drawsBy ps + 1) }) : wpAny (model prog w) A (pyHash (.ref a)) Q E s := by
  have T := t.typeIs
  have L := F.slot_tuple_hash.lookup
  unfold pyHash pyHashByItsType
  refine wpAny_bind (wpAny_cRoomFor_or (.inr room) (wpAny_bind (wpAny_specialOf T L ?_)))
  rw [if_neg (by rw [beq_builtin_none]; decide)]
  refine wpAny_bind (wpAny_specialOf T L (wpAny_bind (wpAny_callSpecialIfBoundUnlessNone?_slot T F.slot_tuple_hash (wpAny_call_entry F.slot_tuple_hash T F.entry_tuple_hash ?_ (F.args_tuple_hash_1 _)))))
  refine wpAny_bind (wpAny_pure (wpAny_bind (t.items (wpAny_bind ?_))))
  rw [← Array.forIn_toList]
  refine wpAny_forIn_list _ (fun rest (got : Array Int) s' => ∃ done left, ps = done ++ left ∧ Paired (HashesTo prog w A.in1 s) rest left ∧ got.toList = done.map (·.1) ∧ s' = { s with toks := s.toks + drawsBy done }) _ ?_ ?_ _ _ ⟨[], ps, rfl, each, rfl, rfl⟩
  · rintro v rest got _ ⟨done, _, rfl, pr, eg, rfl⟩
    cases pr with
    | @cons _ p _ left h0 pr =>
      have sum : drawsBy (done ++ [p]) = drawsBy done + p.2 := by simp [drawsBy]
      refine wpAny_bind (h0 _ _ _ (wpAny_pure ⟨done ++ [p], left, by simp, pr, by simp [eg], ?_⟩))
      rw [sum, Nat.add_assoc]
  · rintro got _ ⟨done, _, rfl, pr, eg, rfl⟩
    cases pr
    rw [List.append_nil] at h
    refine (wpAny_ret_mkInt ?_ : wpAny _ _ (retInt (Builtin.Tuple.tupleHashOf got.toList)) _ _ _)
    rw [eg]
    unfold tupleHashBy reduceHash at h
    refine wpAny_ite_split (fun small => ?_) fun big => ?_
    · rw [if_pos small] at h
      exact wpAny_pure (by simpa [Nat.add_assoc] using h)
    · rw [if_neg big] at h
      exact wpAny_bind (wpAny_rule (wpAny_pure (by simpa [Nat.add_assoc] using h)))
/-- of two items, whether they are equal -/
def EqualsBy (prog : Program) (w : World) (A : Around) (s : Shared) (p : Value × Value) (c : Bool) : Prop :=
  ∀ (Q : Bool → Shared → Prop) (E : Value → Shared → Prop), Q c s → wpAny (model prog w) A (eqBool p.1 p.2) Q E s
theorem tuple_equal {a b : Addr} {xs ys : Array Value} {cs : List Bool} {P : Fin → Shared → Prop} (ta : TupAt s.heap a xs) (tb : TupAt s.heap b ys) (each : Paired (EqualsBy prog w A s) (xs.toList.zip ys.toList) cs)
    (h : P (.done (.ret (.bool (cs.all id && xs.size == ys.size)))) s) : wpAny (model prog w) A (Builtin.«tuple.__eq__» ⟨[.ref a, .ref b], []⟩) P E s := by
  refine wpAny_bind (wpAny_pure (wpAny_bind (wpAny_isInstance tb.typeIs isSubtype_tuple_tuple (wpAny_bind (ta.items (wpAny_bind (tb.items (wpAny_bind ?_))))))))
  refine wpAny_forIn_list _ (fun rest got s' => got.1 = none ∧ s' = s ∧ ∃ left, Paired (EqualsBy prog w A s) rest left ∧ left.all id = cs.all id) _ ?_ ?_ _ _ ⟨rfl, rfl, cs, each, rfl⟩
  · rintro p rest got _ ⟨_, rfl, _, pr, e⟩
    cases pr with
    | @cons _ c _ left h0 pr =>
      refine wpAny_bind (h0 _ _ ?_)
      cases c with
      | true => exact wpAny_pure ⟨rfl, rfl, left, pr, by simpa using e⟩
      | false =>
        rw [← e] at h
        exact wpAny_bind (wpAny_pure (wpAny_pure (wpAny_pure h)))
  · rintro ⟨_, u⟩ _ ⟨rfl, rfl, _, pr, e⟩
    cases pr
    rw [← e] at h
    exact wpAny_pure h
theorem tuple_quiet {a : Addr} {its : Array Value} {n : Nat} {Q : Bool → Shared → Prop} (t : TupAt s.heap a its) (each : ∀ v ∈ its.toList, ∀ (Q : Bool → Shared → Prop), Q true s → wpAny (model prog w) A (eqIsQuiet n v) Q E s) (h : Q true s) :
    wpAny (model prog w) A (eqIsQuiet (n + 1) (.ref a)) Q E s := by
  have ⟨_, _, g, _, f⟩ := t.ex
  unfold eqIsQuiet
  refine wpAny_bind (wpAny_specialOf t.typeIs F.slot_tuple_eq.lookup (wpAny_bind (wpAny_isInstance t.typeIs isSubtype_tuple_tuple (wpAny_bind (wpAny_seqItems g f (wpAny_bind ?_))))))
  rw [← Array.forIn_toList]
  refine wpAny_forIn_list _ (fun rest got s' => got.1 = none ∧ s' = s ∧ ∀ v ∈ rest, v ∈ its.toList) _ ?_ ?_ _ _ ⟨rfl, rfl, fun _ m => m⟩
  · rintro v rest got _ ⟨_, rfl, sub⟩
    exact wpAny_bind (each v (sub v (by simp)) _ (wpAny_pure ⟨rfl, rfl, fun u m => sub u (by simp [m])⟩))
  · rintro ⟨_, u⟩ _ ⟨rfl, rfl, _⟩
    exact wpAny_pure h
/-! the tuples of tuples -/
theorem IsNest.tup {h : Heap} {kss : List (List K)} {a : Addr} (x : IsNest knd h kss a) : ∃ its, TupAt h a its ∧ NItems knd h kss its.toList := let ⟨o, its, n, g, c, f, i⟩ := x; ⟨its, ⟨o, n, g, c, f⟩, i⟩
theorem key_tup {h : Heap} {ks : List K} {a : Addr} (x : IsTupleKey knd h ks a) : ∃ its, TupAt h a its ∧ ItemsAre knd ks its.toList := let ⟨o, its, n, g, c, f, i⟩ := x; ⟨its, ⟨o, n, g, c, f⟩, i⟩
def nestPairs (knd : PySem.KeyKind prog w K) (kss : List (List K)) : List (Int × Nat) := kss.map fun ks => (tupleKeyHash knd ks, ks.length + 1)
def nestHash (knd : PySem.KeyKind prog w K) (kss : List (List K)) : Int := tupleHashBy (nestPairs knd kss)
theorem nest_hash {kss : List (List K)} {a : Addr} {Q : Int → Shared → Prop} (hu : A.units + 1 < cLine) (hk : IsNest knd s.heap kss a) (h : Q (nestHash knd kss) { s with toks := s.toks + (drawsBy (nestPairs knd kss) + 1) }) :
    wpAny (model prog w) A (pyHash (.ref a)) Q E s := by
  obtain ⟨its, t, i⟩ := hk.tup
  refine tuple_hash (Nat.lt_of_succ_lt hu) t ?_ h
  clear h t hk
  generalize its.toList = vs at i
  induction i with
  | nil => exact .nil
  | cons q _ ih => exact .cons (fun n Q E hq => wpAny_pyHash_tuple (s := { s with toks := n }) (show A.units + 1 < cLine from hu) q hq) ih
theorem nest_pairs {x y : List (List K)} {us vs : List Value} (hu : A.units < cLine) (hx : NItems knd s.heap x us) (hy : NItems knd s.heap y vs) :
    ∃ cs, Paired (EqualsBy prog w A s) (us.zip vs) cs ∧ (cs.all id && us.length == vs.length) = decide (x = y) := by
  induction hx generalizing y vs with
  | nil =>
    refine ⟨[], by cases hy <;> exact .nil, ?_⟩
    cases hy <;> simp
  | @cons ks b _ _ q _ ih =>
    cases hy with
    | nil => exact ⟨[], .nil, by simp⟩
    | @cons ls c _ _ q' r' =>
      obtain ⟨cs, pr, e⟩ := ih r'
      refine ⟨decide (ks = ls) :: cs, .cons (fun Q E hq => wpAny_eqBool_tuple hu q q' hq) pr, ?_⟩
      simp only [List.all_cons, id, List.length_cons, List.cons.injEq, Bool.decide_and, ← e, Bool.and_assoc]
      congr 2
      simp
theorem nest_eq {x y : List (List K)} {a b : Addr} {Q : Bool → Shared → Prop} (hu : A.units + 1 < cLine) (hx : IsNest knd s.heap x a) (hy : IsNest knd s.heap y b) (h : Q (decide (x = y)) s) :
    wpAny (model prog w) A (eqBool (.ref a) (.ref b)) Q E s := by
  refine wpAny_holding (wpAny_ite_split (fun same => ?_) fun _ => wpAny_bind ?_)
  · obtain rfl : a = b := by injection eq_of_beq same
    obtain rfl := hx.inj hy
    rw [decide_eq_true rfl] at h
    exact wpAny_bind (wpAny_rule (wpAny_pure h))
  · obtain ⟨us, ta, iu⟩ := hx.tup
    obtain ⟨vs, tb, iv⟩ := hy.tup
    obtain ⟨cs, pr, e⟩ := nest_pairs (A := A.in1) (s := s) (show A.units + 1 < cLine from hu) iu iv
    rw [← e, Array.length_toList, Array.length_toList] at h
    refine wpAny_richCompare_same_room (op := .Eq) hx.typeIs hy.typeIs F.slot_tuple_eq (wpAny_call_entry F.slot_tuple_eq hx.typeIs F.entry_tuple_eq ?_ (F.args_tuple_eq_2 _ _)) (by omega)
    exact tuple_equal ta tb pr ⟨_, rfl, (fun e => nomatch e), wpAny_truthy_bool h⟩
theorem nest_quiet {kss : List (List K)} {a : Addr} {Q : Bool → Shared → Prop} (hk : IsNest knd s.heap kss a) (h : Q true s) : wpAny (model prog w) A (eqIsQuiet 8 (.ref a)) Q E s := by
  obtain ⟨its, t, i⟩ := hk.tup
  refine tuple_quiet (n := 7) t ?_ h
  clear t h hk
  generalize its.toList = vs at i
  induction i with
  | nil => exact fun v m => nomatch m
  | cons q _ ih =>
    intro v m R hR
    rcases List.mem_cons.mp m with rfl | m
    · obtain ⟨its', t', i'⟩ := key_tup q
      exact tuple_quiet (n := 6) t' (fun v m R hR => by rw [eqIsQuiet_byValue _ (i'.byValue v m)]; exact wpAny_pure hR) hR
    · exact ih v m R hR
end
def nestKind {prog : Program} {w : World} {K : Type} [DecidableEq K] (knd : PySem.KeyKind prog w K) : HeapKind prog w (List (List K)) where
  is := IsNest knd
  hash := nestHash knd
  draws := fun kss => drawsBy (nestPairs knd kss) + 1
  room := fun A => A.units + 1 < cLine
  inj := fun hx hy => hx.inj hy
  keeps := fun x ho hd hs => x.keeps ho hd hs
  pyHash := fun hu hk h => nest_hash hu hk h
  eqBool := fun hu hx hy h => nest_eq hu hx hy h
  quiet := fun hk h => nest_quiet hk h
end LL

set_option Elab.async false
set_option linter.all false
set_option maxRecDepth 100000
set_option maxHeartbeats 4000000
namespace LL
open PySem PySem.Spec PyProof.Rows L2
abbrev NKey := List (List Key)
/-- key, the key's object, the value's object -/
abbrev NRow := NKey × Addr × Addr
def nrow (x : NRow) : NKey × Addr × Value := (x.1, x.2.1, .ref x.2.2)
def dN (P : Program) (w : World) (d : Addr) (xs : List NRow) : HO := .ext fun h => (d == sysModules) = false ∧ ∃ o es ep, h.get? d = some o ∧ o.ExactDict ∧ o.data = .dict es ep ∧ es.toList = (xs.map nrow).map (entryOfKey (nestKind (mixKind P w))) ∧ (xs.map (·.1)).Nodup
def NKeyAt (H : Hp) (kss : NKey) (a : Addr) : Prop := ∃ bs : List Addr, H a = some (.tup (bs.map V.ref)) ∧ Paired (fun (b : Addr) (ks : List Key) => H b = some (.tup (ks.map kV))) bs kss
def lookN (xs : List NRow) (k : NKey) : Option Addr := (xs.find? fun x => decide (x.1 = k)).map (·.2.2)
def putN (xs : List NRow) (k : NKey) (a v : Addr) : List NRow := if (lookN xs k).isSome = true then xs.map (fun x => if x.1 = k then (x.1, x.2.1, v) else x) else xs ++ [(k, a, v)]
theorem atKey_look (xs : List NRow) (k : NKey) : (atKey (xs.map nrow) k).map (·.2) = (lookN xs k).map Value.ref := by
  unfold atKey lookN
  induction xs with
  | nil => rfl
  | cons x xs ih =>
    rw [List.map_cons, List.find?_cons, List.find?_cons]
    by_cases h : x.1 = k
    · have : decide ((nrow x).1 = k) = true := decide_eq_true h
      rw [this, decide_eq_true h]
      rfl
    · have : decide ((nrow x).1 = k) = false := decide_eq_false h
      rw [this, decide_eq_false h]
      exact ih
theorem stored_put (xs : List NRow) (k : NKey) (a v : Addr) : storedH (xs.map nrow) k a (.ref v) = (putN xs k a v).map nrow := by
  have e : (atKey (xs.map nrow) k).isSome = (lookN xs k).isSome := by
    have := congrArg Option.isSome (atKey_look xs k)
    simpa using this
  unfold storedH putN
  rw [e]
  by_cases h : (lookN xs k).isSome = true
  · rw [if_pos h, if_pos h, List.map_map, List.map_map]
    refine List.map_congr_left fun x _ => ?_
    show putAt k (.ref v) (nrow x) = nrow (if x.1 = k then (x.1, x.2.1, v) else x)
    unfold putAt
    by_cases hx : x.1 = k
    · rw [if_pos (show (nrow x).1 = k from hx), if_pos hx]; rfl
    · rw [if_neg (show ¬ (nrow x).1 = k from hx), if_neg hx]
  · rw [if_neg h, if_neg h, List.map_append]; rfl
theorem putN_len (xs : List NRow) (k : NKey) (a v : Addr) : (putN xs k a v).length ≤ xs.length + 1 := by
  unfold putN
  split
  · rw [List.length_map]; omega
  · rw [List.length_append]; exact Nat.le_refl _
section
variable {P : Program} {w : World} {H : Hp} {h : Heap}
theorem nkey_of {kss : NKey} {a : Addr} (ok : HOk P w H h) (e : NKeyAt H kss a) : IsNest (mixKind P w) h kss a := by
  obtain ⟨bs, ea, pr⟩ := e
  obtain ⟨z0, its, r, o, h1, h2, n, h3⟩ := (show ObjOk P w H h a (.tup (bs.map V.ref)) from ok a _ ea)
  refine ⟨o, its.toArray, n, h1, h2, h3, ?_⟩
  show NItems (mixKind P w) h kss its
  clear ea h1 h2 h3 z0
  induction pr generalizing its with
  | nil => cases r; exact .nil
  | cons h0 _ ih =>
    cases r with
    | cons r0 r' =>
      cases r0
      exact .cons (key_of ok h0) (ih _ r')
theorem dn_of {d : Addr} {xs : List NRow} (ok : HOk P w H h) (e : H d = some (dN P w d xs)) (hk : ∀ x ∈ xs, NKeyAt H x.1 x.2.1) : (d == sysModules) = false ∧ h.DictOfH (nestKind (mixKind P w)) d (xs.map nrow) := by
  obtain ⟨⟨h0, o, es, ep, h1, h2, h3, h4, h5⟩, _, _⟩ := (show ObjOk P w H h d (dN P w d xs) from ok d _ e)
  refine ⟨h0, o, es, ep, h1, h2, h3, h4, fun x hx => ?_, ?_⟩
  · obtain ⟨y, hy, rfl⟩ := List.mem_map.mp hx
    exact nkey_of ok (hk y hy)
  · rw [List.map_map]; exact h5
theorem dn_ok {H' : Hp} {h' : Heap} {d : Addr} {xs : List NRow} (h0 : (d == sysModules) = false) (hd : h'.DictOfH (nestKind (mixKind P w)) d (xs.map nrow)) : ObjOk P w H' h' d (dN P w d xs) := by
  obtain ⟨o, es, ep, h1, h2, h3, h4, _, h5⟩ := hd
  rw [List.map_map] at h5
  refine ⟨⟨h0, o, es, ep, h1, h2, h3, h4, h5⟩, ⟨o, h1⟩, ?_⟩
  rintro a b ⟨h0, o, es, ep, h1, h2, h3, h4, h5⟩ k
  exact ⟨h0, o, es, ep, k o h1, h2, h3, h4, h5⟩
end
/-- the dict at d, its rows, their keys -/
structure DictN (P : Program) (w : World) (H : Hp) (d : Addr) (xs : List NRow) : Prop where
  at_ : H d = some (dN P w d xs)
  keys : ∀ x ∈ xs, NKeyAt H x.1 x.2.1
section
variable {X : Cx} {o i value : Expr} {pos pos' tpos : Pos} {td ty tv : TE}
def tNNew (P : Program) (w : World) : TE := fun _ H Q => ∀ d, H d = none → Q (.ref d) (upd H d (dN P w d []))
theorem pe_nnew : PE X (.Dict [] [] pos) (tNNew X.prog X.w) := fun pins s σ H Q I h =>
  wpAny_Dict_empty ⟨.ref s.heap.objs.size, _, I.laid (a := s.heap.objs.size) (o := dN X.prog X.w s.heap.objs.size []) (t' := s.toks) (fun _ _ q => Heap.get?_push_of_some _ q) (Nat.le_refl _)
    (dn_ok (beq_eq_false_iff_ne.mpr (Ne.symm (Nat.ne_of_lt I.big))) (Heap.DictOfH.new s.heap)), rfl, h _ (I.hok.fresh (Nat.le_refl _))⟩
def tNGet (P : Program) (w : World) (td ty : TE) : TE := fun σ H Q => td σ H fun x H1 => ty σ H1 fun y H2 => ∃ (d b c : Addr) (xs : List NRow) (k : NKey), x = .ref d ∧ y = .ref b ∧ DictN P w H2 d xs ∧ NKeyAt H2 k b ∧ lookN xs k = some c ∧ Q (.ref c) H2
def tNNotIn (P : Program) (w : World) (ty td : TE) : TE := fun σ H Q => ty σ H fun y H1 => td σ H1 fun x H2 => ∃ (d b : Addr) (xs : List NRow) (k : NKey), x = .ref d ∧ y = .ref b ∧ DictN P w H2 d xs ∧ NKeyAt H2 k b ∧ Q (.bl (!(lookN xs k).isSome)) H2
def sNPut (P : Program) (w : World) (td ty tv : TE) : TS := fun D σ H => tv σ H fun v H1 => td σ H1 fun x H2 => ty σ H2 fun y H3 => ∃ (d b c : Addr) (xs : List NRow) (k : NKey), x = .ref d ∧ y = .ref b ∧ v = .ref c ∧ DictN P w H3 d xs ∧ NKeyAt H3 k b ∧ xs.length ≤ sizeLine ∧ D.nx σ (upd H3 d (dN P w d (putN xs k b c)))
theorem pe_nget (hu : X.A.units + 2 < cLine) (ho : PE X o td) (hi : PE X i ty) (hs : NoSl i) : PE X (.Subscript o i pos) (tNGet X.prog X.w td ty) := by
  intro pins s σ H Q I h
  refine subD_of PySem.F.slot_dict_getitem.lookup hs (thn (ho pins s σ H _ I h) fun u s1 ⟨x, H1, I1, rx, q1⟩ => thn (hi pins s1 σ H1 _ I1 q1) fun iv s2 ⟨y, H2, I2, ry, d, b, c, xs, k, ex, ey, g, kb, lk, q2⟩ => ?_)
  subst ex ey
  obtain rfl : u = Value.ref d := rx
  obtain rfl : iv = Value.ref b := ry
  obtain ⟨h0, dd⟩ := dn_of I2.hok g.at_ g.keys
  have e := atKey_look xs k
  rw [lk] at e
  obtain ⟨p, hp, hp2⟩ := Option.map_eq_some_iff.mp e
  refine ⟨dd.typeIs, wpAny_getItem_heap (knd := nestKind (mixKind X.prog X.w)) (show X.A.units + 1 + 1 < cLine from hu) (nkey_of I2.hok kb) dd hp ?_⟩
  rw [hp2]
  exact ⟨.ref c, H2, I2.tok _, rfl, q2⟩
theorem pc_nnotin (hu : X.A.units + 2 < cLine) (hi : PE X i ty) (ho : PE X o td) : PC X .NotIn i o (tNNotIn X.prog X.w ty td) := by
  intro pins s σ H Q I h
  refine thn (hi pins s σ H _ I h) fun iv s1 ⟨y, H1, I1, ry, q1⟩ => thn (ho pins s1 σ H1 _ I1 q1) fun u s2 ⟨x, H2, I2, rx, d, b, xs, k, ex, ey, g, kb, q2⟩ => ?_
  subst ex ey
  obtain rfl : u = Value.ref d := rx
  obtain rfl : iv = Value.ref b := ry
  obtain ⟨h0, dd⟩ := dn_of I2.hok g.at_ g.keys
  refine wpAny_notIn_heap (knd := nestKind (mixKind X.prog X.w)) (show X.A.units + 1 + 1 < cLine from hu) (nkey_of I2.hok kb) h0 dd ?_
  have e : (atKey (xs.map nrow) k).isSome = (lookN xs k).isSome := by
    have := congrArg Option.isSome (atKey_look xs k)
    simpa using this
  rw [e]
  exact ⟨.bl _, H2, I2.tok _, rfl, q2⟩
theorem ps_nput (hu : X.A.units + 2 < cLine) (ho : PE X o td) (hi : PE X i ty) (hv : PE X value tv) (hs : swapsWith value (some (.Subscript o i pos')) pos.line X.env = pure false) :
    PS X (.Assign [.Subscript o i pos'] value pos) (sNPut X.prog X.w td ty tv) := by
  intro pins s σ H D I h
  refine wpAny_Assign_Subscript (thn (hv pins s σ H _ I h) fun r s1 ⟨v, H1, I1, rv, q1⟩ => thn (ho pins s1 σ H1 _ I1 q1) fun u s2 ⟨x, H2, I2, rx, q2⟩ => thn (hi pins s2 σ H2 _ I2 q2) fun iv s3 ⟨y, H3, I3, ry, d, b, c, xs, k, ex, ey, ev, g, kb, hl, q3⟩ => ?_) hs
  subst ex ey ev
  obtain rfl : u = Value.ref d := rx
  obtain rfl : iv = Value.ref b := ry
  obtain rfl : r = Value.ref c := rv
  obtain ⟨h0, dd⟩ := dn_of I3.hok g.at_ g.keys
  refine wpAny_setItem_heap (knd := nestKind (mixKind X.prog X.w)) (hsz := by rw [List.length_map]; exact hl) (show X.A.units + 1 + 1 < cLine from hu) (nkey_of I3.hok kb) dd fun h' dd' hs' => ?_
  rw [stored_put] at dd'
  have he : ∃ q, h'.get? d = some q := let ⟨q, _, _, hq, _⟩ := dd'; ⟨q, hq⟩
  exact ⟨σ, _, d_write I3 (by rw [g.at_]; exact True.intro) hs' he (dn_ok h0 dd'), q3⟩
end
end LL

set_option Elab.async false
set_option linter.all false
set_option maxRecDepth 100000
set_option maxHeartbeats 4000000
/-! list(d.values()) by the dict's entries -/
namespace LL
open PySem PySem.Spec PyProof.Rows L2
/-- the object of d.values(), and the one that walks it -/
abbrev ValsObj (d : Addr) : Obj := { cls := .type "dict_values", data := .fields #[.ref d] }
abbrev ValsAt (d : Addr) (i n ep : Nat) : Obj := { cls := .type "dict_valueiterator", data := .fields #[.ref d, .int i 0, .int n 0, .int ep 0] }
section
variable {prog : Program} {w : World} {A : Around} {E : Value → Shared → Prop} {s : Shared}
structure DictRaw (h : Heap) (d : Addr) (es : Array DictEntry) (ep : Nat) : Prop where
  ex : ∃ o, h.get? d = some o ∧ o.cls = .type "dict" ∧ o.data = .dict es ep
theorem DictRaw.at {h h' : Heap} {d : Addr} {es : Array DictEntry} {ep : Nat} (x : DictRaw h d es ep) (k : ∀ o, h.get? d = some o → h'.get? d = some o) : DictRaw h' d es ep := let ⟨o, ho, r⟩ := x.ex; ⟨o, k o ho, r⟩
/-- d.values(): one new object that points at d -/
theorem meets_values (prog : Program) (w : World) (d : Addr) (hd : (d == sysModules) = false) :
    MeetsIn prog w (Builtin.«dict.values» ⟨[.ref d], []⟩) (fun _ R s => s.TypeIs (.ref d) "dict" ∧ R (.ok (.ret (.ref s.heap.objs.size))) { s with heap := s.heap.push (ValsObj d) }) := by
  refine .of_wp fun A R s ⟨td, fin⟩ => wpAny_bind ?_
  unfold Builtin.Dict.noArgs
  refine wpAny_bind (wpAny_notOrdered_dict td (wpAny_pure ?_))
  have all : Builtin.Dict.showsAll d = pure () := by unfold Builtin.Dict.showsAll; rw [hd]; rfl
  show wpAny _ _ (Builtin.Dict.showsAll d >>= _) _ _ _
  rw [all]
  exact wpAny_bind (wpAny_pure (wpAny_bind (wpAny_newObj_type (wpAny_pure ⟨_, rfl, fin⟩))))
theorem vals_keyless : Builtin.Dict_items.ownsTuple "dict_valueiterator" = false := by decide
/-- its walk begins: before the first entry, by the size and the epoch of now -/
theorem vals_iter {v d : Addr} {es : Array DictEntry} {ep : Nat} {Q : Value → Shared → Prop} (V : s.heap.IsValuesView v d) (M : DictRaw s.heap d es ep)
    (next : Q (.ref s.heap.objs.size) { s with heap := s.heap.push (ValsAt d 0 es.size ep) }) : wpAny (model prog w) A (pyIter (.ref v)) Q E s := by
  have ⟨_, gv, _, fv⟩ := V
  have ⟨_, gm, _, fm⟩ := M.ex
  refine wpAny_pyIter_slot V.typeIs F.slot_dict_values_iter (wpAny_call_entry F.slot_dict_values_iter V.typeIs F.entry_dict_values_iter ?_ (F.args_dict_values_iter_1 _))
  unfold Builtin.«dict_values.__iter__» Builtin.Dict_items.dictOf Builtin.Dict_items.newIterator
  refine wpAny_bind (wpAny_pure (wpAny_bind (wpAny_bind (wpAny_field gv fv (x := .ref d) rfl (wpAny_pure ?_)))))
  refine wpAny_bind (wpAny_bind (wpAny_dictEntries gm fm (wpAny_bind (wpAny_dictEpoch gm fm ?_))))
  simp only [vals_keyless, Bool.false_eq_true, if_false]
  exact wpAny_newObj_type (wpAny_pure ⟨_, rfl, "dict_valueiterator", _, ⟨_, Heap.get?_push_size _ rfl, rfl⟩, F.slot_dict_valueiterator_next.lookup, by simpa [rawInt, ValsAt] using next⟩)
/-- a step of the walk, whether an entry is left or not -/
theorem vals_step {it d : Addr} {i ep : Nat} {es : Array DictEntry} {Q : Option Value → Shared → Prop} (calm : A.handled = none) (J : s.heap.IsValIter it d i es.size ep) (M : DictRaw s.heap d es ep)
    (more : ∀ (lt : i < es.size) h', h'.IsValIter it d (i + 1) es.size ep → Heap.SameBut it s.heap h' → Q (some es[i].val) { s with heap := h' })
    (over : es.size ≤ i → ∀ h', Heap.ExtBut it s.heap h' → Q none { s with heap := h' }) : wpAny (model prog w) A (pyNext (.ref it)) Q E s := by
  have ⟨_, gi, ci, fi⟩ := J
  have ⟨_, gm, _, fm⟩ := M.ex
  have T := J.typeIs
  have here : (Value.ref d == Value.none) = false := rfl
  have up : ¬ (i : Int) < 0 := by omega
  unfold pyNext
  refine wpAny_bind (wpAny_attempt (wpAny_callSpecial?_slot (name := Str.ofString "__next__") T F.slot_dict_valueiterator_next (wpAny_call_entry F.slot_dict_valueiterator_next T F.entry_dict_valueiterator_next ?_ (F.args_dict_valueiterator_next_1 _))))
  refine wpAny_bind (wpAny_pure (wpAny_bind (wpAny_bind (wpAny_bind (wpAny_typeNameOfWhole_valiter T (wpAny_pure (wpAny_bind (wpAny_fieldsOf gi fi ?_))))))))
  simp only [vals_keyless, Bool.false_eq_true, if_false]
  show wpAny _ _ (if (Value.ref d == Value.none) = true then _ else _) _ _ s
  rw [here]
  refine wpAny_bind (wpAny_pure (wpAny_bind (wpAny_dictEntries gm fm ?_)))
  rw [if_neg (by simp)]
  refine wpAny_bind (wpAny_pure (wpAny_bind (wpAny_dictEpoch gm fm ?_)))
  rw [if_neg (by simp)]
  refine wpAny_pure ?_
  simp only [up, if_false, Int.toNat_natCast]
  by_cases lt : i < es.size
  · rw [Array.getElem?_eq_getElem lt]
    refine wpAny_bind (wpAny_bind (wpAny_typeNameOfWhole_valiter T (wpAny_pure (wpAny_bind (wpAny_isOneOf_valiter T ?_)))))
    simp only [vals_keyless, Bool.false_eq_true, if_false, Nat.zero_add]
    refine wpAny_bind (wpAny_setField gi fi (by simp) ?_)
    have J' : (s.heap.update it (Obj.mapFields (·.setIfInBounds 1 (rawInt ((i : Int) + 1))))).IsValIter it d (i + 1) es.size ep := by
      have fi' := Obj.data_mapFields fi (·.setIfInBounds 1 (rawInt ((i : Int) + 1)))
      exact ⟨_, Heap.get?_update_self _ gi (Obj.isFreed_of_fields fi'), (Obj.cls_mapFields ..).trans ci, by rw [fi']; simp [rawInt]⟩
    have T' := Heap.IsValIter.typeIs (s := { s with heap := _ }) J'
    exact wpAny_bind (wpAny_holding (wpAny_bind (wpAny_isOneOf_valiter T' (wpAny_bind (wpAny_isOneOf_valiter T' (wpAny_pure (wpAny_pure ⟨_, rfl, wpAny_pure (more lt _ J' (Heap.SameBut.update ..))⟩)))))))
  · have ge : es.size ≤ i := Nat.le_of_not_lt lt
    rw [Array.getElem?_eq_none ge]
    refine wpAny_bind (wpAny_bind (wpAny_typeNameOfWhole_valiter T (wpAny_pure ?_)))
    simp only [vals_keyless, Bool.false_eq_true, if_false]
    refine wpAny_bind (wpAny_setField gi fi (by simp) (wpAny_bind ?_))
    simp only [newExc, newTuple]
    refine wpAny_bind (wpAny_newObj_type (wpAny_bind (m := firstArgMember _ _) (wpAny_of_eq (a := Value.none) rfl (wpAny_newObj_type ?_ (by size_fits)))) (by size_fits))
    simp only [raiseNew]
    refine wpAny_bind (wpAny_handled ?_)
    rw [show A.in1.handled = none from calm]
    refine wpAny_bind (wpAny_pure (wpAny_throw (wpAny_bind ?_)))
    exact wpAny_isInstance (T := "StopIteration") (b := true) ⟨_, Heap.get?_push_size _ rfl, rfl⟩ isSubtype_stop (wpAny_pure (over ge _ (((Heap.SameBut.update ..).extBut.push _).push _)))
/-- len() of it is a built-in that is asked in silence -/
theorem vals_len : ∃ id, typeLookup (.type "dict_values") "__len__" = pure (some (.builtin id)) ∧ splitId id = some ("dict_values", "__len__") ∧ id = "dict_values.__len__" :=
  ⟨_, by rw [typeLookup_type, builtinLookup_eq_fast]; kernel_rfl, by decide +kernel, rfl⟩
theorem vals_hint {r : Addr} (T : s.TypeIs (.ref r) "dict_values") {Q : Bool → Shared → Prop} (h : Q false s) : wpAny (model prog w) A (Builtin.List.listLengthHint (.ref r)) Q E s := by
  obtain ⟨id, lk, cut, named⟩ := vals_len
  have sub : isSubtype (.type "dict_values") (.type "dict_values") = pure true := by rw [isSubtype_type]; kernel_rfl
  refine wpAny_bind (wpAny_specialOf T lk ?_)
  wp_delta
  rw [cut]
  refine wpAny_bind (wpAny_isInstance T sub ?_)
  refine wpAny_ite_split (fun no => absurd no (by decide)) fun _ => wpAny_ite_split (fun _ => ?_) fun no => absurd (by rw [named]; decide +kernel) no
  exact wpAny_bind (wpAny_typeOf T (wpAny_pure h))
theorem vals_col {h0 : Heap} {d it S : Addr} {es : Array DictEntry} {ep : Nat} (hh : A.handled = none) (hm : DictRaw h0 d es ep) (hS : h0.objs.size ≤ S) (hI : S < it) :
    Col prog w A it S es.size (fun acc h => Kp h0 h ∧ acc = (es.toList.map (·.val)).take acc.length ∧ h.IsValIter it d acc.length es.size ep) (fun acc h => Kp h0 h ∧ acc = es.toList.map (·.val)) where
  frame := fun acc h h' ⟨k, e, q⟩ kk => ⟨fun b o z => kk b o (ne_new z hS) (k b o z), e, let ⟨o, ho, r⟩ := q; ⟨o, kk it o (Nat.ne_of_gt hI) ho, r⟩⟩
  item := by
    rintro acc s Q E hlt ⟨k, e, q⟩ ⟨oS, hoS⟩ hQ
    refine vals_step hh q (hm.at fun o z => k _ o z) (fun _ h' q' sb => ?_) fun ge => absurd hlt (Nat.not_lt.mpr ge)
    refine hQ _ h' s.toks ⟨fun b o z => (sb.2 b (ne_new z (Nat.le_trans hS (Nat.le_of_lt hI)))).trans (k b o z), ?_, ?_⟩ fun o z => (sb.2 S (Nat.ne_of_lt hI)).trans z
    · rw [List.length_append, List.length_singleton, take_snoc (x := es[acc.length].val) (by simp [hlt]), ← e]
    · rw [List.length_append]; exact q'
  done := by
    rintro acc s Q E hlt ⟨k, e, q⟩ ⟨oS, hoS⟩ hQ
    refine vals_step hh q (hm.at fun o z => k _ o z) (fun lt => absurd lt (by omega)) fun _ h' sb => ?_
    refine hQ h' s.toks ⟨fun b o z => sb b o (ne_new z (Nat.le_trans hS (Nat.le_of_lt hI))) (k b o z), ?_⟩ fun o z => sb S o (Nat.ne_of_lt hI) z
    rw [hlt, List.take_of_length_le (by simp)] at e
    exact e
theorem call_list_vals {r d : Addr} {es : Array DictEntry} {ep : Nat} {Q : Value → Shared → Prop} (hh : A.handled = none) (hv : s.heap.IsValuesView r d) (hm : DictRaw s.heap d es ep) (hn : es.size ≤ sizeLine)
    (h : ∀ h' tk c, Kp s.heap h' → h'.get? s.heap.objs.size = some { cls := .type "list", dict := none, data := .seq (es.toList.map (·.val)).toArray c, slots := #[] } → Q (.ref s.heap.objs.size) { s with heap := h', toks := tk }) :
    wpAny (model prog w) A (call (.type "list") [.ref r]) Q E s := by
  refine call_list_by (fun h' tk => ∃ c, Kp s.heap h' ∧ h'.get? s.heap.objs.size = some { cls := .type "list", dict := none, data := .seq (es.toList.map (·.val)).toArray c, slots := #[] }) (fun h' tk ⟨c, e1, e2⟩ => h h' tk c e1 e2) ?_
  intro R h1 c hS k1 hR
  have hv1 : h1.IsValuesView r d := let ⟨o, ho, x⟩ := hv; ⟨o, k1 _ _ ho, x⟩
  have hm1 : DictRaw h1 d es ep := hm.at fun o e => k1 _ o e
  have rS : r ≠ s.heap.objs.size := by obtain ⟨o, ho, _⟩ := hv; exact ne_new ho (Nat.le_refl _)
  have hT : Shared.TypeIs { s with heap := h1 } (.ref r) "dict_values" := hv1.typeIs (s := { s with heap := h1 })
  unfold Builtin.List.listExtendWith
  refine wpAny_bind (wpAny_typeOf (T := "dict_values") hT ?_)
  have q1 : Builtin.List.listSameRef (.ref s.heap.objs.size) (.ref r) = false := by simp [Builtin.List.listSameRef, rS.symm]
  have q2 : (Value.type "dict_values" == Value.type "list") = false := by decide
  have q3 : (Value.type "dict_values" == Value.type "tuple") = false := by decide
  simp only [q1, q2, q3, Bool.or_false, Bool.false_eq_true, if_false]
  refine wpAny_bind (vals_iter hv1 hm1 ?_)
  have hSl : s.heap.objs.size < h1.objs.size := Heap.lt_size hS
  have col := vals_col (prog := prog) (w := w) (A := A.in1.in1) (it := h1.objs.size) hh hm (Nat.le_refl _) hSl
  have e1 : (h1.push (ValsAt d 0 es.size ep)).IsValIter h1.objs.size d 0 es.size ep := ⟨_, Heap.get?_push_size _ rfl, rfl, rfl⟩
  have k2 : Kp h1 (h1.push (ValsAt d 0 es.size ep)) := fun b o e => Heap.get?_push_of_some _ e
  show wpAny _ _ _ _ _ { s with heap := h1.push (ValsAt d 0 es.size ep) }
  generalize h1.push (ValsAt d 0 es.size ep) = h2 at e1 k2
  have go : ∀ (h3 : Heap) (c3 tk : Nat), (∀ b o, b ≠ s.heap.objs.size → h2.get? b = some o → h3.get? b = some o) → h3.get? s.heap.objs.size = some { cls := .type "list", data := .seq #[] c3 } →
      codeAny (model prog w) A.in1 (.builtin "list.extend.loop" ⟨[.ref s.heap.objs.size, .ref h1.objs.size, .none], []⟩) R { s with heap := h3, toks := tk } := by
    intro h3 c3 tk k3 hS3
    refine col.loop (s := s) (R := R) hn .none (fun acc h' tk' c' hlen hF hS' => ?_) _ [] h3 tk c3 rfl (Nat.zero_le _) ⟨fun b o e => k3 b o (ne_new e (Nat.le_refl _)) (k2 _ _ (k1 _ _ e)), rfl, let ⟨o, ho, r⟩ := e1; ⟨o, k3 _ o (Nat.ne_of_gt hSl) ho, r⟩⟩ hS3
    obtain ⟨q1, q2⟩ := hF
    rw [q2] at hS'
    exact hR h' tk' ⟨c', q1, hS'⟩
  have hS2 := k2 _ _ hS
  have hT2 : Shared.TypeIs { s with heap := h2 } (.ref r) "dict_values" := let ⟨o, ho, hc, _⟩ := hv1; ⟨o, k2 _ _ ho, hc⟩
  refine wpAny_bind (wpAny_holding (vals_hint hT2 ?_))
  refine wpAny_ite_split (fun _ => ?_) (fun _ => wpAny_pure ⟨plainId_quiet PySem.F.plain_extend_loop _, go _ c _ (fun b o _ e => e) hS2⟩)
  refine wpAny_bind (wpAny_rule ?_)
  refine wpAny_bind ?_
  show wpAny _ _ (updateSeq s.heap.objs.size (·.push .none) >>= fun _ => updateSeq s.heap.objs.size (·.pop)) _ _ _
  refine wpAny_bind (wpAny_updateSeq hS2 rfl ?_)
  have hS3 := Heap.get?_update_self (Obj.mapSeq (·.push Value.none)) hS2 rfl
  refine wpAny_updateSeq (hz := by seq_fits) hS3 rfl ?_
  have hS4 := Heap.get?_update_self (Obj.mapSeq (·.pop)) hS3 rfl
  refine wpAny_pure ⟨plainId_quiet PySem.F.plain_extend_loop _, go _ _ _ (fun b o hb e => ?_) hS4⟩
  exact (Heap.get?_update_other _ _ hb.symm).trans ((Heap.get?_update_other _ _ hb.symm).trans e)
end
section
variable {X : Cx} {e : Expr} {td : TE} {p pos apos cpos : Pos}
def tLV (P : Program) (w : World) (td : TE) : TE := fun σ H Q => td σ H fun x H1 => ∃ (d : Addr) (xs : List NRow), x = .ref d ∧ DictN P w H1 d xs ∧ xs.length ≤ sizeLine ∧ ∀ l, H1 l = none → Q (.ref l) (upd H1 l (.lst (xs.map fun x => V.ref x.2.2)))
theorem pe_listvals (hc : X.calm = true) (hg : Gl X "list") (hm : X.mg "list" = none) (he : PE X e td)
    (hbase : attributeBase e "values" X.env (eval e X.env) = eval e X.env := by rfl) (hline : (apos.endLine == cpos.line) = true := by rfl)
    (hs2 : starEach [.Call (.Attribute e "values" apos) [] [] cpos] X.env = (false, eval (.Call (.Attribute e "values" apos) [] [] cpos) X.env) :: starEach [] X.env := by rfl) :
    PE X (.Call (.Name "list" p) [.Call (.Attribute e "values" apos) [] [] cpos] [] pos) (tLV X.prog X.w td) := by
  intro pins s σ H Q I h
  refine wpAny_Call_Name_kw (ld_blt I hg hm (u := .type "list") (by decide +kernel) ?_ (by decide) (by decide))
  refine PyProof.Rows.callWith_type1 ?_ hs2 rfl
  rw [hs2]
  show wpAny _ _ (spliced ((false, eval (.Call (.Attribute e "values" apos) [] [] cpos) X.env) :: backTo pos (starEach [] X.env))) _ _ s
  refine Calls.spliced_cons ?_
  refine wpAny_Call_method (T := "dict") (id := "dict.values") hbase rfl hline F.plainAttrs_dict F.slot_dict_values F.type_dict_values (thn (he pins s σ H _ I h) fun u s1 ⟨x, H1, I1, rx, d, xs, ex, g, hl, q⟩ => ?_)
  subst ex
  obtain rfl : u = Value.ref d := rx
  obtain ⟨h0, dd⟩ := dn_of I1.hok g.at_ g.keys
  obtain ⟨o, es, ep, h1, h2, h3, h4, _, h5⟩ := id dd
  refine ⟨dd.typeIs, (fun b q => by cases q; exact ⟨o, h1, h2.2.1⟩), ?_⟩
  have zs : es.size = xs.length := by rw [← Array.length_toList, h4, List.length_map, List.length_map]
  have ev : es.toList.map (·.val) = xs.map fun x => Value.ref x.2.2 := by
    rw [h4, List.map_map, List.map_map]
    rfl
  have fin : wpAny (model X.prog X.w) X.A (call (.type "list") [.ref s1.heap.objs.size]) (EP X pins σ Q) X.xe { s1 with heap := s1.heap.push (ValsObj d) } := by
    have k1 : Kp s1.heap (s1.heap.push (ValsObj d)) := fun b o e => Heap.get?_push_of_some _ e
    have I2 : Inv X pins σ H1 { s1 with heap := s1.heap.push (ValsObj d) } := I1.kept (t' := s1.toks) k1
    refine call_list_vals (s := { s1 with heap := s1.heap.push (ValsObj d) }) (es := es) (ep := ep) (I1.ok.hd hc) ⟨_, Heap.get?_push_size _ rfl, rfl, rfl⟩ ⟨o, k1 _ _ h1, h2.1, h3⟩ (by omega) fun h' tk c k2 hS => ?_
    rw [ev] at hS
    refine ⟨.ref _, _, I2.laid (t' := tk) (o := .lst (xs.map fun x => V.ref x.2.2)) k2 (Nat.le_refl _) ⟨by rw [List.length_map]; exact hl, _, c, ?_, hS⟩, rfl, q _ (I2.hok.fresh (Nat.le_refl _))⟩
    exact Paired.of_map (F := RelV) (f := fun x : NRow => V.ref x.2.2) (g := fun x : NRow => Value.ref x.2.2) (fun c => (rfl : RelV (.ref c.2.2) (.ref c.2.2))) xs
  show wpAny _ _ (callWith cpos (.builtin "dict.values") [.ref d] [] []) _ X.xe s1
  exact method_meetsIn F.slot_dict_values F.entry_dict_values rfl (PySem.evalArgs_none ⟨rfl, dd.typeIs, F.args_dict_values_1 _, _, meets_values X.prog X.w d h0, dd.typeIs, Calls.spliced_nil fin⟩)
end
end LL

set_option Elab.async false
set_option linter.all false
set_option maxRecDepth 100000
set_option maxHeartbeats 4000000
/-! sorted of a list of pairs -/
namespace LL
open PySem PySem.Spec PyProof.Rows L2
def pairLe (p q : Nat × Nat) : Prop := p.1 < q.1 ∨ (p.1 = q.1 ∧ p.2 ≤ q.2)
section
variable {X : Cx} {pins : List (Addr × Obj)} {σ : St} {H : Hp} {s : Shared} {S : Addr → Prop}
def prOf (H : Hp) (v : Value) : Nat × Nat := match v with
  | .ref t => match H t with
    | some (.tup [.int a, .int b]) => (a.toNat, b.toNat)
    | _ => (0, 0)
  | _ => (0, 0)
def rfOf (v : Value) : V := match v with
  | .ref t => .ref t
  | _ => .non
theorem prOf_at {t : Addr} {p : Nat × Nat} (h : H t = some (.tup (pairV p))) : prOf H (.ref t) = p := by
  show (match H t with | some (.tup [.int a, .int b]) => (a.toNat, b.toNat) | _ => (0, 0)) = p
  rw [h]
  rfl
/-- each value of the list is a pair that S shows -/
def AllP (H : Hp) (S : Addr → Prop) (vs : List Value) : Prop := ∀ v ∈ vs, ∃ t p, v = .ref t ∧ S t ∧ H t = some (.tup (pairV p))
theorem allP_of {us : List V} {its : List Value} {ps : List (Nat × Nat)} (r : Vals us its) (h : Paired (repPair H S) us ps) : AllP H S its ∧ its.map (prOf H) = ps ∧ its.map rfOf = us := by
  induction h generalizing its with
  | nil => cases r; exact ⟨fun v m => (nomatch m), rfl, rfl⟩
  | @cons u p us' ps' h0 _ ih =>
    cases r with
    | @cons _ v _ its' r0 r' =>
    obtain ⟨t, rfl, st, ht⟩ := h0
    cases r0
    obtain ⟨i1, i2, i3⟩ := ih r'
    refine ⟨fun v m => ?_, ?_, ?_⟩
    · rcases List.mem_cons.mp m with rfl | m
      · exact ⟨t, p, rfl, st, ht⟩
      · exact i1 v m
    · rw [List.map_cons, i2, prOf_at ht]
    · rw [List.map_cons, i3]; rfl
theorem AllP.rep : ∀ {vs : List Value}, AllP H S vs → Vals (vs.map rfOf) vs ∧ Paired (repPair H S) (vs.map rfOf) (vs.map (prOf H))
  | [], _ => ⟨.nil, .nil⟩
  | v :: vs, h => by
    obtain ⟨r1, r2⟩ := AllP.rep (vs := vs) fun v m => h v (List.mem_cons_of_mem _ m)
    obtain ⟨t, p, rfl, st, ht⟩ := h v (List.mem_cons_self ..)
    exact ⟨.cons rfl r1, .cons ⟨t, rfl, st, by rw [prOf_at ht]; exact ht⟩ r2⟩
theorem key_pair (I : Inv X pins σ H s) {t : Addr} {p : Nat × Nat} (h : H t = some (.tup (pairV p))) : G.tupKeyC s.heap (fun _ => false) (.ref t) = some [Sum.inl (p.1 : Int), Sum.inl (p.2 : Int)] ∧ ∃ f, TupOf s.heap (fun _ => false) (.ref t) f := by
  obtain ⟨its, r, ⟨o, ho, hc, n, hd⟩, _⟩ := I.tuple (SqT.of (K := X.K) h)
  obtain ⟨u1, u2, rfl, ⟨t1, rfl⟩, ⟨t2, rfl⟩⟩ := vals2 r
  refine ⟨?_, .int p.1 t1, t, o, _, n, rfl, ho, hc, hd, rfl, fun _ => ⟨_, _, rfl⟩, fun z => nomatch z⟩
  have e1 : G.isTupObj s.heap (.ref t) = true := by
    show (match s.heap.get? t with | some o => (match o.cls with | .type n => n == "tuple" | _ => false) | none => false) = true
    rw [ho]
    dsimp only
    rw [hc]
    rfl
  unfold G.tupKeyC
  rw [if_pos e1]
  show (match s.heap.get? t with | some o => (match o.data with | .seq xs _ => tupItems (fun _ => false) 0 xs.toList | _ => none) | none => none) = _
  rw [ho]
  dsimp only
  rw [hd]
  rfl
theorem allP_tups (I : Inv X pins σ H s) : ∀ {vs : List Value}, AllP H S vs → ∃ fs, TupsOf s.heap (fun _ => false) vs fs
  | [], _ => ⟨[], .nil⟩
  | v :: vs, h => by
    obtain ⟨fs, r⟩ := allP_tups I (vs := vs) fun v m => h v (List.mem_cons_of_mem _ m)
    obtain ⟨t, p, rfl, st, ht⟩ := h v (List.mem_cons_self ..)
    obtain ⟨_, f, q⟩ := key_pair I ht
    exact ⟨f :: fs, .cons q r⟩
theorem pairs_le {p q : Nat × Nat} (h : (listOrd itemOrd).kle [Sum.inl (p.1 : Int), Sum.inl (p.2 : Int)] [Sum.inl (q.1 : Int), Sum.inl (q.2 : Int)]) : pairLe p q := by
  have e : lexLt itemOrd [Sum.inl (q.1 : Int), Sum.inl (q.2 : Int)] [Sum.inl (p.1 : Int), Sum.inl (p.2 : Int)] = false := h
  rw [lex_cons, lex_cons] at e
  have e' : (decide ((q.1 : Int) < (p.1 : Int)) || (!decide ((p.1 : Int) < (q.1 : Int)) && (decide ((q.2 : Int) < (p.2 : Int)) || (!decide ((p.2 : Int) < (q.2 : Int)) && false)))) = false := e
  simp at e'
  unfold pairLe
  omega
end
section
variable {X : Cx}
def rSortedP (K : PySem.W.Frag) : List V → Hp → VK → Prop := fun xs H Q => ∃ (a : Addr) (us : List V) (ps : List (Nat × Nat)) (S : Addr → Prop), xs = [.ref a] ∧ SqL K H a us ∧ Paired (repPair H S) us ps ∧
  ∀ (l : Addr) (ws : List V) (qs : List (Nat × Nat)), H l = none → qs.Perm ps → qs.Pairwise pairLe → Paired (repPair H S) ws qs → Q (.ref l) (upd H l (.lst ws))
theorem cr_sortedP : CallR X (.builtin "sorted") (rSortedP X.K) := by
  intro pins s σ H xs us Q I r h
  obtain ⟨a, ws, ps, S, rfl, hq, hp, k⟩ := h
  rw [Vals.ref1 r]
  obtain ⟨its, rv, pl, hz⟩ := I.list hq
  have l1 := rv.length
  obtain ⟨ap, e1, e2⟩ := allP_of rv hp
  obtain ⟨fs, tf⟩ := allP_tups I ap
  have keys : ∀ v, v ∈ its → ∃ l, G.tupKeyC s.heap (fun _ => false) v = some l := fun v m => by
    obtain ⟨t, p, rfl, st, ht⟩ := ap v m
    exact ⟨_, (key_pair I ht).1⟩
  refine G.sorted_tups pl.isList tf keys (by omega) fun st' pm so _ => ?_
  generalize arrOf st' = arr at pm so
  have pml : arr.toList.Perm (pairsOf its).toList := Array.perm_iff_toList_perm.mp pm
  have szs : arr.size = (pairsOf its).size := pm.size_eq
  rw [pairsOf_toList] at pml
  have same : ∀ p ∈ arr.toList, p.1 = p.2 ∧ p.2 ∈ its := fun p m => by
    obtain ⟨q1, q2⟩ := mem_zip_self (pml.mem_iff.mp m)
    exact ⟨q1, q1 ▸ q2⟩
  have m2 : (its.zip its).map (·.2) = its := by
    generalize its = L
    induction L with
    | nil => rfl
    | cons x L ih => rw [List.zip_cons_cons, List.map_cons, ih]
  have po : (arr.toList.map (·.2)).Perm its := by
    have := pml.map (·.2)
    rw [m2] at this
    exact this
  have ao : AllP H S (arr.toList.map (·.2)) := fun v m => ap v (po.mem_iff.mp m)
  obtain ⟨r1, r2⟩ := ao.rep
  have kO : KeysOf (G.tupKindC s.heap (fun _ => false)) arr := fun p m => by
    obtain ⟨q1, q2⟩ := same p m
    obtain ⟨l, hl⟩ := keys _ q2
    exact ⟨l, by rw [q1]; exact hl⟩
  rw [← szs] at so
  have pw := keyLe_of_sorted kO so
  obtain ⟨ep, he⟩ := PyProof.Rows.sortedAll_at s.heap its (arr.map (·.2))
  have hlen : (arr.toList.map (·.2)).length = its.length := po.length_eq
  refine ⟨.ref _, upd H (s.heap.objs.size + 1) (.lst ((arr.toList.map (·.2)).map rfOf)), I.laid (t' := s.toks) (fun _ _ => PyProof.Rows.sortedAll_old) (Nat.le_succ _) ⟨by rw [List.length_map]; omega, arr.toList.map (·.2), ep, r1, ?_⟩, rfl,
    k _ _ _ (I.hok.fresh (Nat.le_succ _)) (by rw [← e1]; exact po.map _) ?_ r2⟩
  · rw [he]
    have ea : arr.map (·.2) = (arr.toList.map (·.2)).toArray := by
      apply Array.ext'
      simp
    rw [ea]
  · rw [List.map_map, List.pairwise_map]
    refine pw.imp_of_mem fun {p q} mp mq hle => ?_
    obtain ⟨p1, p2⟩ := same p mp
    obtain ⟨q1, q2⟩ := same q mq
    obtain ⟨t, x, ex, _, hx⟩ := ap _ p2
    obtain ⟨t', y, ey, _, hy⟩ := ap _ q2
    obtain ⟨ka, kb, e3, e4, h5⟩ := hle
    rw [p1, ex] at e3
    rw [q1, ey] at e4
    have e3 : G.tupKeyC s.heap (fun _ => false) (.ref t) = some ka := e3
    have e4 : G.tupKeyC s.heap (fun _ => false) (.ref t') = some kb := e4
    rw [(key_pair I hx).1] at e3
    rw [(key_pair I hy).1] at e4
    cases e3
    cases e4
    show pairLe (prOf H p.2) (prOf H q.2)
    rw [ex, ey, prOf_at hx, prOf_at hy]
    exact pairs_le h5
end
end LL

set_option Elab.async false
set_option linter.all false
set_option maxRecDepth 100000
set_option maxHeartbeats 4000000
namespace LL
open PySem PySem.Spec PyProof.Rows L2
open Si45 (Lies Leaf waysOf)

def top (i : Nat) : Stmt := PySem.Challenge.pw_looseleaves_s01_answers.main.body.getD i (.Pass ⟨0, 0, 0, 0⟩)
theorem room_lt {k n : Nat} {A : Around} (r : Room k A) (h : n ≤ 200) : A.units + n < cLine := by have := r.un; omega
/-- what the text's top has written: constants, and that the built-in names are Python's own -/
structure Txt (K : PySem.W.Frag) (mg : Str → Option Value) : Prop where
  c_AS_TOLD : ∃ t, mg "AS_TOLD" = some (.int 0 t)
  c_TURNED : ∃ t, mg "TURNED" = some (.int 1 t)
  c_MOST_LEAVES : ∃ t, mg "MOST_LEAVES" = some (.int 6 t)
  c_HIGHEST_WORD : ∃ t, mg "HIGHEST_WORD" = some (.int 9999 t)
  c_BAD_WORD : ∃ t, mg "BAD_WORD" = some (.int (-1) t)
  c_NO_SUCH_LEAF : ∃ t, mg "NO_SUCH_LEAF" = some (.int (-2) t)
  c_NOT_JUST_ONE_WAY : ∃ t, mg "NOT_JUST_ONE_WAY" = some (.int (-4) t)
  c_HEAP_IS_FULL : ∃ t, mg "HEAP_IS_FULL" = some (.int (-5) t)
  c_NO_ROW : ∃ t, mg "NO_ROW" = some (.int (-6) t)
  c_BEGINS : ∃ t, mg "BEGINS" = some (.int 0 t)
  c_LEAF : ∃ t, mg "LEAF" = some (.int 1 t)
  c_DROP : ∃ t, mg "DROP" = some (.int 2 t)
  c_WAYS : ∃ t, mg "WAYS" = some (.int 3 t)
  c_ORDERS : ∃ t, mg "ORDERS" = some (.int 4 t)
  c_FROM_WORD : ∃ t, mg "FROM_WORD" = some (.int 5 t)
  c_RUNS : ∃ t, mg "RUNS" = some (.int 6 t)
  c_SURE : ∃ t, mg "SURE" = some (.int 7 t)
  c_BEHIND : ∃ t, mg "BEHIND" = some (.int 8 t)
  c_SIZES : ∃ a, mg "SIZES" = some (.ref a) ∧ ∀ H, SqT K H a ([0, 4, 1, 1, 0, 1, 0, 0, 2, 0].map V.int)
  b_len : mg "len" = none
  b_range : mg "range" = none
  b_enumerate : mg "enumerate" = none
  b_max : mg "max" = none
  b_min : mg "min" = none
  b_list : mg "list" = none
  b_zip : mg "zip" = none
  b_sorted : mg "sorted" = none
  b_sum : mg "sum" = none
  b_tuple : mg "tuple" = none
theorem pe_con {X : Cx} {x : Str} {i : Int} {pos : Pos} (hm : ∃ t, X.mg x = some (.int i t)) (hg : Gl X x) (hd : (x == ("__debug__" : Str)) = false := by decide) : PE X (.Name x pos) (tC (.int i)) := by
  obtain ⟨t, h⟩ := hm
  exact pe_glob hg h ⟨t, rfl⟩ hd

theorem pe_ref {X : Cx} {x : Str} {a : Addr} {pos : Pos} (hm : X.mg x = some (.ref a)) (hg : Gl X x) (hd : (x == ("__debug__" : Str)) = false := by decide) : PE X (.Name x pos) (tC (.ref a)) := pe_glob hg hm rfl hd
section
variable {P : Program} {w : World} {K : PySem.W.Frag} {mg : Str → Option Value} {base : Heap}

abbrev sWaysOf : Stmt := top 3
theorem sc_ways_of : FnScope ["first", "caught", "second", "caught2", "found"] ["first", "caught", "second", "caught2"] (defScope sWaysOf) := ⟨rfl, rfl, rfl, by decide +kernel, rfl, by decide +kernel, by decide +kernel⟩
def spWaysOf : Sp := fun vs H Q _ => ∃ a b c d : Nat, vs = [.int a, .int b, .int c, .int d] ∧ ∀ H' v, Same H H' → repL repWay H' (fun b => H b = none) v (waysOf 0 ⟨a, b, c, d⟩) → Q v H'
theorem ok_ways_of {f : Addr} {fd : FuncData} (F : Fun K "ways_of" "ways_of" sWaysOf f fd) (T : Txt K mg) : FnOk P w K mg base CX0 1 f fd ["first", "caught", "second", "caught2"] spWaysOf := by
  refine F.ok sc_ways_of (fun vs H Q E h => ?_) (fun cdv A outer s H vs Q E hr h => ?_)
  · obtain ⟨a, b, c, d, rfl, _⟩ := h
    rfl
  · obtain ⟨a, b, c, d, rfl, k⟩ := h
    refine ⟨_, (pss_cons (ps_set (i := 4) sc_ways_of.nd rfl (Or.inl rfl) (pe_lst pa_nil))
      (pss_cons (ps_cut (ps_if (pt_cmpR op_eq (pv 1) (pv 2) (nomark _)) (pss_one (ps_expr (pe_bm PySem.F.plainAttrs_list PySem.F.slot_list_append PySem.F.type_list_append mt_append (pv 4) (pa_cons (pe_tup (pa_cons (pe_con T.c_AS_TOLD rfl) (pa_cons (pv 0) (pa_cons (pv 3) pa_nil)))) pa_nil)))) pss_nil))
      (pss_cons (ps_cut (ps_if (pt_cmpR op_eq (pv 3) (pv 0) (nomark _)) (pss_one (ps_expr (pe_bm PySem.F.plainAttrs_list PySem.F.slot_list_append PySem.F.type_list_append mt_append (pv 4) (pa_cons (pe_tup (pa_cons (pe_con T.c_TURNED rfl) (pa_cons (pv 2) (pa_cons (pv 1) pa_nil)))) pa_nil)))) pss_nil))
      (pss_one (ps_ret (pv 4)))))), ?_⟩
    refine ⟨Nat.zero_le _, fun l hl => ?_⟩
    have A0 : Acc repWay H (upd H l (.lst [])) (fun _ => False) l [] := Acc.start (Same.refl H) hl
    -- if caught == second
    refine ⟨fun σ' H' => σ' = [some (.int a), some (.int b), some (.int c), some (.int d), some (.ref l)] ∧ Acc repWay H H' (fun _ => False) l (if b = c then [⟨0, false, a, d⟩] else []),
      ⟨_, rfl, _, rfl, rfl, _, rfl, ?_⟩, ?_⟩
    · refine ifN (fun e => ?_) (fun e => ?_)
      · refine ⟨_, rfl, .inl ⟨rfl, _, SqL.of upd_same⟩, _, rfl, _, rfl, (by show 3 ≤ sizeLine; decide), fun t ht => ?_⟩
        obtain ⟨vs, hv, hl', A1⟩ := A0.pushT ht ⟨0, false, a, d⟩
        refine ⟨l, vs, _, rfl, rfl, hv, (by rw [hl']; decide), rfl, ?_⟩
        rw [if_pos e]
        exact A1
      · rw [if_neg e]
        exact ⟨rfl, A0⟩
    · rintro σ' H1 ⟨rfl, A1⟩
      -- if caught2 == first
      refine ⟨fun σ' H' => σ' = [some (.int a), some (.int b), some (.int c), some (.int d), some (.ref l)] ∧ Acc repWay H H' (fun _ => False) l (waysOf 0 ⟨a, b, c, d⟩),
        ⟨_, rfl, _, rfl, rfl, _, rfl, ?_⟩, ?_⟩
      · refine ifN (fun e => ?_) (fun e => ?_)
        · obtain ⟨us, hu, _⟩ := A1.lst
          refine ⟨_, rfl, .inl ⟨rfl, _, SqL.of hu⟩, _, rfl, _, rfl, (by show 3 ≤ sizeLine; decide), fun t ht => ?_⟩
          obtain ⟨vs, hv, hl', A2⟩ := A1.pushT ht ⟨0, true, c, b⟩
          refine ⟨l, vs, _, rfl, rfl, hv, (by rw [hl']; split <;> simp [sizeLine]), rfl, ?_⟩
          unfold waysOf
          rw [if_pos e]
          exact A2
        · refine ⟨rfl, ?_⟩
          unfold waysOf
          rw [if_neg e, List.append_nil]
          exact A1
      · rintro σ' H2 ⟨rfl, A2⟩
        exact ⟨_, rfl, k H2 _ A2.same (Stb.mono A2.rep fun b _ q => q.elim False.elim id)⟩

/-! ### places_of -/
theorem placesOf_snoc (wss : List (List Lies)) (ws : List Lies) : placesOf (wss ++ [ws]) = placesOf wss ++ ws.map fun w => { w with leaf := wss.length } := by
  unfold placesOf
  rw [List.zipIdx_append, List.flatMap_append]
  simp
/-- few leaves, few ways -/
def Few (wss : List (List Lies)) : Prop := wss.length ≤ 6 ∧ ∀ ws ∈ wss, ws.length ≤ 2
theorem placesOf_len : ∀ {wss : List (List Lies)}, (∀ ws ∈ wss, ws.length ≤ 2) → (placesOf wss).length ≤ 2 * wss.length := by
  intro wss h
  unfold placesOf
  rw [List.length_flatMap]
  have : ∀ (l : List (List Lies)) (k : Nat), (∀ ws ∈ l, ws.length ≤ 2) → ((l.zipIdx k).map fun x => (x.1.map fun w => ({ w with leaf := x.2 } : Lies)).length).sum ≤ 2 * l.length := by
    intro l
    induction l with
    | nil => intro k _; simp
    | cons a l ih =>
      intro k hl
      have h1 := hl a (by simp)
      have h2 := ih (k + 1) fun ws m => hl ws (by simp [m])
      rw [List.zipIdx_cons, List.map_cons, List.sum_cons, List.length_map, List.length_cons]
      dsimp only
      omega
  exact this wss 0 h
abbrev sPlacesOf : Stmt := top 4
theorem sc_places_of : FnScope ["leaves", "places", "number", "found", "way"] ["leaves"] (defScope sPlacesOf) := ⟨rfl, rfl, rfl, by decide +kernel, rfl, by decide +kernel, by decide +kernel⟩
def spPlacesOf : Sp := fun vs H Q _ => ∃ (S : Addr → Prop) (v : V) (wss : List (List Lies)), vs = [v] ∧ repL (repL repWay) H S v wss ∧ Few wss ∧ ∀ H' v', Same H H' → repRow H' (fun b => H b = none) v' (placesOf wss) → Q v' H'
theorem ok_places_of {f : Addr} {fd : FuncData} (F : Fun K "places_of" "places_of" sPlacesOf f fd) (T : Txt K mg) : FnOk P w K mg base CX0 1 f fd ["leaves"] spPlacesOf := by
  refine F.ok sc_places_of (fun vs H Q E h => ?_) (fun cdv A outer s H vs Q E hr h => ?_)
  · obtain ⟨S, v, wss, rfl, _⟩ := h
    rfl
  · obtain ⟨S, v, wss, rfl, ⟨a, us, rfl, sa, ha, hp⟩, few, k⟩ := h
    have hlen := hp.length
    refine ⟨_, (pss_cons (ps_set (i := 1) sc_places_of.nd rfl (Or.inl rfl) (pe_lst pa_nil))
      (pss_cons (ps_for PassesOwn.never rfl (pi_enum rfl T.b_enumerate (pa_cons (pv 0) pa_nil)) (pg_tup rfl (pgs_cons (pg_name (i := 2) sc_places_of.nd rfl (Or.inl rfl)) (pgs_cons (pg_name (i := 3) sc_places_of.nd rfl (Or.inl rfl)) pgs_nil))) (pss_one (ps_for PassesOwn.never rfl (pi_list (pv 3)) (pg_name (i := 4) sc_places_of.nd rfl (Or.inl rfl)) (pss_one (ps_expr (pe_bm PySem.F.plainAttrs_list PySem.F.slot_list_append PySem.F.type_list_append mt_append (pv 1) (pa_cons (pe_tup (pa_cons (pv 2) (pa_cons (pe_ix (r := rIx K) ix_seq (pv 4) pe_int (fun _ _ => rfl)) (pa_cons (pe_ix (r := rIx K) ix_seq (pv 4) pe_int (fun _ _ => rfl)) (pa_cons (pe_ix (r := rIx K) ix_seq (pv 4) pe_int (fun _ _ => rfl)) pa_nil))))) pa_nil)))))))
      (pss_one (ps_ret (pv 1))))), ?_⟩
    refine ⟨Nat.zero_le _, fun l hl => ?_⟩
    have A0 : Acc repPlace H (upd H l (.lst [])) (fun _ => False) l [] := Acc.start (Same.refl H) hl
    refine ⟨_, rfl, a, us, rfl, SqL.of (A0.same _ _ ha), for_enum (K := K) (a := a) (xs := us) (fun i σ H' => ∃ n f w : Option V, σ = [some (.ref a), some (.ref l), n, f, w] ∧ Acc repPlace H H' (fun _ => False) l (placesOf (wss.take i)))
      ⟨none, none, none, rfl, A0⟩ (fun i σ H' _ ⟨_, _, _, _, A1⟩ => SqL.of (A1.same _ _ ha)) ?_ ?_⟩
    · rintro i x tp σ H1 hx ⟨n, f0, w0, rfl, A1⟩ htp
      obtain ⟨ws, hws, fa, fvs, rfl, sf, hf, fp⟩ := Paired.get hp hx
      have A2 := A1.more (same_upd_self (o := .tup [.int (i : Nat), .ref fa]) htp)
      refine ⟨tp, _, rfl, SqT.of upd_same, rfl, _, _, rfl, _, _, rfl, rfl, ?_⟩
      have il : i < wss.length := (List.getElem?_eq_some_iff.mp hws).1
      have wl : ws.length ≤ 2 := few.2 ws (List.mem_of_getElem? hws)
      have pl : (placesOf (wss.take i)).length ≤ 12 := by
        have := placesOf_len (wss := wss.take i) fun ws m => few.2 ws (List.mem_of_mem_take m)
        rw [List.length_take] at this
        have := few.1
        omega
      refine ⟨_, rfl, fa, rfl, ⟨_, SqL.of (A2.same _ _ hf)⟩, for_rep (K := K) (R := repWay) (S := S) (H1 := H) (vs := fvs) (ds := ws)
        (fun pre σ H' => ∃ w : Option V, σ = [some (.ref a), some (.ref l), some (.int (i : Nat)), some (.ref fa), w] ∧ Acc repPlace H H' (fun _ => False) l (placesOf (wss.take i) ++ pre.map fun w => { w with leaf := i }))
        hf fp ⟨w0, rfl, by simpa using A2⟩ (fun pre σ H' ⟨_, _, A3⟩ => A3.same _ _ hf) ?_ ?_⟩
      · rintro pre d post x σ H3 hd ⟨t, rfl, _, ht0⟩ ⟨w1, rfl, A3⟩
        have ht := A3.same _ _ ht0
        obtain ⟨us3, hu3, _⟩ := A3.lst
        refine ⟨_, rfl, .inl ⟨rfl, _, SqL.of hu3⟩, _, rfl, _, rfl, .inr (.inl ⟨t, _, _, _, rfl, rfl, SqT.of ht, rfl, ?_⟩)⟩
        refine ⟨_, rfl, .inr (.inl ⟨t, _, _, _, rfl, rfl, SqT.of ht, rfl, ?_⟩)⟩
        refine ⟨_, rfl, .inr (.inl ⟨t, _, _, _, rfl, rfl, SqT.of ht, rfl, ?_⟩)⟩
        refine ⟨(by show 4 ≤ sizeLine; decide), fun q hq => ?_⟩
        obtain ⟨vs4, hv4, hl4, A4⟩ := A3.pushT hq { d with leaf := i }
        refine ⟨l, vs4, _, rfl, rfl, hv4, ?_, ?_⟩
        · have : pre.length ≤ ws.length := by rw [hd]; simp
          rw [hl4, List.length_append, List.length_map]
          have : sizeLine = 16777216 := rfl
          omega
        · refine ⟨_, rfl, ?_⟩
          rw [List.map_append, ← List.append_assoc]
          exact A4
      · rintro σ H3 ⟨w1, rfl, A3⟩
        refine ⟨_, _, _, rfl, ?_⟩
        rw [take_snoc hws, placesOf_snoc, List.length_take, Nat.min_eq_left (Nat.le_of_lt il)]
        exact A3
    · rintro σ H1 ⟨n, f0, w0, rfl, A1⟩
      rw [hlen, List.take_length] at A1
      exact ⟨_, rfl, k H1 _ A1.same (Stb.mono A1.rep fun b _ q => q.elim False.elim id)⟩

/-! ### numbers_in -/
abbrev sNumbersIn : Stmt := top 5
theorem sc_numbers_in : FnScope ["row", "place"] ["row"] (defScope sNumbersIn) := ⟨rfl, rfl, rfl, by decide +kernel, rfl, by decide +kernel, by decide +kernel⟩
def leavesI (row : List Lies) : List Int := (row.map (·.leaf)).map fun (k : Nat) => (k : Int)
def spNumbersIn : Sp := fun vs H Q _ => ∃ (S : Addr → Prop) (v : V) (row : List Lies), vs = [v] ∧ repRow H S v row ∧ row.length ≤ 1000 ∧ ∀ H' v', Same H H' → repL repI H' (fun b => H b = none) v' (leavesI row) → Q v' H'
theorem ok_numbers_in {f : Addr} {fd : FuncData} (F : Fun K "numbers_in" "numbers_in" sNumbersIn f fd) (T : Txt K mg) : FnOk P w K mg base CX0 1 f fd ["row"] spNumbersIn := by
  refine F.ok sc_numbers_in (fun vs H Q E h => ?_) (fun cdv A outer s H vs Q E hr h => ?_)
  · obtain ⟨S, v, row, rfl, _⟩ := h
    rfl
  · obtain ⟨S, _, row, rfl, ⟨a, us, rfl, sa, ha, hp⟩, hrow, k⟩ := h
    have big : sizeLine = 16777216 := rfl
    refine ⟨_, (pss_one (ps_ret (pe_lc (own := [("place", 1)]) rfl sc_numbers_in.nd (pi_list (pv 0)) (blkOk_by rfl) (fun _ _ _ _ _ => (pg_name (i := 1) sc_numbers_in.nd rfl (Or.inl rfl))) (fun _ _ _ _ _ => pts_nil) (fun _ _ _ _ _ => (pe_ix (r := rIx K) ix_seq (pv 1) pe_int (fun _ _ => rfl)))))), ?_⟩
    refine ⟨_, rfl, a, rfl, ⟨_, SqL.of ha⟩, fun D hD => ?_⟩
    refine lc_rep (K := K) (R := repPlace) (S := S) (H0 := H) (vs := us) (ds := row) (fun pre H' => Acc repI H H' (fun _ => False) D (leavesI pre)) hp (Acc.start (Same.refl H) hD) (fun pre H' A1 => A1.same _ _ ha) ?_ ?_
    · rintro pre d post x H1 hd ⟨t, rfl, st, ht0⟩ A1
      have ht := A1.same _ _ ht0
      obtain ⟨acc, hacc, _⟩ := A1.lst
      refine ⟨rfl, _, rfl, .inr (.inl ⟨t, _, _, _, rfl, rfl, SqT.of ht, rfl, ?_⟩)⟩
      refine ⟨acc, hacc, ?_, ?_⟩
      · have : pre.length ≤ row.length := by rw [hd]; simp
        rw [A1.len hacc]
        unfold leavesI
        rw [List.length_map, List.length_map]
        omega
      · unfold leavesI
        rw [List.map_append, List.map_append]
        exact A1.push hacc rfl
    · intro H1 A1
      exact k H1 _ A1.same (Stb.mono A1.rep fun b _ q => q.elim False.elim id)

/-! ### made_longer -/
abbrev sMadeLonger : Stmt := top 6
theorem sc_made_longer : FnScope ["row", "places", "placed", "word", "place"] ["row", "places"] (defScope sMadeLonger) := ⟨rfl, rfl, rfl, by decide +kernel, rfl, by decide +kernel, by decide +kernel⟩
def spMadeLonger : Sp := fun vs H Q _ => ∃ (S : Addr → Prop) (v v2 : V) (row places : List Lies), vs = [v, v2] ∧ repRow H S v row ∧ repRow H S v2 places ∧ row.length ≤ 1000 ∧ places.length ≤ 1000 ∧ ∀ H' v', Same H H' → repL repRow H' (Or2 S H) v' (longer row places) → Q v' H'
theorem ok_made_longer {f : Addr} {fd : FuncData} (F : Fun K "made_longer" "made_longer" sMadeLonger f fd) (T : Txt K mg) (c_numbers_in : Cal P w K mg base 1 "numbers_in" ["row"] spNumbersIn) : FnOk P w K mg base CX0 2 f fd ["row", "places"] spMadeLonger := by
  refine F.ok sc_made_longer (fun vs H Q E h => ?_) (fun cdv A outer s H vs Q E hr h => ?_)
  · obtain ⟨S, v, v2, row, places, rfl, _⟩ := h
    rfl
  · obtain ⟨S, _, _, row, places, rfl, ⟨a, us, rfl, sa, ha, hp⟩, ⟨c, ws, rfl, sc, hc, hw⟩, hrow, hpl, k⟩ := h
    have lenr := hp.length
    have lenw := hw.length
    have big : sizeLine = 16777216 := rfl
    refine ⟨_, (pss_cons (ps_if (pt_cmpR op_eq (pe_callB (r := rLen K) call_len_seq rfl T.b_len rfl (pa_cons (pv 0) pa_nil)) pe_int (nomark _)) (pss_one (ps_ret (pe_lc (own := [("place", 4)]) rfl sc_made_longer.nd (pi_list (pv 1)) (blkOk_by rfl) (fun _ _ _ _ _ => (pg_name (i := 4) sc_made_longer.nd rfl (Or.inl rfl))) (fun _ _ _ _ _ => pts_nil) (fun _ _ _ _ _ => (pe_lst (pa_cons (pv 4) pa_nil)))))) pss_nil)
      (pss_cons (ps_set (i := 2) sc_made_longer.nd rfl (Or.inr rfl) (pe_cal c_numbers_in (hr.mono (by decide)) rfl (pa_cons (pv 0) pa_nil)))
      (pss_cons (ps_set (i := 3) sc_made_longer.nd rfl (Or.inr rfl) (pe_ix (r := rIx K) ix_seq (pe_ix (r := rIx K) ix_seq (pv 0) (pe_un un_neg pe_int) (fun _ _ => rfl)) pe_int (fun _ _ => rfl)))
      (pss_one (ps_ret (pe_lc (own := [("place", 4)]) rfl sc_made_longer.nd (pi_list (pv 1)) (blkOk_by rfl) (fun _ _ _ _ _ => (pg_name (i := 4) sc_made_longer.nd rfl (Or.inl rfl))) (fun _ _ _ _ _ => (pts_one (PW.pt (pw_and (pt_cmpR op_eq (pe_ix (r := rIx K) ix_seq (pv 4) pe_int (fun _ _ => rfl)) (pv 3) (nomark _)) (pw_and1 (pt_cmpR (r := rIn K true) op_notIn_seq (pe_ix (r := rIx K) ix_seq (pv 4) pe_int (fun _ _ => rfl)) (pv 2) (by with_unfolding_all rfl))))))) (fun _ _ _ _ _ => (pe_op op_cat (pv 0) (pe_lst (pa_cons (pv 4) pa_nil)))))))))), ?_⟩
    refine ⟨_, rfl, a, us, rfl, .inl (SqL.of ha), rfl, _, rfl, ifI (fun e => ?_) (fun e => ?_)⟩
    · have hn : row = [] := List.eq_nil_of_length_eq_zero (by omega)
      subst hn
      refine ⟨_, rfl, c, rfl, ⟨_, SqL.of hc⟩, fun D hD => ?_⟩
      refine lc_rep (K := K) (R := repPlace) (S := S) (H0 := H) (vs := ws) (ds := places) (fun pre H' => Acc repRow H H' S D (pre.map fun p => [p])) hw (Acc.start (Same.refl H) hD) (fun pre H' A1 => A1.same _ _ hc) ?_ ?_
      · rintro pre d post x H1 hd r A1
        refine ⟨rfl, _, rfl, (by show 1 ≤ sizeLine; decide), fun q hq => ?_⟩
        have A2 := A1.more (same_upd_self (o := .lst [x]) hq)
        obtain ⟨acc, hacc, _⟩ := A2.lst
        refine ⟨acc, hacc, ?_, ?_⟩
        · have : pre.length ≤ places.length := by rw [hd]; simp
          rw [A2.len hacc, List.length_map]
          omega
        · rw [List.map_append]
          exact A2.push hacc ⟨q, [x], rfl, ⟨.inr (A1.fresh hq).1, (A1.fresh hq).2⟩, upd_same, .cons (A2.old r) .nil⟩
      · intro H1 A1
        exact k H1 _ A1.same A1.rep
    · obtain ⟨front, last, hrl⟩ : ∃ front last, row = front ++ [last] := by
        rcases List.eq_nil_or_concat row with h | ⟨fr, la, h⟩
        · subst h; simp at lenr; rw [lenr] at e; simp at e
        · exact ⟨fr, la, by simpa using h⟩
      -- placed = numbers_in(row)
      refine ⟨_, rfl, S, .ref a, row, rfl, ⟨a, us, rfl, sa, ha, hp⟩, hrow, fun H1 v1 s1 r1 => ?_⟩
      · obtain ⟨D, pl, rfl, nD, hpl1, ppl⟩ := r1
        have epl := ints_rep.mp ppl
        subst epl
        -- word = row[-1][3]
        have hp2 := hp
        rw [hrl] at hp2
        obtain ⟨us0, x, hx, t, rfl, st, ht0⟩ := last_of hp2
        have ha1 := s1 _ _ ha
        have ht1 := s1 _ _ ht0
        rw [hx] at ha1
        refine ⟨_, rfl, _, rfl, .inl ⟨a, _, _, _, rfl, rfl, SqL.of ha1, atI_last _ _, ?_⟩⟩
        refine .inr (.inl ⟨t, _, _, _, rfl, rfl, SqT.of ht1, rfl, ?_⟩)
        rw [← hx] at ha1
        -- return [row + [place] for place in places if ..]
        refine ⟨_, rfl, c, rfl, ⟨_, SqL.of (s1 _ _ hc)⟩, fun D2 hD2 => ?_⟩
        refine lc_rep (K := K) (R := repPlace) (S := S) (H0 := H) (vs := ws) (ds := places) (fun pre H' => Same H1 H' ∧ Acc repRow H H' S D2 ((pre.filter fun p => p.from_ == last.to_ && !(row.map (·.leaf)).contains p.leaf).map fun p => row ++ [p])) hw
          ⟨same_upd_self hD2, Acc.start s1 hD2⟩ (fun pre H' A2 => A2.1 _ _ (s1 _ _ hc)) ?_ ?_
        · rintro pre d post x H2 hd r ⟨s12, A2⟩
          have r' := r
          obtain ⟨u, rfl, su, hu0⟩ := r'
          have hu := A2.same _ _ hu0
          have hD' := s12 _ _ hpl1
          refine ⟨rfl, _, rfl, .inr (.inl ⟨u, _, _, _, rfl, rfl, SqT.of hu, rfl, ?_⟩)⟩
          refine ⟨_, rfl, rfl, _, rfl, ifN (fun e1 => ?_) (fun e1 => ?_)⟩
          · refine ⟨_, rfl, .inr (.inl ⟨u, _, _, _, rfl, rfl, SqT.of hu, rfl, ?_⟩)⟩
            refine ⟨_, rfl, D, _, rfl, .inl (SqL.of hD'), rfl, flat_ints _, _, rfl, ?_⟩
            rw [inV_ints]
            unfold leavesI
            rw [contains_cast]
            refine ite2 (fun e2 => ?_) (fun e2 => ?_)
            · refine ⟨_, rfl, _, rfl, (by show 1 ≤ sizeLine; decide), fun q hq => ?_⟩
              have s3 := same_upd_self (o := .lst [.ref u]) hq
              refine ⟨a, q, us, _, rfl, rfl, s3 _ _ (s12 _ _ ha1), upd_same, ?_, fun q2 hq2 => ?_⟩
              · show us.length + 1 ≤ sizeLine
                omega
              · have A3 := A2.more (s3.trans (same_upd_self (o := .lst (us ++ [.ref u])) hq2))
                obtain ⟨acc, hacc, _⟩ := A3.lst
                refine ⟨acc, hacc, ?_, same_chg (s12.trans (s3.trans (same_upd_self hq2))) hD2, ?_⟩
                · have : pre.length ≤ places.length := by rw [hd]; simp
                  have := fm_len (p := fun p : Lies => p.from_ == last.to_ && !(row.map (·.leaf)).contains p.leaf) (f := fun p => row ++ [p]) pre
                  rw [A3.len hacc]
                  omega
                · rw [fm_yes (by rw [e1, beq_self_eq_true, Bool.true_and]; exact e2)]
                  have f2 := A2.fresh (show H2 q2 = none from (upd_none hq2).2)
                  exact A3.push hacc ⟨q2, _, rfl, ⟨.inr f2.1, f2.2⟩, upd_same, Paired.snoc' (A3.oldP hp) (A3.old r)⟩
            · rw [fm_no (by rw [e1, beq_self_eq_true, Bool.true_and]; exact Bool.eq_false_iff.mpr e2)]
              exact ⟨s12, A2⟩
          · rw [fm_no (by rw [beq_eq_false_iff_ne.mpr e1, Bool.false_and])]
            exact ⟨s12, A2⟩
        · rintro H2 ⟨s12, A2⟩
          refine k H2 _ A2.same ?_
          have := A2.rep
          unfold longer
          rw [hrl, List.getLast?_append]
          simp only [List.getLast?_singleton, Option.some_or]
          rw [← hrl]
          exact this

/-! ### orders_of -/
theorem longer_len (row places : List Lies) : (longer row places).length ≤ places.length := by
  unfold longer
  split
  · rw [List.length_map]; exact Nat.le_refl _
  · exact fm_len places
theorem longer_row {row places r : List Lies} (h : r ∈ longer row places) : r.length = row.length + 1 := by
  unfold longer at h
  split at h
  · rename_i e
    have e := List.getLast?_eq_none_iff.mp e
    subst e
    obtain ⟨p, _, rfl⟩ := List.mem_map.mp h
    rfl
  · obtain ⟨p, _, rfl⟩ := List.mem_map.mp h
    simp
theorem grow_len (places : List Lies) : ∀ n, (grow places n).length ≤ places.length ^ n
  | 0 => Nat.le_refl _
  | n + 1 => by
    have h := flatMap_len (f := fun r => longer r places) (k := places.length) (l := grow places n) fun r _ => longer_len r places
    have ih := grow_len places n
    calc (grow places (n + 1)).length ≤ places.length * (grow places n).length := h
      _ ≤ places.length * places.length ^ n := Nat.mul_le_mul_left _ ih
      _ = places.length ^ (n + 1) := by rw [Nat.pow_succ, Nat.mul_comm]
theorem grow_row {places : List Lies} : ∀ {n : Nat} {r : List Lies}, r ∈ grow places n → r.length = n
  | 0, r, h => by
    have : r = [] := by simpa [grow] using h
    subst this; rfl
  | n + 1, r, h => by
    obtain ⟨q, hq, hr⟩ := List.mem_flatMap.mp h
    rw [longer_row hr, grow_row hq]
abbrev sOrdersOf : Stmt := top 7
theorem sc_orders_of : FnScope ["leaves", "places", "orders", "length", "longer", "row"] ["leaves"] (defScope sOrdersOf) := ⟨rfl, rfl, rfl, by decide +kernel, rfl, by decide +kernel, by decide +kernel⟩
def spOrdersOf : Sp := fun vs H Q _ => ∃ (S : Addr → Prop) (v : V) (wss : List (List Lies)), vs = [v] ∧ repL (repL repWay) H S v wss ∧ Few wss ∧ ∀ H' v', Same H H' → repL repRow H' (fun b => H b = none) v' (grow (placesOf wss) wss.length) → Q v' H'
theorem ok_orders_of {f : Addr} {fd : FuncData} (F : Fun K "orders_of" "orders_of" sOrdersOf f fd) (T : Txt K mg) (c_places_of : Cal P w K mg base 1 "places_of" ["leaves"] spPlacesOf) (c_made_longer : Cal P w K mg base 2 "made_longer" ["row", "places"] spMadeLonger) :
    FnOk P w K mg base CX0 3 f fd ["leaves"] spOrdersOf := by
  refine F.ok sc_orders_of (fun vs H Q E h => ?_) (fun cdv A outer s H vs Q E hr h => ?_)
  · obtain ⟨S, v, wss, rfl, _⟩ := h
    rfl
  · obtain ⟨S, v, wss, rfl, hv, few, k⟩ := h
    refine ⟨_, (pss_cons (ps_set (i := 1) sc_orders_of.nd rfl (Or.inl rfl) (pe_cal c_places_of (hr.mono (by decide)) rfl (pa_cons (pv 0) pa_nil)))
      (pss_cons (ps_set (i := 2) sc_orders_of.nd rfl (Or.inl rfl) (pe_lst (pa_cons (pe_lst pa_nil) pa_nil)))
      (pss_cons (ps_for PassesOwn.never rfl (pi_range1 rfl T.b_range (pa_cons (pe_callB (r := rLen K) call_len_seq rfl T.b_len rfl (pa_cons (pv 0) pa_nil)) pa_nil)) (pg_name (i := 3) sc_orders_of.nd rfl (Or.inl rfl)) (pss_cons (ps_set (i := 4) sc_orders_of.nd rfl (Or.inl rfl) (pe_lst pa_nil))
      (pss_cons (ps_for PassesOwn.never rfl (pi_list (pv 2)) (pg_name (i := 5) sc_orders_of.nd rfl (Or.inl rfl)) (pss_one (ps_expr (pe_bm PySem.F.plainAttrs_list PySem.F.slot_list_extend PySem.F.type_list_extend mt_extend (pv 4) (pa_cons (pe_cal c_made_longer (hr.mono (by decide)) rfl (pa_cons (pv 5) (pa_cons (pv 1) pa_nil))) pa_nil)))))
      (pss_one (ps_set (i := 2) sc_orders_of.nd rfl (Or.inl rfl) (pv 4))))))
      (pss_one (ps_ret (pv 2)))))), ?_⟩
    refine ⟨_, rfl, S, v, wss, rfl, hv, few, fun H1 pl s1 rp => ?_⟩
    obtain ⟨a, us, rfl, sa, ha, hp⟩ := hv
    have hlen := hp.length
    have pl12 : (placesOf wss).length ≤ 12 := by
      have := placesOf_len few.2
      have := few.1
      omega
    generalize hpl : placesOf wss = places at rp k pl12
    -- orders = [[]]
    refine ⟨Nat.zero_le _, fun q hq => ?_⟩
    refine ⟨(by show 1 ≤ sizeLine; decide), fun o ho => ?_⟩
    have sq := same_upd_self (o := .lst []) hq
    have so := same_upd_self (o := .lst [.ref q]) ho
    have s2 := s1.trans (sq.trans so)
    have r0 : repL repRow (upd (upd H1 q (.lst [])) o (.lst [.ref q])) (fun b => H b = none) (.ref o) (grow places 0) :=
      ⟨o, [.ref q], rfl, s1.free ((upd_none ho).2), upd_same, .cons ⟨q, [], rfl, s1.free hq, so _ _ upd_same, .nil⟩ .nil⟩
    refine ⟨_, rfl, a, us, rfl, .inl (SqL.of (s2 _ _ ha)), _, rfl, ?_, ?_, for_range (n := us.length) (fun i σ H' => ∃ (o : Addr) (x y z : Option V), σ = [some (.ref a), some pl, some (.ref o), x, y, z] ∧ Same H H' ∧ repRow H' (fun b => H b = none) pl places ∧ repL repRow H' (fun b => H b = none) (.ref o) (grow places i))
      ⟨o, none, none, none, rfl, s2, Stb.same rp (sq.trans so), r0⟩ ?_ ?_⟩
    · have := few.1; omega
    · have := few.1; omega
    · rintro i σ H2 hi ⟨o, x, y, z, rfl, s2, rp2, ro⟩
      -- longer = []
      refine ⟨Nat.zero_le _, fun lg hlg => ?_⟩
      have rp3 := Stb.dom rp2
      obtain ⟨o', vo, eo, so', ho', po⟩ := Stb.dom ro
      obtain rfl : o = o' := by injection eo
      have B0 : Acc repRow H2 (upd H2 lg (.lst [])) (fun b => H b = none ∧ H2 b ≠ none) lg ([] : List (List Lies)) := Acc.start (Same.refl H2) hlg
      have i6 : i < 6 := by have := few.1; omega
      have gl := grow_len places i
      have pw : places.length ^ i ≤ 12 ^ 5 := Nat.le_trans (Nat.pow_le_pow_left pl12 i) (Nat.pow_le_pow_right (by decide) (by omega))
      have big : sizeLine = 16777216 := rfl
      have e125 : 12 ^ 5 = 248832 := rfl
      refine ⟨_, rfl, o, rfl, ⟨_, SqL.of (B0.same _ _ ho')⟩, for_rep (K := K) (R := repRow) (S := fun b => H b = none ∧ H2 b ≠ none) (H1 := H2) (vs := vo) (ds := grow places i)
        (fun pre σ H' => ∃ z : Option V, σ = [some (.ref a), some pl, some (.ref o), some (.int (0 + i)), some (.ref lg), z] ∧ Acc repRow H2 H' (fun b => H b = none ∧ H2 b ≠ none) lg (pre.flatMap fun r => longer r places))
        ho' po ⟨z, rfl, B0⟩ (fun pre σ H' ⟨_, _, B⟩ => B.same _ _ ho') ?_ ?_⟩
      · rintro pre d post x1 σ H3 hd r ⟨z1, rfl, B⟩
        obtain ⟨va, hva, _⟩ := B.lst
        have dl : d.length = i := grow_row (places := places) (by rw [hd]; simp)
        refine ⟨_, rfl, .inl ⟨rfl, _, SqL.of hva⟩, _, rfl, _, rfl, (fun b => H b = none ∧ H2 b ≠ none), x1, pl, d, places, rfl, Stb.same r B.same, Stb.same rp3 B.same, by omega, by omega, fun H4 v4 s4 r4 => ?_⟩
        obtain ⟨b4, zs, rfl, _, h4, p4⟩ := r4
        have B4 := B.more s4
        have lz := p4.length
        have ll := longer_len d places
        refine ⟨lg, b4, va, zs, rfl, rfl, s4 _ _ hva, h4, ?_, ?_⟩
        · have h1 := flatMap_len (f := fun r => longer r places) (k := places.length) (l := pre) fun r _ => longer_len r places
          have h2 : pre.length + 1 ≤ (grow places i).length := by rw [hd]; simp
          rw [B.len hva]
          have h3 : places.length * pre.length ≤ 12 * 248832 := Nat.mul_le_mul pl12 (by omega)
          omega
        · refine ⟨_, rfl, ?_⟩
          rw [List.flatMap_append, List.flatMap_singleton]
          exact B4.pushAll (s4 _ _ hva) (B.viewP (fun b n q => ⟨.inl q, fun e => by rw [e] at q; exact q.2 hlg⟩) p4 s4)
      · rintro σ H3 ⟨z1, rfl, B⟩
        refine ⟨_, rfl, lg, _, _, _, rfl, s2.trans B.same, Stb.same rp2 B.same, ?_⟩
        exact Stb.mono B.rep fun b _ q => q.elim (fun q => q.1) fun q => s2.free q
    · rintro σ H2 ⟨o, x, y, z, rfl, s2, rp2, ro⟩
      rw [hlen] at ro
      exact ⟨_, rfl, k H2 _ s2 ro⟩
end
end LL

set_option Elab.async false
set_option linter.all false
set_option maxRecDepth 100000
set_option maxHeartbeats 4000000
namespace LL
open PySem PySem.Spec PyProof.Rows L2
open Si45 (Lies Leaf waysOf)
section
variable {P : Program} {w : World} {K : PySem.W.Frag} {mg : Str → Option Value} {base : Heap}
theorem flt_yes {α : Type} {p : α → Bool} {pre : List α} {d : α} (h : p d = true) : (pre ++ [d]).filter p = pre.filter p ++ [d] := by
  rw [List.filter_append, List.filter_cons, if_pos h, List.filter_nil]
theorem flt_no {α : Type} {p : α → Bool} {pre : List α} {d : α} (h : p d = false) : (pre ++ [d]).filter p = pre.filter p := by
  rw [List.filter_append, List.filter_cons, if_neg (by rw [h]; decide), List.filter_nil, List.append_nil]

/-! ### orders_from -/
def beginsW (n : Nat) (r : List Lies) : Bool := (r.head?.map fun x => x.from_) == some n
abbrev sOrdersFrom : Stmt := top 8
theorem sc_orders_from : FnScope ["word", "orders", "order"] ["word", "orders"] (defScope sOrdersFrom) := ⟨rfl, rfl, rfl, by decide +kernel, rfl, by decide +kernel, by decide +kernel⟩
def spOrdersFrom : Sp := fun vs H Q _ => ∃ (S : Addr → Prop) (n : Nat) (v : V) (os : List (List Lies)), vs = [.int (n : Nat), v] ∧ repL repRow H S v os ∧ os.length < sizeLine ∧ ∀ H' v', Same H H' → repL repRow H' (Or2 S H) v' (os.filter (beginsW n)) → Q v' H'
theorem ok_orders_from {f : Addr} {fd : FuncData} (F : Fun K "orders_from" "orders_from" sOrdersFrom f fd) (T : Txt K mg) : FnOk P w K mg base CX0 1 f fd ["word", "orders"] spOrdersFrom := by
  refine F.ok sc_orders_from (fun vs H Q E h => ?_) (fun cdv A outer s H vs Q E hr h => ?_)
  · obtain ⟨S, n, v, os, rfl, _⟩ := h
    rfl
  · obtain ⟨S, n, _, os, rfl, ⟨a, us, rfl, sa, ha, hp⟩, hos, k⟩ := h
    refine ⟨_, (pss_one (ps_ret (pe_lc (own := [("order", 2)]) rfl sc_orders_from.nd (pi_list (pv 1)) (blkOk_by rfl) (fun _ _ _ _ _ => (pg_name (i := 2) sc_orders_from.nd rfl (Or.inl rfl))) (fun _ _ _ _ _ => (pts_one (PW.pt (pw_and (pt_cmpR op_gt (pe_callB (r := rLen K) call_len_seq rfl T.b_len rfl (pa_cons (pv 2) pa_nil)) pe_int (nomark _)) (pw_and1 (pt_cmpR op_eq (pe_ix (r := rIx K) ix_seq (pe_ix (r := rIx K) ix_seq (pv 2) pe_int (fun _ _ => rfl)) pe_int (fun _ _ => rfl)) (pv 0) (nomark _))))))) (fun _ _ _ _ _ => (pv 2))))), ?_⟩
    refine ⟨_, rfl, a, rfl, ⟨_, SqL.of ha⟩, fun D hD => ?_⟩
    refine lc_rep (K := K) (R := repRow) (S := S) (H0 := H) (vs := us) (ds := os) (fun pre H' => Acc repRow H H' S D (pre.filter (beginsW n))) hp (Acc.start (Same.refl H) hD) (fun pre H' A1 => A1.same _ _ ha) ?_ ?_
    · rintro pre d post x H1 hd r A1
      have r' := r
      obtain ⟨b, ws, rfl, sb, hb0, pr⟩ := r'
      have hb := A1.same _ _ hb0
      have pl : pre.length < os.length := by rw [hd]; simp
      have fl := List.length_filter_le (beginsW n) pre
      obtain ⟨acc, hacc, _⟩ := A1.lst
      refine ⟨rfl, _, rfl, b, ws, rfl, .inl (SqL.of hb), _, _, rfl, rfl, _, rfl, ifD (fun e => ?_) (fun e => ?_)⟩
      · cases pr with
        | nil => simp at e
        | @cons v0 x0 ws' d' h0 pr' =>
          obtain ⟨t, rfl, st, ht0⟩ := h0
          have ht := A1.same _ _ ht0
          refine ⟨_, rfl, .inl ⟨b, _, _, _, rfl, rfl, SqL.of hb, atI_nat (j := 0) rfl, .inr (.inl ⟨t, _, _, _, rfl, rfl, SqT.of ht, rfl, ?_⟩)⟩⟩
          refine ⟨_, rfl, rfl, _, rfl, ifN (fun e1 => ?_) (fun e1 => ?_)⟩
          · refine ⟨_, rfl, acc, hacc, ?_, ?_⟩
            · rw [A1.len hacc]; omega
            · rw [flt_yes (show beginsW n (x0 :: d') = true by unfold beginsW; rw [← e1]; simp)]
              exact A1.push hacc (A1.old r)
          · rw [flt_no (show beginsW n (x0 :: d') = false by unfold beginsW; simpa using e1)]
            exact A1
      · have : d = [] := by
          cases pr with
          | nil => rfl
          | cons h0 pr' => simp at e
        subst this
        rw [flt_no (show beginsW n [] = false from rfl)]
        exact A1
    · intro H1 A1
      exact k H1 _ A1.same A1.rep

/-! ### neighbours_in -/
/-- the pairs of neighbours of a row -/
def nb (row : List Lies) : List (Nat × Nat) := (row.map (·.leaf)).zip ((row.map (·.leaf)).drop 1)
theorem nb_len (row : List Lies) : (nb row).length ≤ row.length := by
  unfold nb
  rw [List.length_zip, List.length_map]
  omega
theorem zip_int : ∀ ns ms : List Nat, ((ns.map fun (k : Nat) => (k : Int)).map V.int).zip ((ms.map fun (k : Nat) => (k : Int)).map V.int) = (ns.zip ms).map fun p => (V.int (p.1 : Nat), V.int (p.2 : Nat))
  | [], _ => rfl
  | _ :: _, [] => rfl
  | n :: ns, m :: ms => by
    simp only [List.map_cons, List.zip_cons_cons]
    rw [← zip_int ns ms]
theorem pairs_rep {H : Hp} {S : Addr → Prop} : ∀ {ts : List Addr} {ns : List (Nat × Nat)}, (∀ t ∈ ts, S t) → Paired (fun (t : Addr) (q : V × V) => H t = some (.tup [q.1, q.2])) ts (ns.map fun p => (V.int (p.1 : Nat), V.int (p.2 : Nat))) → Paired (repPair H S) (ts.map V.ref) ns
  | [], [], _, _ => .nil
  | t :: ts, n :: ns, hs, .cons h0 r => .cons ⟨t, rfl, hs t (List.mem_cons_self ..), h0⟩ (pairs_rep (fun x m => hs x (List.mem_cons_of_mem _ m)) r)
abbrev sNeighboursIn : Stmt := top 9
theorem sc_neighbours_in : FnScope ["row", "numbers"] ["row"] (defScope sNeighboursIn) := ⟨rfl, rfl, rfl, by decide +kernel, rfl, by decide +kernel, by decide +kernel⟩
def spNeighboursIn : Sp := fun vs H Q _ => ∃ (S : Addr → Prop) (v : V) (row : List Lies), vs = [v] ∧ repRow H S v row ∧ row.length ≤ 1000 ∧ ∀ H' v', Same H H' → repL repPair H' (fun b => H b = none) v' (nb row) → Q v' H'
theorem ok_neighbours_in {f : Addr} {fd : FuncData} (F : Fun K "neighbours_in" "neighbours_in" sNeighboursIn f fd) (T : Txt K mg) (c_numbers_in : Cal P w K mg base 1 "numbers_in" ["row"] spNumbersIn) :
    FnOk P w K mg base CX0 2 f fd ["row"] spNeighboursIn := by
  refine F.ok sc_neighbours_in (fun vs H Q E h => ?_) (fun cdv A outer s H vs Q E hr h => ?_)
  · obtain ⟨S, v, row, rfl, _⟩ := h
    rfl
  · obtain ⟨S, v, row, rfl, hv, hrow, k⟩ := h
    refine ⟨_, (pss_cons (ps_set (i := 1) sc_neighbours_in.nd rfl (Or.inl rfl) (pe_cal c_numbers_in (hr.mono (by decide)) rfl (pa_cons (pv 0) pa_nil)))
      (pss_one (ps_ret (pe_listzip rfl rfl T.b_list rfl T.b_zip (pa_cons (pv 1) (pa_cons (pe_slice (r := rSlL K) sl_list (pv 1) (po_some pe_int) po_none) pa_nil)))))), ?_⟩
    refine ⟨_, rfl, S, v, row, rfl, hv, hrow, fun H1 v1 s1 r1 => ?_⟩
    obtain ⟨a, us, rfl, na, ha, pa⟩ := r1
    have eu := ints_rep.mp pa
    subst eu
    refine ⟨_, rfl, _, rfl, _, rfl, a, _, rfl, SqL.of ha, fun c hc => ?_⟩
    have s2 := same_upd_self (o := .lst (cutV ((leavesI row).map V.int) (some 1) none)) hc
    have ecut : cutV ((leavesI row).map V.int) (some 1) none = ((leavesI row).drop 1).map V.int := by
      unfold cutV
      rw [show (1 : Int) = ((1 : Nat) : Int) from rfl, HT.sIx_nat, HT.sIx_none, List.length_map, ← List.map_drop, ← List.map_take]
      congr 1
      cases hl : leavesI row with
      | nil => rfl
      | cons x r =>
        have e1 : min 1 (x :: r).length = 1 := by simp
        rw [e1, List.take_of_length_le (by simp)]
    refine ⟨a, c, _, _, rfl, SqL.of (s2 _ _ ha), SqL.of upd_same, fun H2 L ts s3 nL nts hL pts => ?_⟩
    have s13 := s1.trans (s2.trans s3)
    have free : ∀ b, upd H1 c (.lst (cutV ((leavesI row).map V.int) (some 1) none)) b = none → H b = none := fun b n => s1.free (s2.free n)
    refine k H2 _ s13 ⟨L, _, rfl, free L nL, hL, ?_⟩
    rw [ecut] at pts
    rw [show (leavesI row).drop 1 = ((row.map (·.leaf)).drop 1).map fun (k : Nat) => (k : Int) from (List.map_drop ..).symm] at pts
    rw [show leavesI row = (row.map (·.leaf)).map fun (k : Nat) => (k : Int) from rfl, zip_int] at pts
    exact pairs_rep (fun t m => free t (nts t m).1) pts

/-! ### orders_with -/
abbrev sOrdersWith : Stmt := top 10
theorem sc_orders_with : FnScope ["pair", "orders", "order"] ["pair", "orders"] (defScope sOrdersWith) := ⟨rfl, rfl, rfl, by decide +kernel, rfl, by decide +kernel, by decide +kernel⟩
def withP (q : Nat × Nat) (r : List Lies) : Bool := (nb r).contains q
def spOrdersWith : Sp := fun vs H Q _ => ∃ (S : Addr → Prop) (u v : V) (q : Nat × Nat) (os : List (List Lies)), vs = [u, v] ∧ repPair H S u q ∧ repL repRow H S v os ∧ os.length < sizeLine ∧ (∀ r ∈ os, r.length ≤ 1000) ∧ ∀ H' v', Same H H' → repL repRow H' (Or2 S H) v' (os.filter (withP q)) → Q v' H'
theorem ok_orders_with {f : Addr} {fd : FuncData} (F : Fun K "orders_with" "orders_with" sOrdersWith f fd) (T : Txt K mg) (c_neighbours_in : Cal P w K mg base 2 "neighbours_in" ["row"] spNeighboursIn) :
    FnOk P w K mg base CX0 3 f fd ["pair", "orders"] spOrdersWith := by
  refine F.ok sc_orders_with (fun vs H Q E h => ?_) (fun cdv A outer s H vs Q E hr h => ?_)
  · obtain ⟨S, u, v, q, os, rfl, _⟩ := h
    rfl
  · obtain ⟨S, u, _, q, os, rfl, hq, ⟨a, us, rfl, sa, ha, hp⟩, hos, hrow, k⟩ := h
    refine ⟨_, (pss_one (ps_ret (pe_lc (own := [("order", 2)]) rfl sc_orders_with.nd (pi_list (pv 1)) (blkOk_by rfl) (fun _ _ _ _ _ => (pg_name (i := 2) sc_orders_with.nd rfl (Or.inl rfl))) (fun _ _ _ _ _ => (pts_one (pt_cmpR (r := rInP K) (op_inP (room_lt hr (by decide))) (pv 0) (pe_cal c_neighbours_in (hr.mono (by decide)) rfl (pa_cons (pv 2) pa_nil)) (by with_unfolding_all rfl)))) (fun _ _ _ _ _ => (pv 2))))), ?_⟩
    refine ⟨_, rfl, a, rfl, ⟨_, SqL.of ha⟩, fun D hD => ?_⟩
    refine lc_rep (K := K) (R := repRow) (S := S) (H0 := H) (vs := us) (ds := os) (fun pre H' => Acc repRow H H' S D (pre.filter (withP q))) hp (Acc.start (Same.refl H) hD) (fun pre H' A1 => A1.same _ _ ha) ?_ ?_
    · rintro pre d post x H1 hd r A1
      have pl : pre.length < os.length := by rw [hd]; simp
      have fl := List.length_filter_le (withP q) pre
      refine ⟨rfl, _, rfl, _, rfl, S, x, d, rfl, Stb.same r A1.same, hrow d (by rw [hd]; simp), fun H2 v2 s2 r2 => ?_⟩
      have A2 := A1.more s2
      obtain ⟨acc, hacc, _⟩ := A2.lst
      obtain ⟨b, ws, rfl, _, hb, pb⟩ := r2
      refine ⟨b, ws, nb d, q, S, _, rfl, SqL.of hb, Stb.same hq A2.same, pb, _, rfl, ?_⟩
      cases hw : withP q d with
      | true =>
        rw [show (nb d).contains q = true from hw, if_pos rfl]
        refine ⟨_, rfl, acc, hacc, ?_, ?_⟩
        · rw [A2.len hacc]; omega
        · rw [flt_yes hw]
          exact A2.push hacc (A2.old r)
      | false =>
        rw [show (nb d).contains q = false from hw, if_neg (by decide), flt_no hw]
        exact A2
    · intro H1 A1
      exact k H1 _ A1.same A1.rep

/-! ### sure_pairs -/
/-- the pairs of the first row that stand in all of some rows -/
def inAll (rs : List (List Lies)) (p : Nat × Nat) : Bool := rs.all fun r => (nb r).contains p
def surePre (os : List (List Lies)) : List (Nat × Nat) := match os with
  | [] => []
  | o :: _ => (nb o).filter (inAll os)
abbrev sSurePairs : Stmt := top 11
theorem sc_sure_pairs : FnScope ["orders", "pairs", "order", "beside", "pair"] ["orders"] (defScope sSurePairs) := ⟨rfl, rfl, rfl, by decide +kernel, rfl, by decide +kernel, by decide +kernel⟩
def spSurePairs : Sp := fun vs H Q _ => ∃ (S : Addr → Prop) (v : V) (os : List (List Lies)), vs = [v] ∧ repL repRow H S v os ∧ (∀ r ∈ os, r.length ≤ 1000) ∧ ∀ H' v' qs, Same H H' → qs.Perm (surePre os) → qs.Pairwise pairLe → repL repPair H' (fun b => H b = none) v' qs → Q v' H'
theorem inAll_snoc (pre : List (List Lies)) (d : List Lies) (p : Nat × Nat) : inAll (pre ++ [d]) p = (inAll pre p && (nb d).contains p) := by
  unfold inAll
  rw [List.all_append]
  simp
theorem ok_sure_pairs {f : Addr} {fd : FuncData} (F : Fun K "sure_pairs" "sure_pairs" sSurePairs f fd) (T : Txt K mg) (c_neighbours_in : Cal P w K mg base 2 "neighbours_in" ["row"] spNeighboursIn) :
    FnOk P w K mg base CX0 3 f fd ["orders"] spSurePairs := by
  refine F.ok sc_sure_pairs (fun vs H Q E h => ?_) (fun cdv A outer s H vs Q E hr h => ?_)
  · obtain ⟨S, v, os, rfl, _⟩ := h
    rfl
  · obtain ⟨S, _, os, rfl, ⟨a, us, rfl, sa, ha, hp⟩, hrow, k⟩ := h
    have hlen := hp.length
    have big : sizeLine = 16777216 := rfl
    refine ⟨_, (pss_cons (ps_if (pt_cmpR op_eq (pe_callB (r := rLen K) call_len_seq rfl T.b_len rfl (pa_cons (pv 0) pa_nil)) pe_int (nomark _)) (pss_one (ps_ret (pe_lst pa_nil))) pss_nil)
      (pss_cons (ps_set (i := 1) sc_sure_pairs.nd rfl (Or.inl rfl) (pe_cal c_neighbours_in (hr.mono (by decide)) rfl (pa_cons (pe_ix (r := rIx K) ix_seq (pv 0) pe_int (fun _ _ => rfl)) pa_nil)))
      (pss_cons (ps_for PassesOwn.never rfl (pi_list (pv 0)) (pg_name (i := 2) sc_sure_pairs.nd rfl (Or.inl rfl)) (pss_cons (ps_set (i := 3) sc_sure_pairs.nd rfl (Or.inr rfl) (pe_cal c_neighbours_in (hr.mono (by decide)) rfl (pa_cons (pv 2) pa_nil)))
      (pss_one (ps_setLc (i := 1) (own := [("pair", 4)]) rfl sc_sure_pairs.nd rfl rfl (sw_true rfl rfl rfl rfl) (pi_list (pv 1)) (blkOk_by rfl) (fun _ _ _ _ _ => (pg_name (i := 4) sc_sure_pairs.nd rfl (Or.inl rfl))) (fun _ _ _ _ _ => (pts_one (pt_cmpR (r := rInP K) (op_inP (room_lt hr (by decide))) (pv 4) (pv 3) (by with_unfolding_all rfl)))) (fun _ _ _ _ _ => (pv 4))))))
      (pss_one (ps_ret (pe_callB (r := rSortedP K) cr_sortedP rfl T.b_sorted rfl (pa_cons (pv 1) pa_nil))))))), ?_⟩
    refine ⟨_, rfl, a, us, rfl, .inl (SqL.of ha), rfl, _, rfl, ifI (fun e => ?_) (fun e => ?_)⟩
    · have hn : os = [] := List.eq_nil_of_length_eq_zero (by omega)
      subst hn
      refine ⟨Nat.zero_le _, fun q hq => ?_⟩
      exact k _ _ [] (same_upd_self hq) (.refl _) .nil ⟨q, [], rfl, hq, upd_same, .nil⟩
    · cases os with
      | nil => simp at hlen; rw [hlen] at e; simp at e
      | cons o os =>
      cases hp with
      | @cons u0 _ us' _ h0 hp' =>
      have hp : Paired (repRow H S) (u0 :: us') (o :: os) := .cons h0 hp'
      have ol : o.length ≤ 1000 := hrow o (by simp)
      -- pairs = neighbours_in(orders[0])
      refine ⟨_, rfl, .inl ⟨a, _, _, _, rfl, rfl, SqL.of ha, atI_nat (j := 0) rfl, S, u0, o, rfl, h0, ol, fun H1 v1 s1 r1 => ?_⟩⟩
      obtain ⟨b1, ws1, rfl, n1, hb1, pb1⟩ := r1
      refine ⟨_, rfl, a, rfl, ⟨_, SqL.of (s1 _ _ ha)⟩, for_rep (K := K) (R := repRow) (S := S) (H1 := H) (vs := u0 :: us') (ds := o :: os)
        (fun pre σ H' => ∃ (b : Addr) (y z x : Option V), σ = [some (.ref a), some (.ref b), y, z, x] ∧ Same H H' ∧ repL repPair H' (fun b => H b = none) (.ref b) ((nb o).filter (inAll pre)))
        ha hp ⟨b1, _, _, _, rfl, s1, ?_⟩ (fun pre σ H' ⟨_, _, _, _, _, s2, _⟩ => s2 _ _ ha) ?_ ?_⟩
      · rw [show (nb o).filter (inAll []) = nb o from List.filter_eq_self.mpr fun _ _ => rfl]
        exact ⟨b1, ws1, rfl, n1, hb1, pb1⟩
      · rintro pre d post x σ H2 hd r ⟨b, y, z, x0, rfl, s2, rb⟩
        -- beside = neighbours_in(order)
        refine ⟨_, rfl, S, x, d, rfl, Stb.same r s2, hrow d (by rw [hd]; simp), fun H3 v3 s3 r3 => ?_⟩
        obtain ⟨c, cs, rfl, nc, hc, pc⟩ := r3
        obtain ⟨_, bs, eb, nb0, hb, pb⟩ := Stb.same rb s3
        cases eb
        -- pairs = [pair for pair in pairs if pair in beside]
        refine ⟨_, rfl, b, rfl, ⟨_, SqL.of hb⟩, fun D hD => ?_⟩
        have hDH : H D = none := s2.free (s3.free hD)
        refine lc_rep (K := K) (R := repPair) (S := fun b => H b = none) (H0 := H3) (vs := bs) (ds := (nb o).filter (inAll pre))
          (fun p' H' => Acc repPair H3 H' (fun b => H b = none) D (p'.filter fun q => (nb d).contains q)) pb (Acc.start (Same.refl H3) hD) (fun p' H' A1 => A1.same _ _ hb) ?_ ?_
        · rintro p' q p'' y' H4 hd' rq A1
          have pl : p'.length < ((nb o).filter (inAll pre)).length := by rw [hd']; simp
          have fl := List.length_filter_le (fun q => (nb d).contains q) p'
          have fl2 := List.length_filter_le (inAll pre) (nb o)
          have fl3 := nb_len o
          obtain ⟨acc, hacc, _⟩ := A1.lst
          refine ⟨rfl, _, rfl, _, rfl, c, cs, nb d, q, _, _, rfl, SqL.of (A1.same _ _ hc), Stb.same rq A1.same, Paired.keep (fun b o sb e => ⟨sb, A1.same b o e⟩) pc, _, rfl, ?_⟩
          cases hw : (nb d).contains q with
          | true =>
            rw [if_pos rfl]
            refine ⟨_, rfl, acc, hacc, ?_, ?_⟩
            · rw [A1.len hacc]; omega
            · rw [flt_yes hw]
              exact A1.push hacc (A1.old rq)
          | false =>
            rw [if_neg (by decide), flt_no hw]
            exact A1
        · intro H4 A1
          refine ⟨D, _, _, _, rfl, s2.trans (s3.trans A1.same), ?_⟩
          have e2 : (nb o).filter (inAll (pre ++ [d])) = ((nb o).filter (inAll pre)).filter fun q => (nb d).contains q := by
            rw [List.filter_filter]
            congr 1
            funext p
            rw [inAll_snoc, Bool.and_comm]
          rw [e2]
          exact Stb.mono A1.rep fun b _ q => q.elim id fun q => s2.free (s3.free q)
      · rintro σ H2 ⟨b, y, z, x0, rfl, s2, rb⟩
        obtain ⟨_, bs, eb, nb0, hb, pb⟩ := rb
        cases eb
        refine ⟨_, rfl, b, bs, _, _, rfl, SqL.of hb, pb, fun l ws qs nl pq pw rw' => ?_⟩
        exact k _ _ qs (same_upd s2 nl) pq pw ⟨l, ws, rfl, s2.free nl, upd_same, Paired.keep (fun b o sb e => ⟨sb, same_upd_self nl _ _ e⟩) rw'⟩
end
end LL

set_option linter.all false
namespace LL
open Si45 (Lies Leaf waysOf)
/-! ### rows by their gaps -/
def brk (o : Option Lies) (x : Lies) : Bool := match o with
  | some y => !Si45.follows y x
  | none => false
def gapsFrom : Option Lies → List Lies → Nat
  | _, [] => 0
  | o, x :: r => (if brk o x = true then 1 else 0) + gapsFrom (some x) r
def allRows : Nat → List Lies → List (List Lies)
  | 0, _ => [[]]
  | n + 1, w => w.flatMap fun x => (allRows n (w.filter fun y => y.leaf != x.leaf)).map fun r => x :: r
theorem filter_flatMap {α β : Type} (p : β → Bool) (f : α → List β) : ∀ l : List α, (l.flatMap f).filter p = l.flatMap fun x => (f x).filter p
  | [] => rfl
  | a :: l => by rw [List.flatMap_cons, List.filter_append, filter_flatMap p f l, List.flatMap_cons]
theorem rowsFrom_filter : ∀ (n g : Nat) (o : Option Lies) (w : List Lies), Si45.rowsFrom n g o w = (allRows n w).filter fun r => decide (gapsFrom o r ≤ g)
  | 0, g, o, w => by
    show [[]] = ([[]] : List (List Lies)).filter fun r => decide (gapsFrom o r ≤ g)
    simp [gapsFrom]
  | n + 1, g, o, w => by
    show (w.flatMap fun x => _) = (w.flatMap fun x => _).filter _
    rw [filter_flatMap]
    congr 1
    funext x
    rw [List.filter_map]
    have key : ∀ b : Bool, brk o x = b → (if b = true ∧ g = 0 then [] else (Si45.rowsFrom n (if b = true then g - 1 else g) (some x) (w.filter fun y => y.leaf != x.leaf)).map fun r => x :: r) =
        ((allRows n (w.filter fun y => y.leaf != x.leaf)).filter ((fun r => decide (gapsFrom o r ≤ g)) ∘ fun r => x :: r)).map fun r => x :: r := by
      intro b hb
      have e : ((fun r => decide (gapsFrom o r ≤ g)) ∘ fun r => x :: r) = fun r => decide ((if b = true then 1 else 0) + gapsFrom (some x) r ≤ g) := by
        funext r
        show decide ((if brk o x = true then 1 else 0) + gapsFrom (some x) r ≤ g) = _
        rw [hb]
      rw [e]
      cases b with
      | false =>
        rw [if_neg (by simp), rowsFrom_filter n]
        simp
      | true =>
        by_cases h0 : g = 0
        · rw [if_pos ⟨rfl, h0⟩]
          symm
          rw [List.map_eq_nil_iff, List.filter_eq_nil_iff]
          intro r _
          simp
          omega
        · rw [if_neg (by simp [h0]), rowsFrom_filter n]
          congr 1
          congr 1
          funext r
          simp only [if_true]
          congr 1
          apply propext
          omega
    cases o with
    | none => exact key false rfl
    | some y => exact key (!Si45.follows y x) rfl
theorem allRows_len : ∀ {n : Nat} {w : List Lies} {r : List Lies}, r ∈ allRows n w → r.length = n
  | 0, w, r, h => by
    have : r = [] := by simpa [allRows] using h
    subst this; rfl
  | n + 1, w, r, h => by
    obtain ⟨x, _, hr⟩ := List.mem_flatMap.mp h
    obtain ⟨q, hq, rfl⟩ := List.mem_map.mp hr
    rw [List.length_cons, allRows_len hq]
theorem gaps_le : ∀ (o : Option Lies) (r : List Lies), gapsFrom o r ≤ r.length
  | _, [] => Nat.le_refl _
  | o, x :: r => by
    have := gaps_le (some x) r
    show (if brk o x = true then 1 else 0) + gapsFrom (some x) r ≤ r.length + 1
    split <;> omega
/-- all rows of some leaves -/
def rowsAll (l : List Leaf) : List (List Lies) := allRows l.length (Si45.allWays l)
theorem rows_filter (l : List Leaf) (g : Nat) : Si45.rows l g = (rowsAll l).filter fun r => decide (gapsFrom none r ≤ g) := by
  rw [rows_eq, rowsFrom_filter]; rfl
theorem orders_filter (l : List Leaf) : Si45.orders l = (rowsAll l).filter fun r => decide (gapsFrom none r = 0) := by
  unfold Si45.orders
  rw [rows_filter]
  congr 1
  funext r
  congr 1
  apply propext
  omega
theorem fewest_none {l : List Leaf} (h : rowsAll l = []) : Si45.fewest l = none := by
  unfold Si45.fewest
  rw [List.findSome?_eq_none_iff]
  intro g _
  rw [rows_filter, h]
  rfl
theorem head_filter {α : Type} {p : α → Bool} {pre post : List α} {r : α} (hp : ∀ q ∈ pre, p q = false) (hr : p r = true) : ((pre ++ r :: post).filter p).head? = some r := by
  rw [List.filter_append, List.filter_eq_nil_iff.mpr (fun q hq => by rw [hp q hq]; decide), List.nil_append, List.filter_cons, if_pos hr]
  rfl
/-- the first row with the fewest gaps -/
theorem fewest_some {l : List Leaf} {pre post : List (List Lies)} {r : List Lies} (h : rowsAll l = pre ++ r :: post) (hp : ∀ q ∈ pre, gapsFrom none r < gapsFrom none q) (ha : ∀ q ∈ post, gapsFrom none r ≤ gapsFrom none q) : Si45.fewest l = some (gapsFrom none r, r) := by
  unfold Si45.fewest
  have rl : r.length = l.length := allRows_len (n := l.length) (w := Si45.allWays l) (by show r ∈ rowsAll l; rw [h]; simp)
  have gl : gapsFrom none r < l.length + 1 := by have := gaps_le none r; omega
  have e : List.range (l.length + 1) = List.range (gapsFrom none r) ++ gapsFrom none r :: (List.range' (gapsFrom none r + 1) (l.length - gapsFrom none r)) := by
    rw [List.range_eq_range', List.range_eq_range']
    have : l.length + 1 = gapsFrom none r + (1 + (l.length - gapsFrom none r)) := by omega
    rw [this, ← List.range'_append_1, Nat.add_comm 1, List.range'_succ]
    simp
  rw [e, List.findSome?_append]
  have none1 : (List.range (gapsFrom none r)).findSome? (fun g => (Si45.rows l g).head?.map fun r => (g, r)) = none := by
    rw [List.findSome?_eq_none_iff]
    intro g hg
    have hg := List.mem_range.mp hg
    rw [rows_filter, List.filter_eq_nil_iff.mpr]
    · rfl
    · intro q hq
      rw [h] at hq
      have : gapsFrom none r ≤ gapsFrom none q := by
        rcases List.mem_append.mp hq with m | m
        · exact Nat.le_of_lt (hp q m)
        · rcases List.mem_cons.mp m with rfl | m
          · exact Nat.le_refl _
          · exact ha q m
      simp
      omega
  rw [none1, Option.none_or, List.findSome?_cons, rows_filter, h, head_filter]
  · rfl
  · intro q hq
    have := hp q hq
    simp
    omega
  · simp
end LL

set_option linter.all false
/-! rows with their gaps, grown place by place; one row for each ending is enough -/
namespace LL
open L2
open Si45 (Lies Leaf waysOf)
/-! ### the order -/
theorem lexI_irrefl : ∀ a : List Int, HT.lexLt a a = false
  | [] => rfl
  | x :: a => by rw [HT.lexLt_cons, if_pos rfl]; exact lexI_irrefl a
theorem lexI_trans : ∀ a b c : List Int, HT.lexLt a b = true → HT.lexLt b c = true → HT.lexLt a c = true
  | [], [], _, h, _ => by cases h
  | [], _ :: _, [], _, h => by cases h
  | [], _ :: _, _ :: _, _, _ => rfl
  | _ :: _, [], _, h, _ => by cases h
  | _ :: _, _ :: _, [], _, h => by cases h
  | x :: a, y :: b, z :: c, h1, h2 => by
    rw [HT.lexLt_cons] at h1 h2 ⊢
    by_cases e1 : x = y
    · subst e1
      rw [if_pos rfl] at h1
      by_cases e2 : x = z
      · subst e2
        rw [if_pos rfl] at h2 ⊢
        exact lexI_trans a b c h1 h2
      · rw [if_neg e2] at h2 ⊢
        exact h2
    · rw [if_neg e1] at h1
      have h1 := of_decide_eq_true h1
      by_cases e2 : y = z
      · subst e2
        rw [if_neg e1]
        exact decide_eq_true h1
      · rw [if_neg e2] at h2
        have h2 := of_decide_eq_true h2
        rw [if_neg (by omega)]
        exact decide_eq_true (by omega)
theorem lexI_total : ∀ a b : List Int, HT.lexLt a b = false → HT.lexLt b a = false → a = b
  | [], [], _, _ => rfl
  | [], _ :: _, h, _ => by cases h
  | _ :: _, [], _, h => by cases h
  | x :: a, y :: b, h1, h2 => by
    rw [HT.lexLt_cons] at h1 h2
    by_cases e : x = y
    · subst e
      rw [if_pos rfl] at h1 h2
      rw [lexI_total a b h1 h2]
    · rw [if_neg e] at h1
      rw [if_neg (Ne.symm e)] at h2
      have h1 := of_decide_eq_false h1
      have h2 := of_decide_eq_false h2
      omega
/-- at most -/
def LeI (a b : List Int) : Prop := HT.lexLt b a = false
theorem LeI.trans {a b c : List Int} (h1 : LeI a b) (h2 : LeI b c) : LeI a c := by
  unfold LeI at *
  cases h : HT.lexLt c a with
  | false => rfl
  | true =>
    cases hb : HT.lexLt b a with
    | true => rw [hb] at h1; cases h1
    | false =>
      cases hc : HT.lexLt a b with
      | true => rw [lexI_trans c a b h hc] at h2; cases h2
      | false =>
        rw [lexI_total a b hc hb, h2] at h
        cases h
theorem LeI.of_lt {a b : List Int} (h : HT.lexLt a b = true) : LeI a b := by
  unfold LeI
  cases hb : HT.lexLt b a with
  | false => rfl
  | true =>
    have := lexI_trans a b a h hb
    rw [lexI_irrefl] at this
    cases this
theorem LeI.append : ∀ {a b : List Int} (t : List Int), a.length = b.length → LeI a b → LeI (a ++ t) (b ++ t)
  | [], [], t, _, _ => lexI_irrefl t
  | [], _ :: _, _, h, _ => by simp at h
  | _ :: _, [], _, h, _ => by simp at h
  | x :: a, y :: b, t, hl, h => by
    unfold LeI at *
    rw [HT.lexLt_cons] at h
    rw [List.cons_append, List.cons_append, HT.lexLt_cons]
    by_cases e : y = x
    · rw [if_pos e] at h ⊢
      exact LeI.append t (by simpa using hl) h
    · rw [if_neg e] at h ⊢
      exact h
theorem LeI.shift {g g' : Int} {a b : List Int} (k : Int) (h : LeI (g :: a) (g' :: b)) : LeI ((g + k) :: a) ((g' + k) :: b) := by
  unfold LeI at *
  rw [HT.lexLt_cons] at h ⊢
  by_cases e : g' = g
  · rw [if_pos e] at h
    rw [if_pos (by omega)]
    exact h
  · rw [if_neg e] at h
    rw [if_neg (by omega)]
    have := of_decide_eq_false h
    exact decide_eq_false (by omega)
theorem LeI.tail {g g' : Int} {a b : List Int} (t : List Int) (hl : a.length = b.length) (h : LeI (g :: a) (g' :: b)) : LeI (g :: (a ++ t)) (g' :: (b ++ t)) := by
  have := LeI.append t (by simpa using hl) h
  exact this
def flatC (c : Nat × List Lies) : List Int := (c.1 : Int) :: c.2.flatMap placeI
theorem lex_block : ∀ {a b : List Int} (s t : List Int), a.length = b.length → HT.lexLt (a ++ s) (b ++ t) = if a = b then HT.lexLt s t else HT.lexLt a b
  | [], [], s, t, _ => by rw [if_pos rfl]; rfl
  | [], _ :: _, _, _, h => by simp at h
  | _ :: _, [], _, _, h => by simp at h
  | x :: a, y :: b, s, t, h => by
    rw [List.cons_append, List.cons_append, HT.lexLt_cons, HT.lexLt_cons]
    by_cases e : x = y
    · subst e
      rw [if_pos rfl, if_pos rfl, lex_block s t (by simpa using h)]
      by_cases e2 : a = b
      · rw [if_pos e2, if_pos (by rw [e2])]
      · rw [if_neg e2, if_neg (fun z => e2 (by injection z))]
    · rw [if_neg e, if_neg e, if_neg (fun z => e (by injection z))]
theorem rowLt_flat : ∀ r q : List Lies, rowLt r q = HT.lexLt (r.flatMap placeI) (q.flatMap placeI)
  | [], [] => rfl
  | [], _ :: _ => rfl
  | _ :: _, [] => rfl
  | x :: r, y :: q => by
    show (if x = y then rowLt r q else placeLt x y) = _
    rw [List.flatMap_cons, List.flatMap_cons, lex_block _ _ (by rfl), rowLt_flat r q]
    by_cases e : x = y
    · rw [if_pos e, if_pos (by rw [e])]
    · rw [if_neg e, if_neg (fun z => e (placeI_inj z))]; rfl
theorem cntLt_flat (c d : Nat × List Lies) : cntLt c d = HT.lexLt (flatC c) (flatC d) := by
  unfold cntLt flatC
  rw [HT.lexLt_cons, rowLt_flat]
  by_cases e : c.1 = d.1
  · rw [if_pos e, if_pos (by omega)]
  · rw [if_neg e, if_neg (by omega)]
    exact decide_eq_decide.mpr (by omega)
def LeC (c d : Nat × List Lies) : Prop := cntLt d c = false
theorem LeC.flat {c d : Nat × List Lies} : LeC c d ↔ LeI (flatC c) (flatC d) := by unfold LeC LeI; rw [cntLt_flat]
theorem LeC.trans {a b c : Nat × List Lies} (h1 : LeC a b) (h2 : LeC b c) : LeC a c := LeC.flat.mpr ((LeC.flat.mp h1).trans (LeC.flat.mp h2))
theorem LeC.refl (c : Nat × List Lies) : LeC c c := LeC.flat.mpr (lexI_irrefl _)
theorem LeC.of_lt {c d : Nat × List Lies} (h : cntLt c d = true) : LeC c d := LeC.flat.mpr (LeI.of_lt (by rw [← cntLt_flat]; exact h))
theorem flat_len (r : List Lies) : (r.flatMap placeI).length = 4 * r.length := by
  induction r with
  | nil => rfl
  | cons x r ih => rw [List.flatMap_cons, List.length_append, ih, List.length_cons]; show 4 + _ = _; omega
theorem LeC.ext {c d : Nat × List Lies} (p : Lies) (k : Nat) (hl : c.2.length = d.2.length) (h : LeC c d) : LeC (c.1 + k, c.2 ++ [p]) (d.1 + k, d.2 ++ [p]) := by
  rw [LeC.flat] at *
  unfold flatC at *
  have h1 := LeI.shift (k : Int) (LeI.tail (placeI p) (by rw [flat_len, flat_len, hl]) h)
  have e : ∀ r : List Lies, (r ++ [p]).flatMap placeI = r.flatMap placeI ++ placeI p := fun r => by rw [List.flatMap_append, List.flatMap_singleton]
  show LeI (((c.1 + k : Nat) : Int) :: (c.2 ++ [p]).flatMap placeI) (((d.1 + k : Nat) : Int) :: (d.2 ++ [p]).flatMap placeI)
  rw [e, e, Int.natCast_add, Int.natCast_add]
  exact h1
/-! ### rows that grow, with their gaps -/
def gapN (row : List Lies) (p : Lies) : Nat := if brk row.getLast? p = true then 1 else 0
def eachC (c : Nat × List Lies) (places : List Lies) : List (Nat × List Lies) := (avail places c.2).map fun p => (c.1 + gapN c.2 p, c.2 ++ [p])
def growC (places : List Lies) : Nat → List (Nat × List Lies)
  | 0 => [(0, [])]
  | n + 1 => (growC places n).flatMap fun c => eachC c places
def iterC (places : List Lies) : Nat → List (Nat × List Lies) → List (Nat × List Lies)
  | 0, cs => cs
  | n + 1, cs => iterC places n (cs.flatMap fun c => eachC c places)
theorem iterC_last (places : List Lies) : ∀ n cs, iterC places (n + 1) cs = (iterC places n cs).flatMap fun c => eachC c places
  | 0, cs => rfl
  | n + 1, cs => iterC_last places n _
theorem growC_iter (places : List Lies) : ∀ n, growC places n = iterC places n [(0, [])]
  | 0 => rfl
  | n + 1 => by rw [iterC_last, ← growC_iter places n]; rfl
theorem iterC_each (places : List Lies) : ∀ n cs, iterC places n cs = cs.flatMap fun c => iterC places n [c]
  | 0, cs => by
    show cs = cs.flatMap fun c => [c]
    rw [List.flatMap_singleton']
  | n + 1, cs => by
    show iterC places n (cs.flatMap fun c => eachC c places) = cs.flatMap fun c => iterC places n ([c].flatMap fun c => eachC c places)
    rw [iterC_each places n, List.flatMap_assoc]
    congr 1
    funext c
    rw [List.flatMap_singleton, ← iterC_each places n]
theorem iterC_rows (places : List Lies) : ∀ n (g : Nat) (r : List Lies), iterC places n [(g, r)] = (allRows n (avail places r)).map fun q => (g + gapsFrom r.getLast? q, r ++ q)
  | 0, g, r => by
    show [(g, r)] = [(g + 0, r ++ [])]
    rw [List.append_nil]; rfl
  | n + 1, g, r => by
    show iterC places n ([(g, r)].flatMap fun c => eachC c places) = ((avail places r).flatMap fun x => (allRows n ((avail places r).filter fun y => y.leaf != x.leaf)).map fun q => x :: q).map _
    rw [List.flatMap_singleton, iterC_each, eachC, List.flatMap_map, List.map_flatMap]
    congr 1
    funext x
    rw [iterC_rows places n, avail_snoc, List.map_map]
    congr 1
    funext q
    show (g + gapN r x + gapsFrom (r ++ [x]).getLast? q, r ++ [x] ++ q) = (g + ((if brk r.getLast? x = true then 1 else 0) + gapsFrom (some x) q), r ++ x :: q)
    rw [List.getLast?_append]
    simp only [List.getLast?_singleton, Option.some_or]
    unfold gapN
    rw [Nat.add_assoc, List.append_assoc]
    rfl
theorem growC_rows (places : List Lies) (n : Nat) : growC places n = (allRows n places).map fun q => (gapsFrom none q, q) := by
  rw [growC_iter, iterC_rows, avail_nil]
  congr 1
  funext q
  simp
theorem eachC_len (c : Nat × List Lies) (places : List Lies) : (eachC c places).length ≤ places.length := by
  unfold eachC avail
  rw [List.length_map]
  exact List.length_filter_le _ _
theorem eachC_row {c d : Nat × List Lies} {places : List Lies} (h : d ∈ eachC c places) : d.2.length = c.2.length + 1 := by
  unfold eachC at h
  obtain ⟨p, _, rfl⟩ := List.mem_map.mp h
  simp
theorem growC_row {places : List Lies} : ∀ {n : Nat} {c : Nat × List Lies}, c ∈ growC places n → c.2.length = n
  | 0, c, h => by
    have : c = (0, []) := by simpa [growC] using h
    subst this; rfl
  | n + 1, c, h => by
    obtain ⟨d, hd, hc⟩ := List.mem_flatMap.mp h
    rw [eachC_row hc, growC_row hd]
/-! ### endings -/
theorem sorted_unique : ∀ {a b : List Int}, a.Perm b → a.Pairwise (· ≤ ·) → b.Pairwise (· ≤ ·) → a = b
  | [], b, p, _, _ => by rw [List.nil_perm.mp p]
  | x :: a, [], p, _, _ => by simpa using p.length_eq
  | x :: a, y :: b, p, ha, hb => by
    obtain ⟨h1, h2⟩ := List.pairwise_cons.mp ha
    obtain ⟨h3, h4⟩ := List.pairwise_cons.mp hb
    have e : x = y := by
      have m1 : x ∈ y :: b := p.mem_iff.mp (by simp)
      have m2 : y ∈ x :: a := p.mem_iff.mpr (by simp)
      rcases List.mem_cons.mp m1 with e | m1
      · exact e
      · rcases List.mem_cons.mp m2 with e | m2
        · exact e.symm
        · have := h1 y m2
          have := h3 x m1
          omega
    subst e
    rw [sorted_unique p.cons_inv h2 h4]
def srt (l : List Int) : List Int := l.mergeSort fun a b => decide (a ≤ b)
theorem srt_perm (l : List Int) : (srt l).Perm l := List.mergeSort_perm ..
theorem srt_sorted (l : List Int) : (srt l).Pairwise (· ≤ ·) := by
  have := List.pairwise_mergeSort (le := fun a b : Int => decide (a ≤ b)) (fun a b c h1 h2 => by simp at *; omega) (fun a b => by simp; omega) l
  exact this.imp fun h => of_decide_eq_true h
theorem srt_of {a l : List Int} (p : a.Perm l) (h : a.Pairwise (· ≤ ·)) : a = srt l := sorted_unique (p.trans (srt_perm l).symm) h (srt_sorted l)
def leavesOf (row : List Lies) : List Int := (row.map (·.leaf)).map fun (k : Nat) => (k : Int)
def endKey (c : Nat × List Lies) : List (List Key) := [(srt (leavesOf c.2)).map Sum.inl, match c.2.getLast? with | some x => (placeI x).map Sum.inl | none => []]
theorem inl_inj : ∀ {a b : List Int}, a.map (Sum.inl : Int → Key) = b.map Sum.inl → a = b
  | [], [], _ => rfl
  | [], _ :: _, h => by cases h
  | _ :: _, [], h => by cases h
  | x :: a, y :: b, h => by
    simp only [List.map_cons, List.cons.injEq, Sum.inl.injEq] at h
    rw [h.1, inl_inj h.2]
theorem endKey_leaf {c d : Nat × List Lies} (h : endKey c = endKey d) (n : Nat) : n ∈ c.2.map (·.leaf) ↔ n ∈ d.2.map (·.leaf) := by
  unfold endKey at h
  injection h with h1 _
  have h1 := inl_inj h1
  have key : ∀ r : List Lies, n ∈ r.map (·.leaf) ↔ (n : Int) ∈ srt (leavesOf r) := fun r => by
    rw [(srt_perm _).mem_iff]
    unfold leavesOf
    constructor
    · intro m; exact List.mem_map.mpr ⟨n, m, rfl⟩
    · intro m
      obtain ⟨k, m, e⟩ := List.mem_map.mp m
      have : k = n := by omega
      rw [← this]; exact m
  rw [key, key, h1]
theorem endKey_last {c d : Nat × List Lies} (h : endKey c = endKey d) (hl : c.2.length = d.2.length) : c.2.getLast? = d.2.getLast? := by
  unfold endKey at h
  injection h with _ h
  injection h with h _
  cases hc : c.2.getLast? with
  | none =>
    have e : c.2 = [] := List.getLast?_eq_none_iff.mp hc
    rw [e] at hl
    have e2 : d.2 = [] := List.eq_nil_of_length_eq_zero (by rw [← hl]; rfl)
    rw [e2]; rfl
  | some x =>
    cases hd : d.2.getLast? with
    | none =>
      have e : d.2 = [] := List.getLast?_eq_none_iff.mp hd
      rw [e] at hl
      have e2 : c.2 = [] := List.eq_nil_of_length_eq_zero hl
      rw [e2] at hc; cases hc
    | some y =>
      rw [hc, hd] at h
      rw [placeI_inj (inl_inj h)]
theorem endKey_ext {c d : Nat × List Lies} (h : endKey c = endKey d) (p : Lies) (g g' : Nat) : endKey (g, c.2 ++ [p]) = endKey (g', d.2 ++ [p]) := by
  unfold endKey at *
  injection h with h1 _
  have h1 := inl_inj h1
  have key : ∀ r : List Lies, leavesOf (r ++ [p]) = leavesOf r ++ [(p.leaf : Int)] := fun r => by unfold leavesOf; simp
  have e : srt (leavesOf (c.2 ++ [p])) = srt (leavesOf (d.2 ++ [p])) := by
    refine srt_of ((srt_perm _).trans ?_) (srt_sorted _)
    rw [key, key]
    refine List.Perm.append_right _ ?_
    exact (srt_perm _).symm.trans (by rw [h1]; exact srt_perm _)
  show [(srt (leavesOf (c.2 ++ [p]))).map Sum.inl, _] = [(srt (leavesOf (d.2 ++ [p]))).map Sum.inl, _]
  rw [e]
  have l1 : ∀ r : List Lies, (r ++ [p]).getLast? = some p := fun r => by simp
  dsimp only
  rw [l1, l1]
/-- for each of cs one of bs with the same ending, not above it -/
structure Dom (bs cs : List (Nat × List Lies)) : Prop where
  sub : ∀ b ∈ bs, b ∈ cs
  dom : ∀ c ∈ cs, ∃ b ∈ bs, endKey b = endKey c ∧ LeC b c
theorem Dom.refl (cs : List (Nat × List Lies)) : Dom cs cs := ⟨fun _ h => h, fun c h => ⟨c, h, rfl, LeC.refl c⟩⟩
theorem Dom.trans {as bs cs : List (Nat × List Lies)} (h1 : Dom as bs) (h2 : Dom bs cs) : Dom as cs :=
  ⟨fun a h => h2.sub a (h1.sub a h), fun c h => by
    obtain ⟨b, hb, e1, l1⟩ := h2.dom c h
    obtain ⟨a, ha, e2, l2⟩ := h1.dom b hb
    exact ⟨a, ha, e2.trans e1, l2.trans l1⟩⟩
theorem Dom.step {bs cs : List (Nat × List Lies)} {places : List Lies} {n : Nat} (h : Dom bs cs) (hn : ∀ c ∈ cs, c.2.length = n) : Dom (bs.flatMap fun c => eachC c places) (cs.flatMap fun c => eachC c places) := by
  refine ⟨fun b hb => ?_, fun c hc => ?_⟩
  · obtain ⟨d, hd, hb⟩ := List.mem_flatMap.mp hb
    exact List.mem_flatMap.mpr ⟨d, h.sub d hd, hb⟩
  · obtain ⟨d, hd, hc⟩ := List.mem_flatMap.mp hc
    unfold eachC at hc
    obtain ⟨p, hp, rfl⟩ := List.mem_map.mp hc
    obtain ⟨b, hb, e, l⟩ := h.dom d hd
    have hl : b.2.length = d.2.length := by rw [hn b (h.sub b hb), hn d hd]
    have eg : gapN b.2 p = gapN d.2 p := by unfold gapN; rw [endKey_last e hl]
    refine ⟨(b.1 + gapN b.2 p, b.2 ++ [p]), List.mem_flatMap.mpr ⟨b, hb, ?_⟩, endKey_ext e p _ _, ?_⟩
    · unfold eachC
      refine List.mem_map.mpr ⟨p, ?_, rfl⟩
      unfold avail at hp ⊢
      rw [List.mem_filter] at hp ⊢
      refine ⟨hp.1, ?_⟩
      have := endKey_leaf e p.leaf
      simp only [Bool.not_eq_true', List.contains_eq_mem, decide_eq_false_iff_not] at hp ⊢
      exact fun z => hp.2 (this.mp z)
    · rw [eg]
      exact LeC.ext p (gapN d.2 p) hl l
/-! ### the first row with the fewest gaps -/
theorem placeLt_leaf {x y : Lies} (h : x.leaf < y.leaf) : placeLt x y = true := by
  unfold placeLt placeI
  rw [HT.lexLt_cons, if_neg (by omega)]
  exact decide_eq_true (by omega)
theorem ways_sorted (i : Nat) (x : Leaf) : (waysOf i x).Pairwise fun a b => placeLt a b = true := by
  unfold waysOf
  split <;> split
  · refine List.pairwise_cons.mpr ⟨fun b hb => ?_, List.pairwise_singleton ..⟩
    rw [List.mem_singleton.mp hb]
    unfold placeLt placeI
    rw [HT.lexLt_cons, if_pos rfl, HT.lexLt_cons]
    rfl
  · exact List.pairwise_singleton ..
  · exact List.pairwise_singleton ..
  · exact .nil
theorem all_sorted (l : List Leaf) : (Si45.allWays l).Pairwise fun a b => placeLt a b = true := by
  unfold Si45.allWays
  have key : ∀ (l : List Leaf) (k : Nat), ((l.zipIdx k).flatMap fun x => waysOf x.2 x.1).Pairwise (fun a b => placeLt a b = true) ∧ ∀ y ∈ (l.zipIdx k).flatMap fun x => waysOf x.2 x.1, k ≤ y.leaf := by
    intro l
    induction l with
    | nil => intro k; exact ⟨.nil, fun y m => (nomatch m)⟩
    | cons a l ih =>
      intro k
      obtain ⟨h1, h2⟩ := ih (k + 1)
      rw [List.zipIdx_cons, List.flatMap_cons]
      refine ⟨List.pairwise_append.mpr ⟨ways_sorted k a, h1, fun x hx y hy => ?_⟩, fun y hy => ?_⟩
      · have := mem_waysOf hx
        have := h2 y hy
        exact placeLt_leaf (by omega)
      · rcases List.mem_append.mp hy with hy | hy
        · have := mem_waysOf hy; omega
        · have := h2 y hy; omega
  exact (key l 0).1
theorem placeLt_ne {x y : Lies} (h : placeLt x y = true) : x ≠ y := fun e => by
  subst e
  unfold placeLt at h
  rw [lexI_irrefl] at h
  cases h
theorem rows_sorted : ∀ (n : Nat) (w : List Lies), w.Pairwise (fun a b => placeLt a b = true) → (allRows n w).Pairwise fun r q => rowLt r q = true
  | 0, w, _ => List.pairwise_singleton ..
  | n + 1, w, h => by
    show (w.flatMap fun x => (allRows n (w.filter fun y => y.leaf != x.leaf)).map fun r => x :: r).Pairwise _
    have key : ∀ v : List Lies, v.Pairwise (fun a b => placeLt a b = true) → (v.flatMap fun x => (allRows n (w.filter fun y => y.leaf != x.leaf)).map fun r => x :: r).Pairwise fun r q => rowLt r q = true := by
      intro v hv
      induction v with
      | nil => exact .nil
      | cons x v ih =>
        obtain ⟨h1, h2⟩ := List.pairwise_cons.mp hv
        rw [List.flatMap_cons]
        refine List.pairwise_append.mpr ⟨?_, ih h2, fun r hr q hq => ?_⟩
        · rw [List.pairwise_map]
          refine (rows_sorted n _ (h.filter _)).imp fun {r q} hrq => ?_
          show (if x = x then rowLt r q else placeLt x x) = true
          rw [if_pos rfl]; exact hrq
        · obtain ⟨r', _, rfl⟩ := List.mem_map.mp hr
          obtain ⟨y, hy, hq⟩ := List.mem_flatMap.mp hq
          obtain ⟨q', _, rfl⟩ := List.mem_map.mp hq
          have := h1 y hy
          show (if x = y then rowLt r' q' else placeLt x y) = true
          rw [if_neg (placeLt_ne this)]; exact this
    exact key w h
theorem fewest_least {l : List Leaf} {c : Nat × List Lies} (hc : c ∈ growC (Si45.allWays l) l.length) (hm : ∀ d ∈ growC (Si45.allWays l) l.length, LeC c d) : Si45.fewest l = some c := by
  rw [growC_rows] at hc hm
  obtain ⟨r, hr, rfl⟩ := List.mem_map.mp hc
  have hr : r ∈ rowsAll l := hr
  obtain ⟨pre, post, e⟩ := List.append_of_mem hr
  have so : (rowsAll l).Pairwise fun r q => rowLt r q = true := rows_sorted _ _ (all_sorted l)
  have le : ∀ q ∈ rowsAll l, LeC (gapsFrom none r, r) (gapsFrom none q, q) := fun q hq => hm _ (List.mem_map.mpr ⟨q, hq, rfl⟩)
  refine fewest_some e (fun q hq => ?_) fun q hq => ?_
  · have h1 := le q (by rw [e]; exact List.mem_append_left _ hq)
    rw [e] at so
    have h2 : rowLt q r = true := (List.pairwise_append.mp so).2.2 q hq r (by simp)
    unfold LeC cntLt at h1
    by_cases z : gapsFrom none q = gapsFrom none r
    · rw [if_pos z, h2] at h1; cases h1
    · rw [if_neg z] at h1
      have := of_decide_eq_false h1
      have this : ¬ gapsFrom none q < gapsFrom none r := this
      omega
  · have h1 := le q (by rw [e]; exact List.mem_append_right _ (List.mem_cons_of_mem _ hq))
    unfold LeC cntLt at h1
    by_cases z : gapsFrom none q = gapsFrom none r
    · omega
    · rw [if_neg z] at h1
      have := of_decide_eq_false h1
      have this : ¬ gapsFrom none q < gapsFrom none r := this
      omega
theorem fewest_empty {l : List Leaf} (h : growC (Si45.allWays l) l.length = []) : Si45.fewest l = none := by
  rw [growC_rows] at h
  exact fewest_none (List.map_eq_nil_iff.mp h)
end LL

set_option Elab.async false
set_option linter.all false
set_option maxRecDepth 100000
set_option maxHeartbeats 4000000
namespace LL
open PySem PySem.Spec PyProof.Rows L2
open Si45 (Lies Leaf waysOf)
theorem minC_le : ∀ (ds : List (Nat × List Lies)) (c : Nat × List Lies), ∀ x ∈ c :: ds, LeC (minC c ds) x
  | [], c, x, h => by
    rw [List.mem_singleton.mp h]
    exact LeC.refl c
  | d :: ds, c, x, h => by
    have ih := minC_le ds (if cntLt d c = true then d else c)
    show LeC (minC (if cntLt d c = true then d else c) ds) x
    have hb := ih _ (List.mem_cons_self ..)
    rcases List.mem_cons.mp h with rfl | h
    · refine hb.trans ?_
      cases e : cntLt d x with
      | true => rw [if_pos rfl]; exact LeC.of_lt e
      | false => rw [if_neg (by decide)]; exact LeC.refl x
    · rcases List.mem_cons.mp h with rfl | h
      · refine hb.trans ?_
        cases e : cntLt x c with
        | true => rw [if_pos rfl]; exact LeC.refl x
        | false => rw [if_neg (by decide)]; exact e
      · exact ih x (List.mem_cons_of_mem _ h)
section
variable {P : Program} {w : World} {K : PySem.W.Frag} {mg : Str → Option Value} {base : Heap}

/-! ### gaps_between -/
abbrev sGapsBetween : Stmt := top 13
theorem sc_gaps_between : FnScope ["row", "place"] ["row", "place"] (defScope sGapsBetween) := ⟨rfl, rfl, rfl, by decide +kernel, rfl, by decide +kernel, by decide +kernel⟩
def spGapsBetween : Sp := fun vs H Q _ => ∃ (S S' : Addr → Prop) (u v : V) (row : List Lies) (p : Lies), vs = [u, v] ∧ repRow H S u row ∧ repPlace H S' v p ∧ Q (.int (gapN row p : Nat)) H
theorem ok_gaps_between {f : Addr} {fd : FuncData} (F : Fun K "gaps_between" "gaps_between" sGapsBetween f fd) (T : Txt K mg) : FnOk P w K mg base CX0 1 f fd ["row", "place"] spGapsBetween := by
  refine F.ok sc_gaps_between (fun vs H Q E h => ?_) (fun cdv A outer s H vs Q E hr h => ?_)
  · obtain ⟨S, S', u, v, row, p, rfl, _⟩ := h
    rfl
  · obtain ⟨S, S', _, _, row, p, rfl, ⟨a, us, rfl, sa, ha, hp⟩, ⟨t, rfl, st, ht⟩, k⟩ := h
    have hlen := hp.length
    refine ⟨_, (pss_cons (ps_if (PW.pt (pw_or (pt_cmpR op_eq (pe_callB (r := rLen K) call_len_seq rfl T.b_len rfl (pa_cons (pv 0) pa_nil)) pe_int (nomark _)) (pw_or1 (pt_cmpR op_eq (pe_ix (r := rIx K) ix_seq (pe_ix (r := rIx K) ix_seq (pv 0) (pe_un un_neg pe_int) (fun _ _ => rfl)) pe_int (fun _ _ => rfl)) (pe_ix (r := rIx K) ix_seq (pv 1) pe_int (fun _ _ => rfl)) (nomark _))))) (pss_one (ps_ret pe_int)) pss_nil)
      (pss_one (ps_ret pe_int))), ?_⟩
    refine ⟨_, rfl, a, us, rfl, .inl (SqL.of ha), rfl, _, rfl, ifI (fun e => ?_) (fun e => ?_)⟩
    · have hn : row = [] := List.eq_nil_of_length_eq_zero (by omega)
      subst hn
      exact k
    · obtain ⟨front, last, hrl⟩ : ∃ front last, row = front ++ [last] := by
        rcases List.eq_nil_or_concat row with h | ⟨fr, la, h⟩
        · subst h; simp at hlen; rw [hlen] at e; simp at e
        · exact ⟨fr, la, by simpa using h⟩
      have hp2 := hp
      rw [hrl] at hp2
      obtain ⟨us0, x, hx, t1, rfl, st1, ht1⟩ := last_of hp2
      rw [hx] at ha
      have eg : gapN row p = if last.to_ = p.from_ then 0 else 1 := by
        unfold gapN brk
        rw [hrl]
        simp only [List.getLast?_append, List.getLast?_singleton, Option.some_or]
        unfold Si45.follows
        by_cases z : last.to_ = p.from_
        · simp [z]
        · simp [z]
      rw [eg] at k
      refine ⟨_, rfl, _, rfl, .inl ⟨a, _, _, _, rfl, rfl, SqL.of ha, atI_last _ _, .inr (.inl ⟨t1, _, _, _, rfl, rfl, SqT.of ht1, rfl, ?_⟩)⟩⟩
      refine ⟨_, rfl, .inr (.inl ⟨t, _, _, _, rfl, rfl, SqT.of ht, rfl, rfl, _, rfl, ifN (fun e1 => ?_) (fun e1 => ?_)⟩)⟩
      · rw [if_pos e1] at k
        exact k
      · rw [if_neg e1] at k
        exact k

/-! ### made_longer_by_each -/
abbrev sMadeLongerByEach : Stmt := top 14
theorem sc_made_longer_by_each : FnScope ["counted", "places", "row", "placed", "free", "place"] ["counted", "places"] (defScope sMadeLongerByEach) := ⟨rfl, rfl, rfl, by decide +kernel, rfl, by decide +kernel, by decide +kernel⟩
def spMadeLongerByEach : Sp := fun vs H Q _ => ∃ (S : Addr → Prop) (u v : V) (c : Nat × List Lies) (places : List Lies), vs = [u, v] ∧ repCnt H S u c ∧ repRow H S v places ∧ c.2.length ≤ 1000 ∧ places.length ≤ 1000 ∧ ∀ H' v', Same H H' → repL repCnt H' (Or2 S H) v' (eachC c places) → Q v' H'
theorem ok_made_longer_by_each {f : Addr} {fd : FuncData} (F : Fun K "made_longer_by_each" "made_longer_by_each" sMadeLongerByEach f fd) (T : Txt K mg) (c_numbers_in : Cal P w K mg base 1 "numbers_in" ["row"] spNumbersIn) (c_gaps_between : Cal P w K mg base 1 "gaps_between" ["row", "place"] spGapsBetween) :
    FnOk P w K mg base CX0 2 f fd ["counted", "places"] spMadeLongerByEach := by
  refine F.ok sc_made_longer_by_each (fun vs H Q E h => ?_) (fun cdv A outer s H vs Q E hr h => ?_)
  · obtain ⟨S, u, v, c, places, rfl, _⟩ := h
    rfl
  · obtain ⟨S, _, _, c, places, rfl, ⟨t, rv, rfl, st, ht, hrow⟩, ⟨a, us, rfl, sa, ha, hp⟩, hcl, hpl, k⟩ := h
    have big : sizeLine = 16777216 := rfl
    refine ⟨_, (pss_cons (ps_set (i := 2) sc_made_longer_by_each.nd rfl (Or.inr rfl) (pe_ix (r := rIx K) ix_seq (pv 0) pe_int (fun _ _ => rfl)))
      (pss_cons (ps_set (i := 3) sc_made_longer_by_each.nd rfl (Or.inr rfl) (pe_cal c_numbers_in (hr.mono (by decide)) rfl (pa_cons (pv 2) pa_nil)))
      (pss_cons (ps_setLc (i := 4) (own := [("place", 5)]) rfl sc_made_longer_by_each.nd rfl rfl (sw_true rfl rfl rfl rfl) (pi_list (pv 1)) (blkOk_by rfl) (fun _ _ _ _ _ => (pg_name (i := 5) sc_made_longer_by_each.nd rfl (Or.inl rfl))) (fun _ _ _ _ _ => (pts_one (pt_cmpR (r := rIn K true) op_notIn_seq (pe_ix (r := rIx K) ix_seq (pv 5) pe_int (fun _ _ => rfl)) (pv 3) (by with_unfolding_all rfl)))) (fun _ _ _ _ _ => (pv 5)))
      (pss_one (ps_ret (pe_lc (own := [("place", 5)]) rfl sc_made_longer_by_each.nd (pi_list (pv 4)) (blkOk_by rfl) (fun _ _ _ _ _ => (pg_name (i := 5) sc_made_longer_by_each.nd rfl (Or.inl rfl))) (fun _ _ _ _ _ => pts_nil) (fun _ _ _ _ _ => (pe_tup (pa_cons (pe_op op_add (pe_ix (r := rIx K) ix_seq (pv 0) pe_int (fun _ _ => rfl)) (pe_cal c_gaps_between (hr.mono (by decide)) rfl (pa_cons (pv 2) (pa_cons (pv 5) pa_nil)))) (pa_cons (pe_op op_cat (pv 2) (pe_lst (pa_cons (pv 5) pa_nil))) pa_nil)))))))))), ?_⟩
    -- row = counted[1]
    refine ⟨_, rfl, .inr (.inl ⟨t, _, _, _, rfl, rfl, SqT.of ht, rfl, ?_⟩)⟩
    -- placed = numbers_in(row)
    refine ⟨_, rfl, S, rv, c.2, rfl, hrow, hcl, fun H1 v1 s1 r1 => ?_⟩
    obtain ⟨D, pl, rfl, nD, hpl1, ppl⟩ := r1
    have epl := ints_rep.mp ppl
    subst epl
    -- free = [place for place in places if place[0] not in placed]
    refine ⟨_, rfl, a, rfl, ⟨_, SqL.of (s1 _ _ ha)⟩, fun D2 hD2 => ?_⟩
    refine lc_rep (K := K) (R := repPlace) (S := S) (H0 := H) (vs := us) (ds := places) (fun pre H' => Same H1 H' ∧ Acc repPlace H H' S D2 (avail pre c.2)) hp
      ⟨same_upd_self hD2, Acc.start s1 hD2⟩ (fun pre H' A2 => A2.1 _ _ (s1 _ _ ha)) ?_ ?_
    · rintro pre d post x H2 hd r ⟨s12, A2⟩
      have r' := r
      obtain ⟨u, rfl, su, hu0⟩ := r'
      have hu := A2.same _ _ hu0
      have pl : pre.length < places.length := by rw [hd]; simp
      have fl : (avail pre c.2).length ≤ pre.length := List.length_filter_le _ _
      obtain ⟨acc, hacc, _⟩ := A2.lst
      refine ⟨rfl, _, rfl, .inr (.inl ⟨u, _, _, _, rfl, rfl, SqT.of hu, rfl, ?_⟩)⟩
      refine ⟨_, rfl, D, _, rfl, .inl (SqL.of (s12 _ _ hpl1)), rfl, flat_ints _, _, rfl, ?_⟩
      rw [inV_ints]
      unfold leavesI
      rw [contains_cast]
      refine ite2 (fun e => ?_) (fun e => ?_)
      · have e : (!(c.2.map fun x : Lies => x.leaf).contains d.leaf) = true := e
        refine ⟨_, rfl, acc, hacc, ?_, same_chg s12 hD2, ?_⟩
        · rw [A2.len hacc]; omega
        · unfold avail at A2 ⊢
          rw [flt_yes (p := fun p : Lies => !(c.2.map fun x : Lies => x.leaf).contains p.leaf) (d := d) e]
          exact A2.push hacc (A2.old r)
      · have e : ¬ (!(c.2.map fun x : Lies => x.leaf).contains d.leaf) = true := e
        refine ⟨s12, ?_⟩
        unfold avail at A2 ⊢
        rw [flt_no (p := fun p : Lies => !(c.2.map fun x : Lies => x.leaf).contains p.leaf) (d := d) (Bool.eq_false_iff.mpr e)]
        exact A2
    · rintro H2 ⟨s12, A2⟩
      obtain ⟨fs, hfs, pfs⟩ := A2.lst
      have s02 := A2.same
      have rowH2 : repRow H2 S rv c.2 := Stb.same hrow s02
      -- return [(counted[0] + gaps_between(row, place), row + [place]) for place in free]
      refine ⟨_, rfl, D2, rfl, ⟨_, SqL.of hfs⟩, fun D3 hD3 => ?_⟩
      refine lc_rep (K := K) (R := repPlace) (S := fun b => (S b ∨ H b = none) ∧ b ≠ D2) (H0 := H2) (vs := fs) (ds := avail places c.2) (fun pre H' => Acc repCnt H2 H' (fun b => S b ∨ H b = none) D3 (pre.map fun p => (c.1 + gapN c.2 p, c.2 ++ [p]))) pfs
        (Acc.start (Same.refl H2) hD3) (fun pre H' A3 => A3.same _ _ hfs) ?_ ?_
      · rintro pre d post x H3 hd r A3
        have fl : (avail places c.2).length ≤ places.length := List.length_filter_le _ _
        have pl : pre.length < (avail places c.2).length := by rw [hd]; simp
        have s03 := s02.trans A3.same
        have r3 := Stb.same r A3.same
        refine ⟨rfl, _, rfl, .inr (.inl ⟨t, _, _, _, rfl, rfl, SqT.of (s03 _ _ ht), rfl, ?_⟩)⟩
        refine ⟨_, rfl, _, rfl, S, _, rv, x, c.2, d, rfl, Stb.same rowH2 A3.same, r3, ?_⟩
        refine ⟨_, _, rfl, rfl, _, rfl, _, rfl, (by show 1 ≤ sizeLine; decide), fun q hq => ?_⟩
        have s4 := same_upd_self (o := .lst [x]) hq
        obtain ⟨b, rs, rfl, sb, hb, prow⟩ := hrow
        have rl := prow.length
        refine ⟨b, q, rs, [x], rfl, rfl, s4 _ _ (s03 _ _ hb), upd_same, (by show rs.length + 1 ≤ sizeLine; omega), fun q2 hq2 => ?_⟩
        have s5 := same_upd_self (o := .lst (rs ++ [x])) hq2
        refine ⟨(by show 2 ≤ sizeLine; decide), fun q3 hq3 => ?_⟩
        have s6 := same_upd_self (o := .tup [.int ((c.1 : Int) + (gapN c.2 d : Int)), .ref q2]) hq3
        have A4 := A3.more (s4.trans (s5.trans s6))
        obtain ⟨acc, hacc, _⟩ := A4.lst
        have f2 := A3.fresh (s4.free hq2)
        have f3 := A3.fresh (s4.free (s5.free hq3))
        refine ⟨acc, hacc, ?_, ?_⟩
        · rw [A4.len hacc, List.length_map]; omega
        · rw [List.map_append]
          refine A4.push hacc ⟨q3, .ref q2, rfl, ⟨.inr f3.1, f3.2⟩, ?_, ⟨q2, _, rfl, ⟨.inr f2.1, f2.2⟩, s6 _ _ upd_same, Paired.snoc' ?_ ?_⟩⟩
          · rw [upd_same]; rfl
          · have hD3ne : ∀ b' o', H2 b' = some o' → b' ≠ D3 := fun b' o' e => ne_of_none e hD3
            exact Paired.keep (fun b' o' sb' e' => ⟨⟨.inl (.inl sb'), hD3ne b' o' (s02 _ _ e')⟩, A4.same _ _ (s02 _ _ e')⟩) prow
          · exact Stb.keep (fun b' o' sb' e' => ⟨⟨.inl sb'.1, ne_of_none e' hD3⟩, A4.same _ _ e'⟩) r
      · intro H3 A3
        refine k H3 _ (s02.trans A3.same) ?_
        exact Stb.mono A3.rep fun b _ q => q.elim id fun q => .inr (s02.free q)

/-! ### best_by_ending -/
/-- the dict's rows and what their values stand for -/
def RowIs (H : Hp) (S : Addr → Prop) (x : NRow) (t : List (List Key) × (Nat × List Lies)) : Prop := x.1 = t.1 ∧ repCnt H S (.ref x.2.2) t.2
structure BInv (ts : List (List (List Key) × (Nat × List Lies))) (pre : List (Nat × List Lies)) : Prop where
  sub : ∀ t ∈ ts, t.2 ∈ pre ∧ t.1 = endKey t.2
  dom : ∀ c ∈ pre, ∃ t ∈ ts, t.1 = endKey c ∧ LeC t.2 c
  nd : (ts.map (·.1)).Nodup
theorem nodup_fst {α β : Type} : ∀ {ts : List (α × β)} {t u : α × β}, (ts.map (·.1)).Nodup → t ∈ ts → u ∈ ts → t.1 = u.1 → t = u
  | x :: ts, t, u, hn, ht, hu, e => by
    rw [List.map_cons, List.nodup_cons] at hn
    rcases List.mem_cons.mp ht with h1 | h1
    · rcases List.mem_cons.mp hu with h2 | h2
      · rw [h1, h2]
      · exact absurd (List.mem_map.mpr ⟨u, h2, by rw [← e, h1]⟩) hn.1
    · rcases List.mem_cons.mp hu with h2 | h2
      · exact absurd (List.mem_map.mpr ⟨t, h1, by rw [e, h2]⟩) hn.1
      · exact nodup_fst hn.2 h1 h2 e
theorem rows_out {H H' : Hp} {S S' : Addr → Prop} (kp : Keep H H' S S') : ∀ {xs : List NRow} {ts : List (List (List Key) × (Nat × List Lies))}, Paired (RowIs H S) xs ts → Paired (repCnt H' S') (xs.map fun x => V.ref x.2.2) (ts.map (·.2))
  | _, _, .nil => .nil
  | _, _, .cons h r => .cons (Stb.keep kp h.2) (rows_out kp r)
theorem look_none {H : Hp} {S : Addr → Prop} {k : NKey} : ∀ {xs : List NRow} {ts : List (List (List Key) × (Nat × List Lies))}, Paired (RowIs H S) xs ts → lookN xs k = none → ∀ t ∈ ts, t.1 ≠ k
  | _, _, .nil, _, t, m => nomatch m
  | x :: xs, t0 :: ts, .cons h r, e, t, m => by
    unfold lookN at e
    rw [List.find?_cons] at e
    by_cases hx : x.1 = k
    · rw [decide_eq_true hx] at e; cases e
    · rw [decide_eq_false hx] at e
      rcases List.mem_cons.mp m with rfl | m
      · exact fun z => hx (h.1.trans z)
      · exact look_none (k := k) r e t m
theorem look_some {H : Hp} {S : Addr → Prop} {k : NKey} {c : Addr} : ∀ {xs : List NRow} {ts : List (List (List Key) × (Nat × List Lies))}, Paired (RowIs H S) xs ts → lookN xs k = some c → ∃ t ∈ ts, t.1 = k ∧ repCnt H S (.ref c) t.2
  | _, _, .nil, e => by cases e
  | x :: xs, t0 :: ts, .cons h r, e => by
    unfold lookN at e
    rw [List.find?_cons] at e
    by_cases hx : x.1 = k
    · rw [decide_eq_true hx] at e
      have e : x.2.2 = c := Option.some.inj e
      subst e
      exact ⟨t0, List.mem_cons_self .., h.1.symm.trans hx, h.2⟩
    · rw [decide_eq_false hx] at e
      obtain ⟨t, m, q⟩ := look_some (k := k) (c := c) r e
      exact ⟨t, List.mem_cons_of_mem _ m, q⟩
theorem rows_put {H : Hp} {S : Addr → Prop} {k : NKey} {b c : Addr} {d : Nat × List Lies} {xs : List NRow} {ts : List (List (List Key) × (Nat × List Lies))} (r : Paired (RowIs H S) xs ts) (hc : repCnt H S (.ref c) d) :
    ∃ ts', Paired (RowIs H S) (putN xs k b c) ts' ∧ (lookN xs k = none → ts' = ts ++ [(k, d)]) ∧ ((lookN xs k).isSome = true → ts' = ts.map fun t => if t.1 = k then (t.1, d) else t) := by
  unfold putN
  cases h : lookN xs k with
  | none =>
    rw [if_neg (by simp)]
    exact ⟨_, Paired.snoc' r ⟨rfl, hc⟩, fun _ => rfl, fun z => by cases z⟩
  | some c0 =>
    rw [if_pos (by simp)]
    refine ⟨_, ?_, (fun z => by cases z), fun _ => rfl⟩
    clear h
    induction r with
    | nil => exact .nil
    | @cons x t xs ts h0 _ ih =>
      rw [List.map_cons, List.map_cons]
      refine .cons ?_ ih
      by_cases hx : x.1 = k
      · rw [if_pos hx, if_pos (h0.1.symm.trans hx)]
        exact ⟨h0.1, hc⟩
      · rw [if_neg hx, if_neg (fun z => hx (h0.1.trans z))]
        exact h0
theorem BInv.new {ts : List (List (List Key) × (Nat × List Lies))} {pre : List (Nat × List Lies)} {d : Nat × List Lies} (h : BInv ts pre) (hno : ∀ t ∈ ts, t.1 ≠ endKey d) : BInv (ts ++ [(endKey d, d)]) (pre ++ [d]) := by
  refine ⟨fun t m => ?_, fun c m => ?_, ?_⟩
  · rcases List.mem_append.mp m with m | m
    · exact ⟨List.mem_append_left _ (h.sub t m).1, (h.sub t m).2⟩
    · rw [List.mem_singleton.mp m]
      exact ⟨List.mem_append_right _ (by simp), rfl⟩
  · rcases List.mem_append.mp m with m | m
    · obtain ⟨t, m', q⟩ := h.dom c m
      exact ⟨t, List.mem_append_left _ m', q⟩
    · rw [List.mem_singleton.mp m]
      exact ⟨(endKey d, d), List.mem_append_right _ (by simp), rfl, LeC.refl d⟩
  · rw [List.map_append, List.nodup_append]
    refine ⟨h.nd, by simp, fun a ha b hb => ?_⟩
    obtain ⟨t, mt, rfl⟩ := List.mem_map.mp ha
    have : b = endKey d := by simpa using hb
    rw [this]
    exact hno t mt
theorem BInv.keep {ts : List (List (List Key) × (Nat × List Lies))} {pre : List (Nat × List Lies)} {d : Nat × List Lies} {t : List (List Key) × (Nat × List Lies)} (h : BInv ts pre) (mt : t ∈ ts) (et : t.1 = endKey d) (l : LeC t.2 d) : BInv ts (pre ++ [d]) := by
  refine ⟨fun t m => ⟨List.mem_append_left _ (h.sub t m).1, (h.sub t m).2⟩, fun c m => ?_, h.nd⟩
  rcases List.mem_append.mp m with m | m
  · exact h.dom c m
  · rw [List.mem_singleton.mp m]
    exact ⟨t, mt, et, l⟩
theorem BInv.put {ts : List (List (List Key) × (Nat × List Lies))} {pre : List (Nat × List Lies)} {d : Nat × List Lies} {t0 : List (List Key) × (Nat × List Lies)} (h : BInv ts pre) (m0 : t0 ∈ ts) (e0 : t0.1 = endKey d) (l0 : LeC d t0.2) :
    BInv (ts.map fun t => if t.1 = endKey d then (t.1, d) else t) (pre ++ [d]) := by
  have hex : ∃ t ∈ ts, t.1 = endKey d := ⟨t0, m0, e0⟩
  have hall : ∀ t ∈ ts, t.1 = endKey d → LeC d t.2 := fun t m e => by rw [nodup_fst h.nd m m0 (e.trans e0.symm)]; exact l0
  refine ⟨fun t m => ?_, fun c m => ?_, ?_⟩
  · obtain ⟨t0, m0, rfl⟩ := List.mem_map.mp m
    by_cases e : t0.1 = endKey d
    · rw [if_pos e]
      exact ⟨List.mem_append_right _ (by simp), e⟩
    · rw [if_neg e]
      exact ⟨List.mem_append_left _ (h.sub t0 m0).1, (h.sub t0 m0).2⟩
  · have self : ∃ t ∈ ts.map (fun t => if t.1 = endKey d then (t.1, d) else t), t.1 = endKey d ∧ t.2 = d := by
      obtain ⟨t, m, e⟩ := hex
      exact ⟨_, List.mem_map.mpr ⟨t, m, rfl⟩, by rw [if_pos e]; exact e, by rw [if_pos e]⟩
    rcases List.mem_append.mp m with m | m
    · obtain ⟨t, mt, et, l⟩ := h.dom c m
      by_cases e : t.1 = endKey d
      · obtain ⟨t', m', e', q⟩ := self
        exact ⟨t', m', e'.trans (e.symm.trans et), by rw [q]; exact (hall t mt e).trans l⟩
      · exact ⟨t, List.mem_map.mpr ⟨t, mt, by rw [if_neg e]⟩, et, l⟩
    · rw [List.mem_singleton.mp m]
      obtain ⟨t', m', e', q⟩ := self
      exact ⟨t', m', e', by rw [q]; exact LeC.refl d⟩
  · have : (ts.map fun t => if t.1 = endKey d then (t.1, d) else t).map (·.1) = ts.map (·.1) := by
      rw [List.map_map]
      refine List.map_congr_left fun t _ => ?_
      show (if t.1 = endKey d then (t.1, d) else t).1 = t.1
      split <;> rfl
    rw [this]; exact h.nd
abbrev sBestByEnding : Stmt := top 15
theorem sc_best_by_ending : FnScope ["found", "best", "counted", "row", "ending"] ["found"] (defScope sBestByEnding) := ⟨rfl, rfl, rfl, by decide +kernel, rfl, by decide +kernel, by decide +kernel⟩
def spBestByEnding : Sp := fun vs H Q _ => ∃ (S : Addr → Prop) (v : V) (cs : List (Nat × List Lies)), vs = [v] ∧ repL repCnt H S v cs ∧ cs.length ≤ sizeLine ∧ (∀ c ∈ cs, c.2 ≠ [] ∧ c.2.length ≤ 60) ∧ ∀ H' v' bs, Same H H' → Dom bs cs → bs.length ≤ cs.length → repL repCnt H' (Or2 S H) v' bs → Q v' H'
theorem NKeyAt.keep {H H' : Hp} {k : NKey} {a : Addr} (h : NKeyAt H k a) (q : ∀ b xs, H b = some (.tup xs) → H' b = some (.tup xs)) : NKeyAt H' k a := by
  obtain ⟨bs, e, r⟩ := h
  exact ⟨bs, q _ _ e, Paired.mapP r fun b ks z => q _ _ z⟩
theorem DictN.same {P : Program} {w : World} {H H' : Hp} {d : Addr} {xs : List NRow} (h : DictN P w H d xs) (q : Same H H') : DictN P w H' d xs := ⟨q _ _ h.at_, fun x m => (h.keys x m).keep fun b ys e => q _ _ e⟩
theorem rowIs_keep {H H' : Hp} {S : Addr → Prop} {xs : List NRow} {ts : List (List (List Key) × (Nat × List Lies))} (r : Paired (RowIs H S) xs ts) (q : ∀ b o, S b → H b = some o → H' b = some o) : Paired (RowIs H' S) xs ts :=
  Paired.mapP r fun x t z => ⟨z.1, Stb.stay z.2 q⟩
theorem putN_keys {H : Hp} {xs : List NRow} {k : NKey} {b c : Addr} (h : ∀ x ∈ xs, NKeyAt H x.1 x.2.1) (hb : NKeyAt H k b) : ∀ x ∈ putN xs k b c, NKeyAt H x.1 x.2.1 := by
  intro x m
  unfold putN at m
  split at m
  · obtain ⟨y, my, rfl⟩ := List.mem_map.mp m
    split
    · exact h y my
    · exact h y my
  · rcases List.mem_append.mp m with m | m
    · exact h x m
    · rw [List.mem_singleton.mp m]; exact hb
/-- a row is put: all else stands -/
theorem DictN.put {P : Program} {w : World} {H : Hp} {d b c : Addr} {xs : List NRow} {k : NKey} (h : DictN P w H d xs) (hb : NKeyAt H k b) : DictN P w (upd H d (dN P w d (putN xs k b c))) d (putN xs k b c) := by
  have q : ∀ b ys, H b = some (.tup ys) → upd H d (dN P w d (putN xs k b c)) b = some (.tup ys) := fun b ys e => by
    rw [upd_ne (ne_of e h.at_ (fun z => nomatch z))]; exact e
  refine ⟨upd_same, fun x m => (putN_keys h.keys hb x m).keep fun b' ys e => ?_⟩
  rw [upd_ne (ne_of e h.at_ (fun z => nomatch z))]; exact e
theorem ok_best_by_ending {f : Addr} {fd : FuncData} (F : Fun K "best_by_ending" "best_by_ending" sBestByEnding f fd) (T : Txt K mg) (c_numbers_in : Cal P w K mg base 1 "numbers_in" ["row"] spNumbersIn) :
    FnOk P w K mg base CX0 2 f fd ["found"] spBestByEnding := by
  refine F.ok sc_best_by_ending (fun vs H Q E h => ?_) (fun cdv A outer s H vs Q E hr h => ?_)
  · obtain ⟨S, v, cs, rfl, _⟩ := h
    rfl
  · obtain ⟨S, _, cs, rfl, ⟨a, us, rfl, sa, ha, hp⟩, hcs, hrow, k⟩ := h
    have big : sizeLine = 16777216 := rfl
    have hp0 : Paired (repCnt H (fun b => S b ∧ H b ≠ none)) us cs := Paired.mapP hp fun _ _ r => Stb.dom r
    refine ⟨_, (pss_cons (ps_set (i := 1) sc_best_by_ending.nd rfl (Or.inl rfl) pe_nnew)
      (pss_cons (ps_for PassesOwn.never rfl (pi_list (pv 0)) (pg_name (i := 2) sc_best_by_ending.nd rfl (Or.inl rfl)) (pss_cons (ps_set (i := 3) sc_best_by_ending.nd rfl (Or.inl rfl) (pe_ix (r := rIx K) ix_seq (pv 2) pe_int (fun _ _ => rfl)))
      (pss_cons (ps_set (i := 4) sc_best_by_ending.nd rfl (Or.inl rfl) (pe_tup (pa_cons (pe_callTy call_tuple_of rfl T.b_tuple rfl (pa_cons (pe_callB (r := rSorted K) cr_sorted rfl T.b_sorted rfl (pa_cons (pe_cal c_numbers_in (hr.mono (by decide)) rfl (pa_cons (pv 3) pa_nil)) pa_nil)) pa_nil)) (pa_cons (pe_ix (r := rIx K) ix_seq (pv 3) (pe_un un_neg pe_int) (fun _ _ => rfl)) pa_nil))))
      (pss_one (ps_if (PW.pt (pw_or (pt_cmp (pc_nnotin (room_lt hr (by decide)) (pv 4) (pv 1)) (by with_unfolding_all rfl)) (pw_or1 (pt_cmpR (r := rLtC) (op_ltC (room_lt hr (by decide))) (pv 2) (pe_nget (room_lt hr (by decide)) (pv 1) (pv 4) (fun _ _ => rfl)) (nomark _))))) (pss_one (ps_nput (room_lt hr (by decide)) (pv 1) (pv 4) (pv 2) rfl)) pss_nil)))))
      (pss_one (ps_ret (pe_listvals rfl rfl T.b_list (pv 1)))))), ?_⟩
    intro d hd
    have s0 : Same H (upd H d (dN P w d [])) := same_upd_self hd
    refine ⟨_, rfl, a, rfl, ⟨_, SqL.of (s0 _ _ ha)⟩, for_rep (K := K) (R := repCnt) (S := fun b => S b ∧ H b ≠ none) (H1 := H) (vs := us) (ds := cs)
      (fun pre σ H' => ∃ (x r e : Option V) (xs : List NRow) (ts : List (List (List Key) × (Nat × List Lies))), σ = [some (.ref a), some (.ref d), x, r, e] ∧ Same H H' ∧ DictN P w H' d xs ∧ Paired (RowIs H' (fun b => S b ∧ H b ≠ none)) xs ts ∧ BInv ts pre ∧ xs.length ≤ pre.length)
      ha hp0 ⟨none, none, none, [], [], rfl, s0, ⟨upd_same, fun x m => nomatch m⟩, .nil, ⟨fun _ m => (nomatch m), fun _ m => (nomatch m), .nil⟩, Nat.le_refl _⟩ (fun pre σ H' ⟨_, _, _, _, _, _, s1, _⟩ => s1 _ _ ha) ?_ ?_⟩
    · rintro pre c post x σ H1 hd' rc ⟨x0, r0, e0, xs, ts, rfl, s1, dn, rows, bi, xl⟩
      have mc : c ∈ cs := by rw [hd']; simp
      obtain ⟨cne, cl⟩ := hrow c mc
      have xl2 : pre.length < cs.length := by rw [hd']; simp
      have rc1 := Stb.same rc s1
      have rc1' := rc1
      obtain ⟨t, rv, rfl, st, ht, hrw⟩ := rc1'
      obtain ⟨b, rs, rfl, sb, hb, prs⟩ := hrw
      obtain ⟨front, last, hrl⟩ : ∃ front last, c.2 = front ++ [last] := by
        rcases List.eq_nil_or_concat c.2 with h | ⟨fr, la, h⟩
        · exact absurd h cne
        · exact ⟨fr, la, by simpa using h⟩
      have prs2 := prs
      rw [hrl] at prs2
      obtain ⟨rs0, xl', hxl, tl, rfl, stl, htl⟩ := last_of prs2
      -- row = counted[1]
      refine ⟨_, rfl, .inr (.inl ⟨t, _, _, _, rfl, rfl, SqT.of ht, rfl, ?_⟩)⟩
      -- ending
      refine ⟨_, rfl, _, .ref b, c.2, rfl, ⟨b, rs, rfl, sb, hb, prs⟩, (by omega), fun H2 v2 s2 r2 => ?_⟩
      obtain ⟨nd, ns, rfl, nn, hns, pns⟩ := r2
      have ens := ints_rep.mp pns
      subst ens
      refine ⟨nd, leavesI c.2, rfl, SqL.of hns, (by unfold leavesI; rw [List.length_map, List.length_map]; omega), fun ns' pd pm pw npd => ?_⟩
      have s3 := same_upd_self (o := .lst (ns'.map V.int)) npd
      refine ⟨pd, _, rfl, .inl ⟨SqL.of upd_same, fun tu ntu => ?_⟩⟩
      have s4 := same_upd_self (o := .tup (ns'.map V.int)) ntu
      have s24 := s2.trans (s3.trans s4)
      have hb4 := s24 _ _ hb
      rw [hxl] at hb4
      refine ⟨_, rfl, _, rfl, .inl ⟨b, _, _, _, rfl, rfl, SqL.of hb4, atI_last _ _, (by show 2 ≤ sizeLine; decide), fun q hq => ?_⟩⟩
      have s5 := same_upd_self (o := .tup [.ref tu, .ref tl]) hq
      have s15 := s24.trans s5
      have dn5 := dn.same s15
      have key : NKeyAt (upd (upd (upd H2 pd (.lst (ns'.map V.int))) tu (.tup (ns'.map V.int))) q (.tup [.ref tu, .ref tl])) (endKey c) q := by
        have es : ns' = srt (leavesOf c.2) := srt_of pm pw
        refine ⟨[tu, tl], upd_same, ?_⟩
        unfold endKey
        rw [hrl]
        simp only [List.getLast?_append, List.getLast?_singleton, Option.some_or]
        refine .cons ?_ (.cons ?_ .nil)
        · rw [← hrl, ← es, s5 _ _ upd_same, List.map_map]; rfl
        · rw [s15 _ _ htl, placeV_map, List.map_map]; rfl
      have rows5 := rowIs_keep rows fun b o _ e => s15 b o e
      have rc5 := Stb.same rc1 s15
      have sHd : ∀ {ob : HO}, Same H (upd (upd (upd (upd H2 pd (.lst (ns'.map V.int))) tu (.tup (ns'.map V.int))) q (.tup [.ref tu, .ref tl])) d ob) := fun {ob} => same_chg (s1.trans s15) hd
      have stay : ∀ {ob : HO} b o, (S b ∧ H b ≠ none) → upd (upd (upd H2 pd (.lst (ns'.map V.int))) tu (.tup (ns'.map V.int))) q (.tup [.ref tu, .ref tl]) b = some o → upd (upd (upd (upd H2 pd (.lst (ns'.map V.int))) tu (.tup (ns'.map V.int))) q (.tup [.ref tu, .ref tl])) d ob b = some o := fun {ob} b o sb e => by
        have z' : b ≠ d := fun z => sb.2 (by rw [z]; exact hd)
        rw [upd_ne z']; exact e
      refine ⟨_, rfl, _, rfl, d, q, xs, endKey c, rfl, rfl, dn5, key, _, rfl, ?_⟩
      obtain ⟨ts', rp, e1, e2⟩ := rows_put (k := endKey c) (b := q) (c := t) rows5 rc5
      cases hl : lookN xs (endKey c) with
      | none =>
        rw [if_pos (by rfl)]
        refine ⟨_, rfl, _, rfl, _, rfl, d, q, t, xs, endKey c, rfl, rfl, rfl, dn5, key, (by omega), ?_⟩
        have ets := e1 hl
        subst ets
        refine ⟨_, _, _, _, _, rfl, sHd, dn5.put key, rowIs_keep rp stay, bi.new (look_none rows5 hl), ?_⟩
        have := putN_len xs (endKey c) q t
        rw [List.length_append]; show _ ≤ pre.length + 1; omega
      | some c0 =>
        rw [if_neg (by simp)]
        obtain ⟨t0, m0, et0, rt0⟩ := look_some rows5 hl
        refine ⟨_, rfl, _, rfl, _, rfl, d, q, c0, xs, endKey c, rfl, rfl, dn5, key, hl, c, t0.2, _, _, rc5, rt0, _, rfl, ?_⟩
        cases hlt : cntLt c t0.2 with
        | true =>
          rw [if_pos rfl]
          refine ⟨_, rfl, _, rfl, _, rfl, d, q, t, xs, endKey c, rfl, rfl, rfl, dn5, key, (by omega), ?_⟩
          have ets := e2 (by rw [hl]; rfl)
          subst ets
          refine ⟨_, _, _, _, _, rfl, sHd, dn5.put key, rowIs_keep rp stay, bi.put m0 et0 (LeC.of_lt hlt), ?_⟩
          · unfold putN
            rw [if_pos (by rw [hl]; rfl), List.length_map, List.length_append]
            show _ ≤ pre.length + 1; omega
        | false =>
          rw [if_neg (by decide)]
          refine ⟨_, _, _, _, _, rfl, s1.trans s15, dn5, rows5, bi.keep m0 et0 hlt, ?_⟩
          rw [List.length_append]; show _ ≤ pre.length + 1; omega
    · rintro σ H1 ⟨x0, r0, e0, xs, ts, rfl, s1, dn, rows, bi, xl⟩
      refine ⟨_, rfl, d, xs, rfl, dn, (by omega), fun l nl => ?_⟩
      have sl := same_upd_self (o := .lst (xs.map fun x => V.ref x.2.2)) nl
      refine k _ _ (ts.map (·.2)) (s1.trans sl) ⟨fun b m => ?_, fun c m => ?_⟩ ?_ ⟨l, _, rfl, .inr (s1.free nl), upd_same, ?_⟩
      · obtain ⟨t, mt, rfl⟩ := List.mem_map.mp m
        exact (bi.sub t mt).1
      · obtain ⟨t, mt, et, lt⟩ := bi.dom c m
        exact ⟨t.2, List.mem_map.mpr ⟨t, mt, rfl⟩, (bi.sub t mt).2.symm.trans et, lt⟩
      · rw [List.length_map, ← rows.length]; exact xl
      · exact rows_out (fun b o sb e => ⟨.inl sb.1, sl b o e⟩) rows
end
end LL

set_option Elab.async false
set_option linter.all false
set_option maxRecDepth 100000
set_option maxHeartbeats 4000000
namespace LL
open PySem PySem.Spec PyProof.Rows L2
open Si45 (Lies Leaf waysOf)
section
variable {P : Program} {w : World} {K : PySem.W.Frag} {mg : Str → Option Value} {base : Heap}
abbrev sFewestGaps : Stmt := top 16
theorem sc_fewest_gaps : FnScope ["leaves", "places", "found", "length", "longer", "counted"] ["leaves"] (defScope sFewestGaps) := ⟨rfl, rfl, rfl, by decide +kernel, rfl, by decide +kernel, by decide +kernel⟩
def spFewestGaps : Sp := fun vs H Q _ => ∃ (S : Addr → Prop) (v : V) (wss : List (List Lies)), vs = [v] ∧ repL (repL repWay) H S v wss ∧ Few wss ∧
  (growC (placesOf wss) wss.length = [] → ∀ H', Same H H' → Q .non H') ∧ (∀ H' u c, Same H H' → c ∈ growC (placesOf wss) wss.length → (∀ d ∈ growC (placesOf wss) wss.length, LeC c d) → repCnt H' (fun b => H b = none) u c → Q u H')
theorem ok_fewest_gaps {f : Addr} {fd : FuncData} (F : Fun K "fewest_gaps" "fewest_gaps" sFewestGaps f fd) (T : Txt K mg) (c_places_of : Cal P w K mg base 1 "places_of" ["leaves"] spPlacesOf) (c_made_longer_by_each : Cal P w K mg base 2 "made_longer_by_each" ["counted", "places"] spMadeLongerByEach)
    (c_best_by_ending : Cal P w K mg base 2 "best_by_ending" ["found"] spBestByEnding) : FnOk P w K mg base CX0 3 f fd ["leaves"] spFewestGaps := by
  refine F.ok sc_fewest_gaps (fun vs H Q E h => ?_) (fun cdv A outer s H vs Q E hr h => ?_)
  · obtain ⟨S, v, wss, rfl, _⟩ := h
    rfl
  · obtain ⟨S, v, wss, rfl, hv, few, k0, k1⟩ := h
    refine ⟨_, (pss_cons (ps_set (i := 1) sc_fewest_gaps.nd rfl (Or.inl rfl) (pe_cal c_places_of (hr.mono (by decide)) rfl (pa_cons (pv 0) pa_nil)))
      (pss_cons (ps_set (i := 2) sc_fewest_gaps.nd rfl (Or.inl rfl) (pe_lst (pa_cons (pe_tup (pa_cons pe_int (pa_cons (pe_lst pa_nil) pa_nil))) pa_nil)))
      (pss_cons (ps_for PassesOwn.never rfl (pi_range1 rfl T.b_range (pa_cons (pe_callB (r := rLen K) call_len_seq rfl T.b_len rfl (pa_cons (pv 0) pa_nil)) pa_nil)) (pg_name (i := 3) sc_fewest_gaps.nd rfl (Or.inl rfl)) (pss_cons (ps_set (i := 4) sc_fewest_gaps.nd rfl (Or.inl rfl) (pe_lst pa_nil))
      (pss_cons (ps_for PassesOwn.never rfl (pi_list (pv 2)) (pg_name (i := 5) sc_fewest_gaps.nd rfl (Or.inl rfl)) (pss_one (ps_expr (pe_bm PySem.F.plainAttrs_list PySem.F.slot_list_extend PySem.F.type_list_extend mt_extend (pv 4) (pa_cons (pe_cal c_made_longer_by_each (hr.mono (by decide)) rfl (pa_cons (pv 5) (pa_cons (pv 1) pa_nil))) pa_nil)))))
      (pss_one (ps_set (i := 2) sc_fewest_gaps.nd rfl (Or.inl rfl) (pe_cal c_best_by_ending (hr.mono (by decide)) rfl (pa_cons (pv 4) pa_nil)))))))
      (pss_one (ps_ret (pe_minD (room_lt hr (by decide)) rfl rfl T.b_min (pa_cons (pv 2) pa_nil))))))), ?_⟩
    refine ⟨_, rfl, S, v, wss, rfl, hv, few, fun H1 pl s1 rp => ?_⟩
    obtain ⟨a, us, rfl, sa, ha, hp⟩ := hv
    have hlen := hp.length
    have pl12 : (placesOf wss).length ≤ 12 := by
      have := placesOf_len few.2
      have := few.1
      omega
    generalize hpl : placesOf wss = places at rp k0 k1 pl12
    -- found = [(0, [])]
    refine ⟨Nat.zero_le _, fun q hq => ⟨(by show 2 ≤ sizeLine; decide), fun t ht => ⟨(by show 1 ≤ sizeLine; decide), fun o ho => ?_⟩⟩⟩
    have sq := same_upd_self (o := .lst []) hq
    have st := same_upd_self (o := .tup [.int 0, .ref q]) ht
    have so := same_upd_self (o := .lst [.ref t]) ho
    have s2 := s1.trans (sq.trans (st.trans so))
    have r0 : repL repCnt (upd (upd (upd H1 q (.lst [])) t (.tup [.int 0, .ref q])) o (.lst [.ref t])) (fun b => H b = none) (.ref o) (growC places 0) :=
      ⟨o, [.ref t], rfl, s1.free (sq.free (st.free ho)), upd_same, .cons ⟨t, .ref q, rfl, s1.free (sq.free ht), so _ _ upd_same, ⟨q, [], rfl, s1.free hq, so _ _ (st _ _ upd_same), .nil⟩⟩ .nil⟩
    refine ⟨_, rfl, a, us, rfl, .inl (SqL.of (s2 _ _ ha)), _, rfl, ?_, ?_, for_range (n := us.length) (fun i σ H' => ∃ (o : Addr) (x y z : Option V) (fs : List (Nat × List Lies)), σ = [some (.ref a), some pl, some (.ref o), x, y, z] ∧ Same H H' ∧ repRow H' (fun b => H b = none) pl places ∧ repL repCnt H' (fun b => H b = none) (.ref o) fs ∧ Dom fs (growC places i) ∧ fs.length ≤ 12 ^ i)
      ⟨o, none, none, none, _, rfl, s2, Stb.same rp (sq.trans (st.trans so)), r0, Dom.refl _, Nat.le_refl _⟩ ?_ ?_⟩
    · have := few.1; omega
    · have := few.1; omega
    · rintro i σ H2 hi ⟨o, x, y, z, fs, rfl, s2, rp2, ro, dm, fl⟩
      have i6 : i < 6 := by have := few.1; omega
      have big : sizeLine = 16777216 := rfl
      have e125 : 12 ^ 5 = 248832 := rfl
      have p5 : (12 : Nat) ^ i ≤ 12 ^ 5 := Nat.pow_le_pow_right (by decide) (by omega)
      -- longer = []
      refine ⟨Nat.zero_le _, fun lg hlg => ?_⟩
      have rp3 := Stb.dom rp2
      obtain ⟨o', vo, eo, so', ho', po⟩ := Stb.dom ro
      obtain rfl : o = o' := by injection eo
      have B0 : Acc repCnt H2 (upd H2 lg (.lst [])) (fun b => H b = none ∧ H2 b ≠ none) lg ([] : List (Nat × List Lies)) := Acc.start (Same.refl H2) hlg
      refine ⟨_, rfl, o, rfl, ⟨_, SqL.of (B0.same _ _ ho')⟩, for_rep (K := K) (R := repCnt) (S := fun b => H b = none ∧ H2 b ≠ none) (H1 := H2) (vs := vo) (ds := fs)
        (fun pre σ H' => ∃ z : Option V, σ = [some (.ref a), some pl, some (.ref o), some (.int (0 + i)), some (.ref lg), z] ∧ Acc repCnt H2 H' (fun b => H b = none ∧ H2 b ≠ none) lg (pre.flatMap fun c => eachC c places))
        ho' po ⟨z, rfl, B0⟩ (fun pre σ H' ⟨_, _, B⟩ => B.same _ _ ho') ?_ ?_⟩
      · rintro pre d post x1 σ H3 hd r ⟨z1, rfl, B⟩
        obtain ⟨va, hva, _⟩ := B.lst
        have dl : d.2.length = i := growC_row (dm.sub d (by rw [hd]; simp))
        refine ⟨_, rfl, .inl ⟨rfl, _, SqL.of hva⟩, _, rfl, _, rfl, (fun b => H b = none ∧ H2 b ≠ none), x1, pl, d, places, rfl, Stb.same r B.same, Stb.same rp3 B.same, by omega, by omega, fun H4 v4 s4 r4 => ?_⟩
        obtain ⟨b4, zs, rfl, _, h4, p4⟩ := r4
        have B4 := B.more s4
        have lz := p4.length
        have ll := eachC_len d places
        refine ⟨lg, b4, va, zs, rfl, rfl, s4 _ _ hva, h4, ?_, ?_⟩
        · have h1 := flatMap_len (f := fun c => eachC c places) (k := places.length) (l := pre) fun r _ => eachC_len r places
          have h2 : pre.length + 1 ≤ fs.length := by rw [hd]; simp
          rw [B.len hva]
          have h3 : places.length * pre.length ≤ 12 * 248832 := Nat.mul_le_mul pl12 (by omega)
          omega
        · refine ⟨_, rfl, ?_⟩
          rw [List.flatMap_append, List.flatMap_singleton]
          exact B4.pushAll (s4 _ _ hva) (B.viewP (fun b n q => ⟨.inl q, fun e => by rw [e] at q; exact q.2 hlg⟩) p4 s4)
      · rintro σ H3 ⟨z1, rfl, B⟩
        have lenL : (fs.flatMap fun c => eachC c places).length ≤ 12 ^ (i + 1) := by
          have h1 := flatMap_len (f := fun c => eachC c places) (k := places.length) (l := fs) fun r _ => eachC_len r places
          have h2 : places.length * fs.length ≤ 12 * 12 ^ i := Nat.mul_le_mul pl12 fl
          rw [Nat.pow_succ, Nat.mul_comm]
          omega
        have p6 : (12 : Nat) ^ (i + 1) ≤ 12 ^ 6 := Nat.pow_le_pow_right (by decide) (by omega)
        have e126 : 12 ^ 6 = 2985984 := rfl
        have dm1 := dm.step (places := places) fun c m => growC_row m
        -- found = best_by_ending(longer)
        refine ⟨_, rfl, _, _, _, rfl, B.rep, by omega, fun c m => ?_, fun H4 v4 bs s4 dm4 l4 r4 => ?_⟩
        · obtain ⟨d, md, mc⟩ := List.mem_flatMap.mp m
          have e1 := eachC_row mc
          have e2 : d.2.length = i := growC_row (dm.sub d md)
          exact ⟨fun z => by rw [z] at e1; simp at e1, by omega⟩
        · obtain ⟨b4, zs, rfl, n4, h4, p4⟩ := r4
          refine ⟨b4, _, _, _, bs, rfl, s2.trans (B.same.trans s4), Stb.same rp2 (B.same.trans s4), ⟨b4, zs, rfl, ?_, h4, ?_⟩, dm4.trans dm1, Nat.le_trans l4 lenL⟩
          · rcases n4 with (n4 | n4) | n4
            · exact n4.1
            · exact s2.free n4
            · exact s2.free (B.same.free n4)
          · refine Paired.mapP p4 fun _ _ r => Stb.mono r fun b _ q => ?_
            rcases q with (q | q) | q
            · exact q.1
            · exact s2.free q
            · exact s2.free (B.same.free q)
    · rintro σ H2 ⟨o, x, y, z, fs, rfl, s2, rp2, ro, dm, fl⟩
      rw [hlen] at dm
      obtain ⟨o', vo, eo, so', ho', po⟩ := ro
      obtain rfl : o = o' := by injection eo
      refine ⟨_, rfl, o, vo, fs, _, rfl, SqL.of ho', po, fun e => ?_, fun c ds u e ru => ?_⟩
      · subst e
        refine k0 ?_ H2 s2
        cases hg : growC places wss.length with
        | nil => rfl
        | cons c cs =>
          obtain ⟨b, hb, _⟩ := dm.dom c (by rw [hg]; simp)
          cases hb
      · subst e
        refine k1 H2 u (minC c ds) s2 (dm.sub _ (minC_mem ds c)) (fun d md => ?_) ru
        obtain ⟨b, mb, _, lb⟩ := dm.dom d md
        exact (minC_le ds c b mb).trans lb
end
end LL

set_option linter.all false
namespace LL
open Si45 (Lies Leaf waysOf wordsOf)
/-! ### words that hang together -/
theorem dups_snoc {α : Type} [DecidableEq α] (l : List α) (x : α) : (l ++ [x]).eraseDups = if x ∈ l then l.eraseDups else l.eraseDups ++ [x] := by
  rw [List.eraseDups_append]
  by_cases h : x ∈ l
  · rw [if_pos h]
    simp [List.removeAll, h]
  · rw [if_neg h]
    simp [List.removeAll, h, List.eraseDups_cons]
theorem mem_dups {α : Type} [DecidableEq α] {l : List α} {x : α} : x ∈ l.eraseDups ↔ x ∈ l := List.mem_eraseDups
theorem nodup_dups {α : Type} [DecidableEq α] : ∀ (n : Nat) (l : List α), l.length ≤ n → l.eraseDups.Nodup
  | _, [], _ => by simp
  | 0, a :: l, h => by simp at h
  | n + 1, a :: l, h => by
    rw [List.eraseDups_cons, List.nodup_cons]
    refine ⟨fun m => ?_, nodup_dups n _ ?_⟩
    · have := mem_dups.mp m
      simp at this
    · have := List.length_filter_le (fun b => !b == a) l
      simp at h
      omega
def Adj (w : List Lies) (u v : Nat) : Prop := ∃ x ∈ w, (x.from_ = u ∧ x.to_ = v) ∨ (x.from_ = v ∧ x.to_ = u)
theorem Adj.symm {w : List Lies} {u v : Nat} (h : Adj w u v) : Adj w v u := by
  obtain ⟨x, hx, h⟩ := h
  exact ⟨x, hx, h.symm⟩
inductive Conn (w : List Lies) (a : Nat) : Nat → Prop
  | refl : Conn w a a
  | step {u v : Nat} : Conn w a u → Adj w u v → Conn w a v
theorem Conn.trans {w : List Lies} {a b c : Nat} (h : Conn w a b) (k : Conn w b c) : Conn w a c := by
  induction k with
  | refl => exact h
  | step _ e ih => exact .step ih e
theorem Conn.symm {w : List Lies} {a b : Nat} (h : Conn w a b) : Conn w b a := by
  induction h with
  | refl => exact .refl
  | step _ e ih => exact Conn.trans (.step .refl e.symm) ih
theorem mem_words {w : List Lies} {v : Nat} : v ∈ wordsOf w ↔ ∃ x ∈ w, x.from_ = v ∨ x.to_ = v := by
  unfold wordsOf
  rw [mem_dups, List.mem_flatMap]
  constructor
  · rintro ⟨x, hx, h⟩
    refine ⟨x, hx, ?_⟩
    simp at h
    rcases h with h | h
    · exact .inl h.symm
    · exact .inr h.symm
  · rintro ⟨x, hx, h⟩
    refine ⟨x, hx, ?_⟩
    simp
    rcases h with h | h
    · exact .inl h.symm
    · exact .inr h.symm
theorem words_nodup (w : List Lies) : (wordsOf w).Nodup := nodup_dups _ _ (Nat.le_refl _)
theorem Adj.right {w : List Lies} {u v : Nat} (h : Adj w u v) : v ∈ wordsOf w := by
  obtain ⟨x, hx, h⟩ := h
  rw [mem_words]
  rcases h with ⟨_, h⟩ | ⟨h, _⟩
  · exact ⟨x, hx, .inr h⟩
  · exact ⟨x, hx, .inl h⟩
/-- one more turn -/
def nextS (w : List Lies) (s : List Nat) : List Nat := (wordsOf w).filter fun v => s.contains v || w.any fun x => (x.from_ == v && s.contains x.to_) || (x.to_ == v && s.contains x.from_)
theorem mem_next {w : List Lies} {s : List Nat} {v : Nat} : v ∈ nextS w s ↔ v ∈ wordsOf w ∧ (v ∈ s ∨ ∃ u ∈ s, Adj w u v) := by
  unfold nextS
  rw [List.mem_filter]
  refine and_congr_right fun _ => ?_
  simp only [Bool.or_eq_true, List.contains_iff_mem, List.any_eq_true, Bool.and_eq_true, beq_iff_eq]
  refine or_congr_right ?_
  constructor
  · rintro ⟨x, hx, ⟨h1, h2⟩ | ⟨h1, h2⟩⟩
    · exact ⟨_, h2, x, hx, .inr ⟨h1, rfl⟩⟩
    · exact ⟨_, h2, x, hx, .inl ⟨rfl, h1⟩⟩
  · rintro ⟨u, hu, x, hx, ⟨h1, h2⟩ | ⟨h1, h2⟩⟩
    · exact ⟨x, hx, .inr ⟨h2, h1 ▸ hu⟩⟩
    · exact ⟨x, hx, .inl ⟨h1, h2 ▸ hu⟩⟩
def turns (w : List Lies) (s : List Nat) : Nat → List Nat
  | 0 => s
  | k + 1 => nextS w (turns w s k)
theorem turns_front (w : List Lies) (s : List Nat) : ∀ k, turns w s (k + 1) = turns w (nextS w s) k
  | 0 => rfl
  | k + 1 => by
    show nextS w (turns w s (k + 1)) = nextS w (turns w (nextS w s) k)
    rw [turns_front w s k]
theorem spread_turns (w : List Lies) : ∀ (n : Nat) (s : List Nat), Si45.spread w n s = turns w s n
  | 0, s => rfl
  | n + 1, s => by
    show Si45.spread w n (nextS w s) = _
    rw [spread_turns w n, turns_front]
theorem filter_grow {α : Type} {p q : α → Bool} : ∀ {l : List α}, (∀ x ∈ l, p x = true → q x = true) → (l.filter p).length ≤ (l.filter q).length ∧ ((l.filter q).length ≤ (l.filter p).length → l.filter p = l.filter q)
  | [], _ => ⟨Nat.le_refl _, fun _ => rfl⟩
  | a :: l, h => by
    obtain ⟨h1, h2⟩ := filter_grow (p := p) (q := q) (l := l) fun x m => h x (by simp [m])
    cases hp : p a with
    | true =>
      have hq := h a (by simp) hp
      rw [List.filter_cons, if_pos hp, List.filter_cons, if_pos hq]
      refine ⟨by simp; exact h1, fun k => ?_⟩
      rw [h2 (by simpa using k)]
    | false =>
      rw [List.filter_cons, if_neg (by rw [hp]; decide), List.filter_cons]
      cases hq : q a with
      | true =>
        rw [if_pos rfl]
        refine ⟨by simp; omega, fun k => ?_⟩
        simp at k
        omega
      | false =>
        rw [if_neg (by decide)]
        exact ⟨h1, h2⟩
/-- a list that is the words that it has -/
def Sub (w : List Lies) (s : List Nat) : Prop := s = (wordsOf w).filter fun v => s.contains v
theorem filter_sub {w : List Lies} {p : Nat → Bool} : Sub w ((wordsOf w).filter p) := by
  unfold Sub
  refine (List.filter_congr fun v hv => ?_).symm
  rw [Bool.eq_iff_iff, List.contains_iff_mem, List.mem_filter]
  exact ⟨fun h => h.2, fun h => ⟨hv, h⟩⟩
theorem single_sub {w : List Lies} {v : Nat} (h : v ∈ wordsOf w) : Sub w [v] := by
  unfold Sub
  have nd := words_nodup w
  generalize wordsOf w = l at h nd
  induction l with
  | nil => cases h
  | cons a l ih =>
    obtain ⟨n1, n2⟩ := List.nodup_cons.mp nd
    rw [List.filter_cons]
    by_cases e : a = v
    · subst e
      rw [if_pos (by simp), List.filter_eq_nil_iff.mpr]
      intro x hx
      simp
      rintro rfl
      exact n1 hx
    · rw [if_neg (by simp; exact e)]
      exact ih ((List.mem_cons.mp h).resolve_left fun z => e z.symm) n2
theorem turns_sub {w : List Lies} {s : List Nat} (h : Sub w s) : ∀ k, Sub w (turns w s k)
  | 0 => h
  | k + 1 => filter_sub
theorem next_grow {w : List Lies} {s : List Nat} (h : Sub w s) : s.length ≤ (nextS w s).length ∧ ((nextS w s).length ≤ s.length → nextS w s = s) := by
  have g := filter_grow (p := fun v => s.contains v) (q := fun v => s.contains v || w.any fun x => (x.from_ == v && s.contains x.to_) || (x.to_ == v && s.contains x.from_)) (l := wordsOf w) fun x _ hx => by rw [hx]; rfl
  have e : (wordsOf w).filter (fun v => s.contains v) = s := h.symm
  rw [e] at g
  exact ⟨g.1, fun k => (g.2 k).symm⟩
theorem turns_end {w : List Lies} {s : List Nat} (h : Sub w s) (hs : 1 ≤ s.length) : ∀ k, nextS w (turns w s k) = turns w s k ∨ k + 1 ≤ (turns w s k).length
  | 0 => .inr hs
  | k + 1 => by
    rcases turns_end h hs k with e | e
    · left
      show nextS w (nextS w (turns w s k)) = nextS w (turns w s k)
      rw [e, e]
    · obtain ⟨g1, g2⟩ := next_grow (turns_sub h k)
      by_cases q : (nextS w (turns w s k)).length ≤ (turns w s k).length
      · left
        show nextS w (nextS w (turns w s k)) = nextS w (turns w s k)
        rw [g2 q, g2 q]
      · right
        show k + 1 + 1 ≤ (nextS w (turns w s k)).length
        omega
theorem turns_sound {w : List Lies} {a : Nat} : ∀ (k : Nat) {v : Nat}, v ∈ turns w [a] k → Conn w a v
  | 0, v, h => by
    have : v = a := by simpa [turns] using h
    subst this
    exact .refl
  | k + 1, v, h => by
    obtain ⟨_, h | ⟨u, hu, e⟩⟩ := mem_next.mp h
    · exact turns_sound k h
    · exact .step (turns_sound k hu) e
theorem turns_mono {w : List Lies} {a : Nat} (ha : a ∈ wordsOf w) : ∀ k, a ∈ turns w [a] k
  | 0 => by simp [turns]
  | k + 1 => mem_next.mpr ⟨ha, .inl (turns_mono ha k)⟩
open Classical in
/-- the words that hang together with a -/
noncomputable def comp (w : List Lies) (a : Nat) : List Nat := (wordsOf w).filter fun v => decide (Conn w a v)
theorem mem_comp {w : List Lies} {a v : Nat} : v ∈ comp w a ↔ v ∈ wordsOf w ∧ Conn w a v := by
  unfold comp
  rw [List.mem_filter]
  simp
theorem spread_comp {w : List Lies} {a : Nat} (ha : a ∈ wordsOf w) : Si45.spread w (wordsOf w).length [a] = comp w a := by
  rw [spread_turns]
  have hs := single_sub ha
  have hsub := turns_sub hs (wordsOf w).length
  have closed : nextS w (turns w [a] (wordsOf w).length) = turns w [a] (wordsOf w).length := by
    rcases turns_end hs (by simp) (wordsOf w).length with e | e
    · exact e
    · rw [hsub] at e
      have := List.length_filter_le (fun v => (turns w [a] (wordsOf w).length).contains v) (wordsOf w)
      omega
  have all : ∀ v, Conn w a v → v ∈ turns w [a] (wordsOf w).length := by
    intro v hv
    induction hv with
    | refl => exact turns_mono ha _
    | step _ e ih =>
      rw [← closed]
      exact mem_next.mpr ⟨e.right, .inr ⟨_, ih, e⟩⟩
  rw [hsub]
  unfold comp
  refine List.filter_congr fun v _ => ?_
  rw [Bool.eq_iff_iff, List.contains_iff_mem]
  simp
  exact ⟨turns_sound _, all v⟩
theorem comp_eq {w : List Lies} {a b : Nat} (hb : b ∈ wordsOf w) : comp w b = comp w a ↔ Conn w a b := by
  constructor
  · intro e
    have : b ∈ comp w b := mem_comp.mpr ⟨hb, .refl⟩
    rw [e] at this
    exact (mem_comp.mp this).2
  · intro h
    unfold comp
    refine List.filter_congr fun v _ => ?_
    rw [decide_eq_decide]
    exact ⟨fun k => h.trans k, fun k => h.symm.trans k⟩
open Classical in
/-- parts, one by one: the first word that is left, then those that do not hang together with it -/
noncomputable def partsGo (w : List Lies) : Nat → List Nat → List (List Nat)
  | 0, _ => []
  | _, [] => []
  | n + 1, v :: vs => comp w v :: partsGo w n (vs.filter fun u => !decide (Conn w v u))
open Classical in
theorem parts_go (w : List Lies) : ∀ (n : Nat) (vs : List Nat), vs.length ≤ n → (∀ v ∈ vs, v ∈ wordsOf w) → (vs.map (comp w)).eraseDups = partsGo w n vs
  | 0, [], _, _ => rfl
  | 0, v :: vs, h, _ => by simp at h
  | n + 1, [], _, _ => rfl
  | n + 1, v :: vs, h, hw => by
    rw [List.map_cons, List.eraseDups_cons]
    show _ = comp w v :: partsGo w n _
    have e : (vs.map (comp w)).filter (fun b => !b == comp w v) = (vs.filter fun u => !decide (Conn w v u)).map (comp w) := by
      rw [List.filter_map]
      congr 1
      refine List.filter_congr fun u hu => ?_
      show (!(comp w u == comp w v)) = _
      congr 1
      rw [Bool.eq_iff_iff, beq_iff_eq, decide_eq_true_iff]
      exact comp_eq (hw u (by simp [hu]))
    rw [e, parts_go w n]
    · have := List.length_filter_le (fun u => !decide (Conn w v u)) vs
      simp at h
      omega
    · intro u hu
      exact hw u (by simp [(List.mem_filter.mp hu).1])
theorem parts_eq (w : List Lies) : Si45.parts w = partsGo w (wordsOf w).length (wordsOf w) := by
  unfold Si45.parts
  rw [← parts_go w _ _ (Nat.le_refl _) fun v h => h]
  congr 1
  exact List.map_congr_left fun v hv => spread_comp hv
end LL

set_option linter.all false
/-! parts that are joined leaf by leaf are the parts of words that hang together -/
namespace LL
open Si45 (Lies Leaf waysOf wordsOf)
open Classical
open PySem L2
/-- the first word of each class -/
noncomputable def hsOf (R : Nat → Nat → Prop) : List Nat → List Nat
  | [] => []
  | v :: vs => v :: (hsOf R vs).filter fun u => !decide (R v u)
structure Eqv (R : Nat → Nat → Prop) : Prop where
  refl : ∀ a, R a a
  symm : ∀ {a b}, R a b → R b a
  trans : ∀ {a b c}, R a b → R b c → R a c
theorem hs_sub {R : Nat → Nat → Prop} : ∀ {W : List Nat} {u : Nat}, u ∈ hsOf R W → u ∈ W
  | v :: vs, u, h => by
    rcases List.mem_cons.mp h with h | h
    · rw [h]; simp
    · exact List.mem_cons_of_mem _ (hs_sub (List.mem_filter.mp h).1)
theorem hs_rep {R : Nat → Nat → Prop} (E : Eqv R) : ∀ {W : List Nat} {u : Nat}, u ∈ W → ∃ h ∈ hsOf R W, R h u
  | v :: vs, u, m => by
    by_cases r : R v u
    · exact ⟨v, List.mem_cons_self .., r⟩
    · rcases List.mem_cons.mp m with e | m
      · exact absurd (e ▸ E.refl u) r
      · obtain ⟨h, mh, rh⟩ := hs_rep E m
        refine ⟨h, List.mem_cons_of_mem _ (List.mem_filter.mpr ⟨mh, ?_⟩), rh⟩
        simp only [Bool.not_eq_true', decide_eq_false_iff_not]
        exact fun z => r (E.trans z rh)
theorem hs_apart {R : Nat → Nat → Prop} : ∀ W : List Nat, (hsOf R W).Pairwise fun a b => ¬ R a b
  | [] => .nil
  | v :: vs => by
    refine List.pairwise_cons.mpr ⟨fun u m => ?_, (hs_apart vs).filter _⟩
    have := (List.mem_filter.mp m).2
    simpa using this
theorem hs_filter {R : Nat → Nat → Prop} {p q : Nat → Bool} (h : ∀ x y, p x = false → R x y → q y = false) (h1 : ∀ x, p x = false → q x = false) : ∀ L : List Nat, (hsOf R (L.filter p)).filter q = (hsOf R L).filter q
  | [] => rfl
  | x :: L => by
    have ih := hs_filter h h1 L
    cases hp : p x with
    | true =>
      rw [List.filter_cons, if_pos hp]
      show (x :: (hsOf R (L.filter p)).filter fun u => !decide (R x u)).filter q = (x :: (hsOf R L).filter fun u => !decide (R x u)).filter q
      have e : ((hsOf R (L.filter p)).filter fun u => !decide (R x u)).filter q = ((hsOf R L).filter fun u => !decide (R x u)).filter q := by
        rw [List.filter_filter, List.filter_filter]
        have c : ∀ M : List Nat, M.filter (fun a => q a && !decide (R x a)) = (M.filter q).filter fun a => !decide (R x a) := fun M => by
          rw [List.filter_filter]
          congr 1
          funext a
          rw [Bool.and_comm]
        rw [c, c, ih]
      rw [List.filter_cons, List.filter_cons, e]
    | false =>
      rw [List.filter_cons, if_neg (by rw [hp]; decide), ih]
      show _ = (x :: (hsOf R L).filter fun u => !decide (R x u)).filter q
      rw [List.filter_cons, if_neg (by rw [h1 x hp]; decide), List.filter_filter]
      refine List.filter_congr fun y _ => ?_
      by_cases r : R x y
      · rw [h x y hp r]; rfl
      · rw [decide_eq_false r]; simp
theorem hs_step {R R' : Nat → Nat → Prop} (E' : Eqv R') (sub : ∀ a b, R a b → R' a b) : ∀ W : List Nat, hsOf R' W = hsOf R' (hsOf R W)
  | [] => rfl
  | v :: vs => by
    show v :: (hsOf R' vs).filter _ = v :: (hsOf R' ((hsOf R vs).filter _)).filter _
    rw [hs_step E' sub vs, hs_filter (R := R') (L := hsOf R vs)]
    · intro x y hx r
      have hx : R v x := by simpa using hx
      have : R' v y := E'.trans (sub _ _ hx) r
      simpa using this
    · intro x hx
      have hx : R v x := by simpa using hx
      have := sub _ _ hx
      simpa using this
/-- words that are not related at all -/
theorem hs_self {R : Nat → Nat → Prop} : ∀ {L : List Nat}, (L.Pairwise fun a b => ¬ R a b) → hsOf R L = L
  | [], _ => rfl
  | v :: vs, h => by
    obtain ⟨h1, h2⟩ := List.pairwise_cons.mp h
    show v :: (hsOf R vs).filter _ = _
    rw [hs_self h2, List.filter_eq_self.mpr fun u m => by simpa using h1 u m]
/-- one pair of them is related: the later one goes -/
theorem hs_pair {R : Nat → Nat → Prop} (E : Eqv R) {A B C : List Nat} {x y : Nat} (hxy : R x y) (h : (A ++ x :: (B ++ C)).Pairwise fun a b => ¬ R a b) (hy : ∀ z ∈ A ++ (B ++ C), ¬ R z y) : hsOf R (A ++ x :: (B ++ y :: C)) = A ++ x :: (B ++ C) := by
  induction A with
  | nil =>
    rw [List.nil_append] at h ⊢
    obtain ⟨h1, h2⟩ := List.pairwise_cons.mp h
    have hBC : hsOf R (B ++ y :: C) = B ++ y :: C := by
      refine hs_self ?_
      rw [List.pairwise_append] at h2 ⊢
      refine ⟨h2.1, List.pairwise_cons.mpr ⟨fun z m r => hy z (by simp [m]) (E.symm r), h2.2.1⟩, fun a ma b mb => ?_⟩
      rcases List.mem_cons.mp mb with e | mb
      · rw [e]; exact hy a (by simp [ma])
      · exact h2.2.2 a ma b mb
    show x :: (hsOf R (B ++ y :: C)).filter _ = _
    rw [hBC, List.filter_append, List.filter_cons, if_neg (by simpa using hxy)]
    rw [List.filter_eq_self.mpr fun u m => by simpa using h1 u (by simp [m]), List.filter_eq_self.mpr fun u m => by simpa using h1 u (by simp [m])]
    rfl
  | cons a A ih =>
    rw [List.cons_append] at h ⊢
    obtain ⟨h1, h2⟩ := List.pairwise_cons.mp h
    show a :: (hsOf R (A ++ x :: (B ++ y :: C))).filter _ = _
    rw [ih h2 fun z m => hy z (by simp only [List.cons_append]; exact List.mem_cons_of_mem _ m), List.filter_eq_self.mpr fun u m => by simpa using h1 u m]
    rfl
/-! ### parts by relations -/
structure PartIs (R : Nat → Nat → Prop) (W : List Nat) (h : Nat) (p : List Nat) : Prop where
  head : p.head? = some h
  perm : p.Perm (W.filter fun u => decide (R h u))
def PartsOk (R : Nat → Nat → Prop) (W : List Nat) (qs : List (List Nat)) : Prop := Paired (PartIs R W) (hsOf R W) qs
theorem Paired.split {α β : Type} {F : α → β → Prop} : ∀ {A B : List α} {qs : List β}, Paired F (A ++ B) qs → ∃ QA QB, qs = QA ++ QB ∧ Paired F A QA ∧ Paired F B QB
  | [], B, qs, h => ⟨[], qs, rfl, .nil, h⟩
  | a :: A, B, _, .cons h r => by
    obtain ⟨QA, QB, rfl, r1, r2⟩ := Paired.split (A := A) r
    exact ⟨_ :: QA, QB, rfl, .cons h r1, r2⟩
theorem Paired.from {α β : Type} {F : α → β → Prop} : ∀ {A : List α} {qs : List β}, Paired F A qs → ∀ q ∈ qs, ∃ a ∈ A, F a q
  | _, _, .cons h r, q, m => by
    rcases List.mem_cons.mp m with rfl | m
    · exact ⟨_, List.mem_cons_self .., h⟩
    · obtain ⟨a, ma, fa⟩ := Paired.from r q m
      exact ⟨a, List.mem_cons_of_mem _ ma, fa⟩
theorem Paired.impl {α β : Type} {F G : α → β → Prop} : ∀ {A : List α} {qs : List β}, Paired F A qs → (∀ a ∈ A, ∀ q, F a q → G a q) → Paired G A qs
  | _, _, .nil, _ => .nil
  | _, _, .cons h r, g => .cons (g _ (List.mem_cons_self ..) _ h) (Paired.impl r fun a m => g a (List.mem_cons_of_mem _ m))
theorem PartIs.mem {R : Nat → Nat → Prop} {W : List Nat} {h : Nat} {p : List Nat} (x : PartIs R W h p) {u : Nat} : u ∈ p ↔ u ∈ W ∧ R h u := by
  rw [x.perm.mem_iff, List.mem_filter]
  simp
theorem PartIs.headD {R : Nat → Nat → Prop} {W : List Nat} {h : Nat} {p : List Nat} (x : PartIs R W h p) : p.headD 0 = h := by
  cases p with
  | nil => have := x.head; cases this
  | cons a p => have := x.head; simp at this; rw [this]; rfl
/-- those that hold one of two words made one, where the first of them stood -/
def joinT (qs : List (List Nat)) (b l : Nat) : List Nat := (qs.filter fun p => p.contains b || p.contains l).flatten
def joinK (tg : List Nat) (p : List Nat) : List (List Nat) := if p.headD 0 = tg.headD 0 then [tg] else if tg.contains (p.headD 0) = true then [] else [p]
def joinP (qs : List (List Nat)) (b l : Nat) : List (List Nat) := qs.flatMap (joinK (joinT qs b l))
def joinR (R : Nat → Nat → Prop) (b l : Nat) (u v : Nat) : Prop := R u v ∨ (R u b ∧ R l v) ∨ (R u l ∧ R b v)
theorem joinR_eqv {R : Nat → Nat → Prop} (E : Eqv R) (b l : Nat) : Eqv (joinR R b l) where
  refl := fun a => .inl (E.refl a)
  symm := fun h => by
    rcases h with h | ⟨h1, h2⟩ | ⟨h1, h2⟩
    · exact .inl (E.symm h)
    · exact .inr (.inr ⟨E.symm h2, E.symm h1⟩)
    · exact .inr (.inl ⟨E.symm h2, E.symm h1⟩)
  trans := fun {a x c} h k => by
    rcases h with h | ⟨h1, h2⟩ | ⟨h1, h2⟩
    · rcases k with k | ⟨k1, k2⟩ | ⟨k1, k2⟩
      · exact .inl (E.trans h k)
      · exact .inr (.inl ⟨E.trans h k1, k2⟩)
      · exact .inr (.inr ⟨E.trans h k1, k2⟩)
    · rcases k with k | ⟨k1, k2⟩ | ⟨k1, k2⟩
      · exact .inr (.inl ⟨h1, E.trans h2 k⟩)
      · exact .inr (.inl ⟨h1, k2⟩)
      · exact .inl (E.trans h1 k2)
    · rcases k with k | ⟨k1, k2⟩ | ⟨k1, k2⟩
      · exact .inr (.inr ⟨h1, E.trans h2 k⟩)
      · exact .inl (E.trans h1 k2)
      · exact .inr (.inr ⟨h1, k2⟩)
theorem flatten_none {qs : List (List Nat)} {f : List Nat → Bool} (h : ∀ p ∈ qs, f p = false) : qs.filter f = [] := List.filter_eq_nil_iff.mpr fun p m => by rw [h p m]; decide
theorem joinK_self {tg : List Nat} {qs : List (List Nat)} (h : ∀ p ∈ qs, p.headD 0 ≠ tg.headD 0 ∧ p.headD 0 ∉ tg) : qs.flatMap (joinK tg) = qs := by
  induction qs with
  | nil => rfl
  | cons p qs ih =>
    obtain ⟨h1, h2⟩ := h p (by simp)
    rw [List.flatMap_cons, ih fun q m => h q (by simp [m])]
    unfold joinK
    rw [if_neg h1, if_neg (by simpa using h2)]
    rfl
section
variable {R : Nat → Nat → Prop} {W : List Nat} {qs : List (List Nat)} {b l : Nat}
/-- one part has both -/
theorem join_one (E : Eqv R) (h : PartsOk R W qs) (hb : b ∈ W) (hl : l ∈ W) (hbl : R b l) : joinP qs b l = qs := by
  obtain ⟨h0, m0, r0⟩ := hs_rep E hb
  obtain ⟨A, B, e⟩ := List.append_of_mem m0
  have ap := hs_apart (R := R) W
  unfold PartsOk at h
  rw [e] at h ap
  obtain ⟨QA, QB', rfl, pA, pB'⟩ := Paired.split h
  cases pB' with
  | @cons _ p0 _ QB f0 pB =>
  rw [List.pairwise_append, List.pairwise_cons] at ap
  obtain ⟨a1, ⟨a2, a3⟩, a4⟩ := ap
  have nA : ∀ a ∈ A, ¬ R a h0 := fun a m => a4 a m h0 (by simp)
  have nB : ∀ a ∈ B, ¬ R a h0 := fun a m r => a2 a m (E.symm r)
  have out : ∀ {a p}, PartIs R W a p → ¬ R a h0 → (p.contains b || p.contains l) = false ∧ (p.headD 0 ≠ p0.headD 0 ∧ p.headD 0 ∉ p0) := by
    intro a p f n
    refine ⟨?_, ?_, ?_⟩
    · rw [Bool.or_eq_false_iff]
      refine ⟨?_, ?_⟩
      · rw [List.contains_eq_mem]
        exact decide_eq_false fun z => n (E.trans (f.mem.mp z).2 (E.symm r0))
      · rw [List.contains_eq_mem]
        exact decide_eq_false fun z => n (E.trans (f.mem.mp z).2 (E.trans (E.symm hbl) (E.symm r0)))
    · rw [f.headD, f0.headD]
      exact fun z => n (by rw [z]; exact E.refl _)
    · rw [f.headD]
      exact fun z => n (E.symm (f0.mem.mp z).2)
  have oA : ∀ p ∈ QA, (p.contains b || p.contains l) = false ∧ (p.headD 0 ≠ p0.headD 0 ∧ p.headD 0 ∉ p0) := fun p m => by
    obtain ⟨a, ma, f⟩ := Paired.from pA p m
    exact out f (nA a ma)
  have oB : ∀ p ∈ QB, (p.contains b || p.contains l) = false ∧ (p.headD 0 ≠ p0.headD 0 ∧ p.headD 0 ∉ p0) := fun p m => by
    obtain ⟨a, ma, f⟩ := Paired.from pB p m
    exact out f (nB a ma)
  have c0 : (p0.contains b || p0.contains l) = true := by
    rw [Bool.or_eq_true]; left
    rw [List.contains_iff_mem]
    exact f0.mem.mpr ⟨hb, r0⟩
  have et : joinT (QA ++ p0 :: QB) b l = p0 := by
    unfold joinT
    rw [List.filter_append, flatten_none fun p m => (oA p m).1, List.filter_cons, if_pos c0, flatten_none fun p m => (oB p m).1]
    simp
  unfold joinP
  rw [et, List.flatMap_append, joinK_self fun p m => (oA p m).2, List.flatMap_cons, joinK_self fun p m => (oB p m).2]
  unfold joinK
  rw [if_pos rfl]
  rfl
/-- two parts, at x and y, are made one -/
theorem join_two {A B C : List Nat} {x y : Nat} (E : Eqv R) (nd : W.Nodup) (h : PartsOk R W qs) (e : hsOf R W = A ++ x :: (B ++ y :: C)) (hx : x ∈ W) (hy : y ∈ W) (hbW : b ∈ W) (hlW : l ∈ W)
    (hxy : (R x b ∧ R y l) ∨ (R x l ∧ R y b)) : PartsOk (joinR R b l) W (joinP qs b l) := by
  have ap := hs_apart (R := R) W
  unfold PartsOk at h
  rw [e] at h ap
  obtain ⟨QA, Q1, rfl, pA, p1⟩ := Paired.split h
  cases p1 with
  | @cons _ px _ Q2 fx p2 =>
  obtain ⟨QB, Q3, rfl, pB, p3⟩ := Paired.split p2
  cases p3 with
  | @cons _ py _ QC fy pC =>
  rw [List.pairwise_append, List.pairwise_cons, List.pairwise_append, List.pairwise_cons] at ap
  obtain ⟨a1, ⟨a2, b1, ⟨b2, b3⟩, b4⟩, a4⟩ := ap
  have nxy : ¬ R x y := a2 y (by simp)
  have nAx : ∀ a ∈ A, ¬ R a x := fun a m => a4 a m x (by simp)
  have nAy : ∀ a ∈ A, ¬ R a y := fun a m => a4 a m y (by simp)
  have nBx : ∀ a ∈ B, ¬ R a x := fun a m r => a2 a (by simp [m]) (E.symm r)
  have nBy : ∀ a ∈ B, ¬ R a y := fun a m => b4 a m y (by simp)
  have nCx : ∀ a ∈ C, ¬ R a x := fun a m r => a2 a (by simp [m]) (E.symm r)
  have nCy : ∀ a ∈ C, ¬ R a y := fun a m r => b2 a m (E.symm r)
  have cls : ∀ a, R a b ∨ R a l → R a x ∨ R a y := fun a r => by
    rcases hxy with ⟨r1, r2⟩ | ⟨r1, r2⟩
    · rcases r with r | r
      · exact .inl (E.trans r (E.symm r1))
      · exact .inr (E.trans r (E.symm r2))
    · rcases r with r | r
      · exact .inr (E.trans r (E.symm r2))
      · exact .inl (E.trans r (E.symm r1))
  have out : ∀ {a p}, PartIs R W a p → ¬ R a x → ¬ R a y → (p.contains b || p.contains l) = false ∧ (p.headD 0 ≠ (px ++ py).headD 0 ∧ p.headD 0 ∉ px ++ py) := by
    intro a p f n1 n2
    have hd : (px ++ py).headD 0 = x := by
      have := fx.headD
      cases px with
      | nil => have := fx.head; cases this
      | cons z px => exact this
    refine ⟨?_, ?_, ?_⟩
    · rw [Bool.or_eq_false_iff, List.contains_eq_mem, List.contains_eq_mem]
      refine ⟨decide_eq_false fun z => ?_, decide_eq_false fun z => ?_⟩
      · exact (cls a (.inl (f.mem.mp z).2)).elim n1 n2
      · exact (cls a (.inr (f.mem.mp z).2)).elim n1 n2
    · rw [f.headD, hd]
      exact fun z => n1 (by rw [z]; exact E.refl _)
    · rw [f.headD]
      intro z
      rcases List.mem_append.mp z with z | z
      · exact n1 (E.symm (fx.mem.mp z).2)
      · exact n2 (E.symm (fy.mem.mp z).2)
  have oA : ∀ p ∈ QA, (p.contains b || p.contains l) = false ∧ (p.headD 0 ≠ (px ++ py).headD 0 ∧ p.headD 0 ∉ px ++ py) := fun p m => by
    obtain ⟨a, ma, f⟩ := Paired.from pA p m
    exact out f (nAx a ma) (nAy a ma)
  have oB : ∀ p ∈ QB, (p.contains b || p.contains l) = false ∧ (p.headD 0 ≠ (px ++ py).headD 0 ∧ p.headD 0 ∉ px ++ py) := fun p m => by
    obtain ⟨a, ma, f⟩ := Paired.from pB p m
    exact out f (nBx a ma) (nBy a ma)
  have oC : ∀ p ∈ QC, (p.contains b || p.contains l) = false ∧ (p.headD 0 ≠ (px ++ py).headD 0 ∧ p.headD 0 ∉ px ++ py) := fun p m => by
    obtain ⟨a, ma, f⟩ := Paired.from pC p m
    exact out f (nCx a ma) (nCy a ma)
  have cx : (px.contains b || px.contains l) = true := by
    rw [Bool.or_eq_true, List.contains_iff_mem, List.contains_iff_mem]
    rcases hxy with ⟨r1, _⟩ | ⟨r1, _⟩
    · exact .inl (fx.mem.mpr ⟨hbW, r1⟩)
    · exact .inr (fx.mem.mpr ⟨hlW, r1⟩)
  have cy : (py.contains b || py.contains l) = true := by
    rw [Bool.or_eq_true, List.contains_iff_mem, List.contains_iff_mem]
    rcases hxy with ⟨_, r1⟩ | ⟨_, r1⟩
    · exact .inr (fy.mem.mpr ⟨hlW, r1⟩)
    · exact .inl (fy.mem.mpr ⟨hbW, r1⟩)
  have et : joinT (QA ++ px :: (QB ++ py :: QC)) b l = px ++ py := by
    unfold joinT
    rw [List.filter_append, flatten_none fun p m => (oA p m).1, List.filter_cons, if_pos cx, List.filter_append, flatten_none fun p m => (oB p m).1, List.filter_cons, if_pos cy, flatten_none fun p m => (oC p m).1]
    simp
  have hdx : (px ++ py).headD 0 = x := by
    have := fx.headD
    cases px with
    | nil => have := fx.head; cases this
    | cons z px => exact this
  have ej : joinP (QA ++ px :: (QB ++ py :: QC)) b l = QA ++ (px ++ py) :: (QB ++ QC) := by
    unfold joinP
    rw [et, List.flatMap_append, joinK_self fun p m => (oA p m).2, List.flatMap_cons, List.flatMap_append, joinK_self fun p m => (oB p m).2, List.flatMap_cons, joinK_self fun p m => (oC p m).2]
    have k1 : joinK (px ++ py) px = [px ++ py] := by
      unfold joinK
      rw [if_pos (by rw [fx.headD, hdx])]
    have k2 : joinK (px ++ py) py = [] := by
      unfold joinK
      rw [fy.headD, hdx, if_neg (fun z => nxy (by rw [z]; exact E.refl _)), if_pos]
      rw [List.contains_iff_mem]
      exact List.mem_append_right _ (fy.mem.mpr ⟨hy, E.refl _⟩)
    rw [k1, k2]
    simp
  have E' := joinR_eqv E b l
  have far : ∀ {a}, ¬ R a x → ¬ R a y → ∀ u, joinR R b l a u ↔ R a u := fun {a} n1 n2 u => by
    constructor
    · rintro (r | ⟨r, _⟩ | ⟨r, _⟩)
      · exact r
      · exact absurd (cls a (.inl r)) (fun z => z.elim n1 n2)
      · exact absurd (cls a (.inr r)) (fun z => z.elim n1 n2)
    · exact fun r => .inl r
  have nearx : ∀ u, joinR R b l x u ↔ R x u ∨ R y u := fun u => by
    constructor
    · rintro (r | ⟨r, r'⟩ | ⟨r, r'⟩)
      · exact .inl r
      · rcases hxy with ⟨q1, q2⟩ | ⟨q1, q2⟩
        · exact .inr (E.trans q2 r')
        · exact absurd (E.trans r (E.symm q2)) nxy
      · rcases hxy with ⟨q1, q2⟩ | ⟨q1, q2⟩
        · exact absurd (E.trans r (E.symm q2)) nxy
        · exact .inr (E.trans q2 r')
    · rintro (r | r)
      · exact .inl r
      · rcases hxy with ⟨q1, q2⟩ | ⟨q1, q2⟩
        · exact .inr (.inl ⟨q1, E.trans (E.symm q2) r⟩)
        · exact .inr (.inr ⟨q1, E.trans (E.symm q2) r⟩)
  have rxy' : joinR R b l x y := (nearx y).mpr (.inr (E.refl y))
  have eh : hsOf (joinR R b l) W = A ++ x :: (B ++ C) := by
    rw [hs_step E' (R := R) (fun _ _ r => .inl r), e]
    refine hs_pair E' rxy' ?_ ?_
    · rw [List.pairwise_append, List.pairwise_cons, List.pairwise_append]
      refine ⟨a1.imp_of_mem fun {p q} mp mq n r => n ((far (nAx p mp) (nAy p mp) q).mp r), ⟨fun u mu r => ?_, b1.imp_of_mem fun {p q} mp mq n r => n ((far (nBx p mp) (nBy p mp) q).mp r), b3.imp_of_mem fun {p q} mp mq n r => n ((far (nCx p mp) (nCy p mp) q).mp r), fun p mp q mq r => b4 p mp q (by simp [mq]) ((far (nBx p mp) (nBy p mp) q).mp r)⟩, fun p mp q mq r => ?_⟩
      · rcases (nearx u).mp r with r | r
        · rcases List.mem_append.mp mu with m | m
          · exact nBx u m (E.symm r)
          · exact nCx u m (E.symm r)
        · rcases List.mem_append.mp mu with m | m
          · exact nBy u m (E.symm r)
          · exact nCy u m (E.symm r)
      · refine a4 p mp q ?_ ((far (nAx p mp) (nAy p mp) q).mp r)
        rcases List.mem_cons.mp mq with z | mq
        · rw [z]; simp
        · rcases List.mem_append.mp mq with m | m <;> simp [m]
    · intro z mz r
      have key : ¬ R z x ∧ ¬ R z y := by
        rcases List.mem_append.mp mz with m | m
        · exact ⟨nAx z m, nAy z m⟩
        · rcases List.mem_append.mp m with m | m
          · exact ⟨nBx z m, nBy z m⟩
          · exact ⟨nCx z m, nCy z m⟩
      exact key.2 ((far key.1 key.2 y).mp r)
  have conv : ∀ {a p}, ¬ R a x → ¬ R a y → PartIs R W a p → PartIs (joinR R b l) W a p := fun {a p} n1 n2 f => by
    refine ⟨f.head, ?_⟩
    have : (W.filter fun u => decide (joinR R b l a u)) = W.filter fun u => decide (R a u) := List.filter_congr fun u _ => decide_eq_decide.mpr (far n1 n2 u)
    rw [this]; exact f.perm
  unfold PartsOk
  rw [ej, eh]
  refine Paired.append (Paired.impl pA fun a m q f => conv (nAx a m) (nAy a m) f) (.cons ⟨?_, ?_⟩ (Paired.append (Paired.impl pB fun a m q f => conv (nBx a m) (nBy a m) f) (Paired.impl pC fun a m q f => conv (nCx a m) (nCy a m) f)))
  · have := fx.head
    cases px with
    | nil => cases this
    | cons z px => exact this
  · have ndf : ∀ f : Nat → Bool, (W.filter f).Nodup := fun f => nd.filter f
    have nx : px.Nodup := fx.perm.nodup_iff.mpr (ndf _)
    have ny : py.Nodup := fy.perm.nodup_iff.mpr (ndf _)
    refine (List.perm_ext_iff_of_nodup ?_ (ndf _)).mpr fun u => ?_
    · rw [List.nodup_append]
      exact ⟨nx, ny, fun u mu v mv z => nxy (E.trans (fx.mem.mp mu).2 (by rw [z]; exact E.symm (fy.mem.mp mv).2))⟩
    · rw [List.mem_append, fx.mem, fy.mem, List.mem_filter, decide_eq_true_iff, nearx u]
      constructor
      · rintro (⟨m, r⟩ | ⟨m, r⟩)
        · exact ⟨m, .inl r⟩
        · exact ⟨m, .inr r⟩
      · rintro ⟨m, r | r⟩
        · exact .inl ⟨m, r⟩
        · exact .inr ⟨m, r⟩
theorem join_ok (E : Eqv R) (nd : W.Nodup) (h : PartsOk R W qs) (hb : b ∈ W) (hl : l ∈ W) : PartsOk (joinR R b l) W (joinP qs b l) := by
  by_cases r : R b l
  · have e : joinR R b l = R := by
      funext u v
      apply propext
      constructor
      · rintro (z | ⟨z1, z2⟩ | ⟨z1, z2⟩)
        · exact z
        · exact E.trans z1 (E.trans r z2)
        · exact E.trans z1 (E.trans (E.symm r) z2)
      · exact fun z => .inl z
    rw [e, join_one E h hb hl r]
    exact h
  · obtain ⟨x, mx, rx⟩ := hs_rep E hb
    obtain ⟨y, my, ry⟩ := hs_rep E hl
    have nxy : x ≠ y := fun z => r (E.trans (E.symm rx) (by rw [z]; exact ry))
    obtain ⟨A, T, e⟩ := List.append_of_mem mx
    have my' := my
    rw [e] at my'
    rcases List.mem_append.mp my' with m | m
    · obtain ⟨A', B, eA⟩ := List.append_of_mem m
      exact join_two E nd h (A := A') (B := B) (C := T) (x := y) (y := x) (by rw [e, eA]; simp) (hs_sub my) (hs_sub mx) hb hl (.inr ⟨ry, rx⟩)
    · rcases List.mem_cons.mp m with z | m
      · exact absurd z.symm nxy
      · obtain ⟨B, C, eT⟩ := List.append_of_mem m
        exact join_two E nd h (A := A) (B := B) (C := C) (by rw [e, eT]) (hs_sub mx) (hs_sub my) hb hl (.inl ⟨rx, ry⟩)
end
end LL

set_option linter.all false
namespace LL
open Si45 (Lies Leaf waysOf over total)
open Classical
open PySem (Paired)
theorem snoc_ind {α : Type} {P : List α → Prop} (h0 : P []) (h1 : ∀ l x, P l → P (l ++ [x])) (l : List α) : P l := by
  have h : ∀ l : List α, P l.reverse := by
    intro l
    induction l with
    | nil => exact h0
    | cons a l ih => rw [List.reverse_cons]; exact h1 _ _ ih
  have := h l.reverse
  rw [List.reverse_reverse] at this
  exact this
theorem conn_eqv (w : List Lies) : Eqv (Conn w) := ⟨fun _ => .refl, fun h => h.symm, fun h k => h.trans k⟩
theorem Adj.mono {w w' : List Lies} (h : ∀ x ∈ w, x ∈ w') {u v : Nat} (a : Adj w u v) : Adj w' u v := by
  obtain ⟨x, m, e⟩ := a
  exact ⟨x, h x m, e⟩
theorem Conn.mono {w w' : List Lies} (h : ∀ x ∈ w, x ∈ w') {u v : Nat} (c : Conn w u v) : Conn w' u v := by
  induction c with
  | refl => exact .refl
  | step _ e ih => exact .step ih (e.mono h)
theorem conn_snoc (w : List Lies) (x : Lies) : Conn (w ++ [x]) = joinR (Conn w) x.from_ x.to_ := by
  funext u v
  apply propext
  have E' := joinR_eqv (conn_eqv w) x.from_ x.to_
  constructor
  · intro c
    induction c with
    | refl => exact E'.refl _
    | step _ a ih =>
      refine E'.trans ih ?_
      obtain ⟨y, m, e⟩ := a
      rcases List.mem_append.mp m with m | m
      · exact .inl (.step .refl ⟨y, m, e⟩)
      · rw [List.mem_singleton.mp m] at e
        rcases e with ⟨e1, e2⟩ | ⟨e1, e2⟩
        · subst e1 e2; exact .inr (.inl ⟨.refl, .refl⟩)
        · subst e1 e2; exact .inr (.inr ⟨.refl, .refl⟩)
  · have sub : ∀ y ∈ w, y ∈ w ++ [x] := fun y m => by simp [m]
    have ed : Conn (w ++ [x]) x.from_ x.to_ := .step .refl ⟨x, by simp, .inl ⟨rfl, rfl⟩⟩
    rintro (c | ⟨c1, c2⟩ | ⟨c1, c2⟩)
    · exact c.mono sub
    · exact (c1.mono sub).trans (ed.trans (c2.mono sub))
    · exact (c1.mono sub).trans (ed.symm.trans (c2.mono sub))
theorem conn_nil {u v : Nat} : Conn [] u v ↔ u = v := by
  constructor
  · intro c
    cases c with
    | refl => rfl
    | step _ a => obtain ⟨y, m, _⟩ := a; cases m
  · rintro rfl; exact .refl
theorem parts_start {W : List Nat} (nd : W.Nodup) : PartsOk (Conn []) W (W.map fun v => [v]) := by
  unfold PartsOk
  have e : hsOf (Conn []) W = W := hs_self (nd.imp fun {a b} h c => h (conn_nil.mp c))
  rw [e]
  have key : ∀ v, v ∈ W → PartIs (Conn []) W v [v] := fun v m => by
    refine ⟨rfl, (List.perm_ext_iff_of_nodup (by simp) (nd.filter _)).mpr fun u => ?_⟩
    rw [List.mem_singleton, List.mem_filter, decide_eq_true_iff, conn_nil]
    constructor
    · rintro rfl; exact ⟨m, rfl⟩
    · exact fun h => h.2.symm
  have go : ∀ L : List Nat, (∀ v ∈ L, v ∈ W) → Paired (PartIs (Conn []) W) L (L.map fun v => [v]) := by
    intro L
    induction L with
    | nil => intro _; exact .nil
    | cons v L ih => intro h; exact .cons (key v (h v (by simp))) (ih fun u m => h u (by simp [m]))
  exact go W fun v m => m
/-- the parts, way by way -/
def partsBy (W : List Nat) (w : List Lies) : List (List Nat) := w.foldl (fun qs x => joinP qs x.from_ x.to_) (W.map fun v => [v])
theorem partsBy_snoc (W : List Nat) (w : List Lies) (x : Lies) : partsBy W (w ++ [x]) = joinP (partsBy W w) x.from_ x.to_ := by
  unfold partsBy
  rw [List.foldl_append]
  rfl
theorem partsBy_ok {W : List Nat} (nd : W.Nodup) : ∀ {w : List Lies}, (∀ x ∈ w, x.from_ ∈ W ∧ x.to_ ∈ W) → PartsOk (Conn w) W (partsBy W w) := by
  intro w
  refine snoc_ind (P := fun w => (∀ x ∈ w, x.from_ ∈ W ∧ x.to_ ∈ W) → PartsOk (Conn w) W (partsBy W w)) (fun _ => parts_start nd) (fun w x ih h => ?_) w
  rw [partsBy_snoc, conn_snoc]
  exact join_ok (conn_eqv w) nd (ih fun y m => h y (by simp [m])) (h x (by simp)).1 (h x (by simp)).2
theorem hs_cut {R : Nat → Nat → Prop} (E : Eqv R) (v : Nat) (L : List Nat) : hsOf R (L.filter fun u => !decide (R v u)) = (hsOf R L).filter fun u => !decide (R v u) := by
  rw [← hs_filter (R := R) (p := fun u => !decide (R v u)) (q := fun u => !decide (R v u))]
  · exact (List.filter_eq_self.mpr fun u m => (List.mem_filter.mp (hs_sub m)).2).symm
  · intro x y hx r
    have hx : R v x := by simpa using hx
    simpa using E.trans hx r
  · exact fun x h => h
theorem partsGo_hs (w : List Lies) : ∀ (n : Nat) (vs : List Nat), vs.length ≤ n → partsGo w n vs = (hsOf (Conn w) vs).map (comp w)
  | 0, [], _ => rfl
  | 0, v :: vs, h => by simp at h
  | n + 1, [], _ => rfl
  | n + 1, v :: vs, h => by
    show comp w v :: partsGo w n (vs.filter fun u => !decide (Conn w v u)) = (v :: (hsOf (Conn w) vs).filter fun u => !decide (Conn w v u)).map (comp w)
    rw [partsGo_hs w n, hs_cut (conn_eqv w), List.map_cons]
    have := List.length_filter_le (fun u => !decide (Conn w v u)) vs
    simp at h
    omega
theorem comp_head {R : Nat → Nat → Prop} (E : Eqv R) : ∀ {W : List Nat} {h : Nat}, h ∈ hsOf R W → (W.filter fun u => decide (R h u)).headD 0 = h
  | v :: vs, h, m => by
    rcases List.mem_cons.mp m with e | m
    · rw [List.filter_cons, if_pos (by rw [e]; exact decide_eq_true (E.refl v)), e]; rfl
    · obtain ⟨m1, m2⟩ := List.mem_filter.mp m
      have m2 : ¬ R v h := by simpa using m2
      rw [List.filter_cons, if_neg (by simpa using fun z => m2 (E.symm z))]
      exact comp_head E m1
/-- a part as it is found, and as it is told -/
structure SameP (q c : List Nat) : Prop where
  perm : q.Perm c
  head : q.headD 0 = c.headD 0
theorem parts_same {w : List Lies} : Paired SameP (partsBy (Si45.wordsOf w) w) (Si45.parts w) := by
  have nd := words_nodup w
  have hw : ∀ x ∈ w, x.from_ ∈ Si45.wordsOf w ∧ x.to_ ∈ Si45.wordsOf w := fun x m => ⟨mem_words.mpr ⟨x, m, .inl rfl⟩, mem_words.mpr ⟨x, m, .inr rfl⟩⟩
  have ok := partsBy_ok nd hw
  rw [parts_eq, partsGo_hs w _ _ (Nat.le_refl _)]
  unfold PartsOk at ok
  have hh : ∀ h ∈ hsOf (Conn w) (Si45.wordsOf w), (comp w h).headD 0 = h := fun h m => comp_head (conn_eqv w) m
  generalize hsOf (Conn w) (Si45.wordsOf w) = hs at ok hh
  generalize partsBy (Si45.wordsOf w) w = qs at ok
  induction ok with
  | nil => exact .nil
  | @cons h p hs qs f _ ih =>
    refine .cons ⟨f.perm, ?_⟩ (ih fun h m => hh h (by simp [m]))
    rw [f.headD, hh h (by simp)]
/-! ### what is told of them -/
theorem total_perm {a b : List Nat} (h : a.Perm b) : total a = total b := by
  induction h with
  | nil => rfl
  | cons x _ ih => show x + total _ = x + total _; rw [ih]
  | swap x y l => show y + (x + total l) = x + (y + total l); omega
  | trans _ _ h1 h2 => rw [h1, h2]
theorem total_snoc (l : List Nat) (x : Nat) : total (l ++ [x]) = total l + x := by
  induction l with
  | nil => show x + 0 = 0 + x; omega
  | cons a l ih => show a + total (l ++ [x]) = a + total l + x; rw [ih]; omega
def tooIn (w : List Lies) (p : List Nat) : Nat := total (p.map (over w))
def partOut (w : List Lies) (p : List Nat) : List Nat := [p.headD 0, p.length, tooIn w p]
def leastOut (w : List Lies) (qs : List (List Nat)) : List Int := Si45.ints (total (qs.map fun p => max 1 (tooIn w p)) :: qs.length :: qs.flatMap (partOut w))
theorem same_out {w : List Lies} {qs cs : List (List Nat)} (h : Paired SameP qs cs) : leastOut w qs = leastOut w cs := by
  have e1 : ∀ {q c : List Nat}, SameP q c → tooIn w q = tooIn w c := fun s => total_perm (s.perm.map _)
  have e2 : qs.map (fun p => max 1 (tooIn w p)) = cs.map fun p => max 1 (tooIn w p) := by
    induction h with
    | nil => rfl
    | cons s _ ih => rw [List.map_cons, List.map_cons, ih, e1 s]
  have e3 : qs.flatMap (partOut w) = cs.flatMap (partOut w) := by
    induction h with
    | nil => rfl
    | cons s _ ih =>
      rw [List.flatMap_cons, List.flatMap_cons]
      congr 1
      · unfold partOut; rw [s.head, s.perm.length_eq, e1 s]
      · exact ih (by simpa [e1 s] using e2)
  unfold leastOut
  rw [e2, e3, h.length]
theorem least_told (w : List Lies) : leastOut w (partsBy (Si45.wordsOf w) w) = (Si45.least w : Int) :: Si45.ints ((Si45.parts w).length :: (Si45.parts w).flatMap fun p => [p.headD 0, p.length, total (p.map (over w))]) := by
  rw [same_out parts_same]
  rfl
theorem partsOk_bounds {R : Nat → Nat → Prop} {W : List Nat} {qs : List (List Nat)} (h : PartsOk R W qs) : qs.length ≤ W.length ∧ ∀ p ∈ qs, p ≠ [] ∧ p.length ≤ W.length := by
  have hl : ∀ W : List Nat, (hsOf R W).length ≤ W.length := by
    intro W
    induction W with
    | nil => exact Nat.le_refl _
    | cons v vs ih =>
      show ((hsOf R vs).filter _).length + 1 ≤ vs.length + 1
      have := List.length_filter_le (fun u => !decide (R v u)) (hsOf R vs)
      omega
  unfold PartsOk at h
  refine ⟨by rw [← h.length]; exact hl W, fun p m => ?_⟩
  obtain ⟨a, _, f⟩ := Paired.from h p m
  refine ⟨fun z => (by rw [z] at f; have := f.head; cases this), ?_⟩
  rw [f.perm.length_eq]
  exact List.length_filter_le _ _
theorem words_len (w : List Lies) : (Si45.wordsOf w).length ≤ 2 * w.length := by
  have h : ∀ l : List Nat, l.eraseDups.length ≤ l.length := by
    intro l
    refine snoc_ind (P := fun l : List Nat => l.eraseDups.length ≤ l.length) (Nat.le_refl _) (fun l x ih => ?_) l
    rw [dups_snoc]
    split
    · rw [List.length_append]; omega
    · rw [List.length_append, List.length_append]; omega
  unfold Si45.wordsOf
  refine Nat.le_trans (h _) ?_
  induction w with
  | nil => exact Nat.le_refl _
  | cons x w ih => rw [List.flatMap_cons, List.length_append]; show 2 + _ ≤ 2 * (w.length + 1); omega
end LL

set_option Elab.async false
set_option linter.all false
set_option maxRecDepth 100000
set_option maxHeartbeats 4000000
namespace LL
open PySem PySem.Spec PyProof.Rows L2
open Si45 (Lies Leaf waysOf)
def natV (k : Nat) : V := .int (k : Nat)
theorem nats_rep {H : Hp} {S : Addr → Prop} {vs : List V} {ns : List Nat} : Paired (repN H S) vs ns ↔ vs = ns.map natV := by
  constructor
  · intro h
    induction h with
    | nil => rfl
    | cons r _ ih => rw [show _ = natV _ from r, ih]; rfl
  · rintro rfl
    have h := Paired.of_map (F := repN H S) (f := natV) (g := id) (fun c => (rfl : natV c = V.int ((id c : Nat) : Int))) ns
    rw [List.map_id] at h
    exact h
theorem natV_ints (ns : List Nat) : ns.map natV = (ns.map fun (k : Nat) => (k : Int)).map V.int := by rw [List.map_map]; rfl
theorem inV_nats (n : Nat) (ns : List Nat) : inV (.int (n : Nat)) (ns.map natV) = ns.contains n := by rw [natV_ints, inV_ints, contains_cast]
theorem flat_nats (ns : List Nat) : (ns.map natV).all flatV = true := by rw [natV_ints]; exact flat_ints _
section
variable {P : Program} {w : World} {K : PySem.W.Frag} {mg : Str → Option Value} {base : Heap}
/-! ### words_of -/
def twoW (x : Lies) : List Nat := [x.from_, x.to_]
theorem words_flat (ws : List Lies) : Si45.wordsOf ws = (ws.flatMap twoW).eraseDups := rfl
abbrev sWordsOf : Stmt := top 18
theorem sc_words_of : FnScope ["ways", "words", "way", "word"] ["ways"] (defScope sWordsOf) := ⟨rfl, rfl, rfl, by decide +kernel, rfl, by decide +kernel, by decide +kernel⟩
def spWordsOf : Sp := fun vs H Q _ => ∃ (S : Addr → Prop) (v : V) (ws : List Lies), vs = [v] ∧ repL repWay H S v ws ∧ ws.length ≤ 100 ∧ ∀ H' v', Same H H' → repL repN H' (fun b => H b = none) v' (Si45.wordsOf ws) → Q v' H'
theorem ok_words_of {f : Addr} {fd : FuncData} (F : Fun K "words_of" "words_of" sWordsOf f fd) (T : Txt K mg) : FnOk P w K mg base CX0 1 f fd ["ways"] spWordsOf := by
  refine F.ok sc_words_of (fun vs H Q E h => ?_) (fun cdv A outer s H vs Q E hr h => ?_)
  · obtain ⟨S, v, ws, rfl, _⟩ := h
    rfl
  · obtain ⟨S, _, ws, rfl, ⟨a, us, rfl, sa, ha, hp⟩, hws, k⟩ := h
    have big : sizeLine = 16777216 := rfl
    refine ⟨_, (pss_cons (ps_set (i := 1) sc_words_of.nd rfl (Or.inl rfl) (pe_lst pa_nil))
      (pss_cons (ps_for PassesOwn.never rfl (pi_list (pv 0)) (pg_name (i := 2) sc_words_of.nd rfl (Or.inl rfl)) (pss_one (ps_for PassesOwn.never rfl (pi_tup (pe_tup (pa_cons (pe_ix (r := rIx K) ix_seq (pv 2) pe_int (fun _ _ => rfl)) (pa_cons (pe_ix (r := rIx K) ix_seq (pv 2) pe_int (fun _ _ => rfl)) pa_nil)))) (pg_name (i := 3) sc_words_of.nd rfl (Or.inl rfl)) (pss_one (ps_if (pt_cmpR (r := rIn K true) op_notIn_seq (pv 3) (pv 1) (by with_unfolding_all rfl)) (pss_one (ps_expr (pe_bm PySem.F.plainAttrs_list PySem.F.slot_list_append PySem.F.type_list_append mt_append (pv 1) (pa_cons (pv 3) pa_nil)))) pss_nil)))))
      (pss_one (ps_ret (pv 1))))), ?_⟩
    refine ⟨Nat.zero_le _, fun l hl => ?_⟩
    have A0 : Acc repN H (upd H l (.lst [])) (fun _ => False) l (Si45.wordsOf []) := Acc.start (Same.refl H) hl
    refine ⟨_, rfl, a, rfl, ⟨_, SqL.of (A0.same _ _ ha)⟩, for_rep (K := K) (R := repWay) (S := S) (H1 := H) (vs := us) (ds := ws)
      (fun pre σ H' => ∃ x y : Option V, σ = [some (.ref a), some (.ref l), x, y] ∧ Acc repN H H' (fun _ => False) l (Si45.wordsOf pre)) ha hp ⟨none, none, rfl, A0⟩ (fun pre σ H' ⟨_, _, _, A1⟩ => A1.same _ _ ha) ?_ ?_⟩
    · rintro pre d post x σ H1 hd ⟨t, rfl, st, ht0⟩ ⟨x0, y0, rfl, A1⟩
      have ht := SqT.of (K := K) (A1.same _ _ ht0)
      have pl : pre.length ≤ ws.length := by rw [hd]; simp
      refine ⟨_, rfl, .inr (.inl ⟨t, _, _, _, rfl, rfl, ht, rfl, _, rfl, .inr (.inl ⟨t, _, _, _, rfl, rfl, ht, rfl, (by show 2 ≤ sizeLine; decide), fun q hq => ?_⟩)⟩)⟩
      have A2 := A1.more (same_upd_self (o := .tup [.int (d.from_ : Nat), .int (d.to_ : Nat)]) hq)
      have nq : q ≠ l := (A1.fresh hq).2
      have nHq : H q = none := (A1.fresh hq).1
      refine ⟨q, rfl, ⟨_, SqT.of upd_same⟩, for_tup (K := K) (a := q) (xs := [.int (d.from_ : Nat), .int (d.to_ : Nat)])
        (fun i σ H' => (∃ y : Option V, σ = [some (.ref a), some (.ref l), some (.ref t), y]) ∧ H' q = some (.tup [.int (d.from_ : Nat), .int (d.to_ : Nat)]) ∧ Acc repN H H' (fun _ => False) l (pre.flatMap twoW ++ (twoW d).take i).eraseDups)
        ⟨⟨y0, rfl⟩, upd_same, by simpa [words_flat] using A2⟩ (fun i σ H' _ ⟨_, h, _⟩ => SqT.of h) ?_ ?_⟩
      · rintro i x σ H2 hx ⟨⟨y, rfl⟩, hq2, A3⟩
        obtain ⟨n, en, rfl⟩ : ∃ n : Nat, (twoW d)[i]? = some n ∧ x = .int (n : Nat) := by
          match i, hx with
          | 0, hx => exact ⟨d.from_, rfl, by simpa using hx.symm⟩
          | 1, hx => exact ⟨d.to_, rfl, by simpa using hx.symm⟩
        obtain ⟨acc, hacc, pacc⟩ := A3.lst
        have eacc := nats_rep.mp pacc
        subst eacc
        have bl : (pre.flatMap twoW ++ (twoW d).take i).eraseDups.length ≤ 1000 := by
          have h1 : ∀ L : List Nat, L.eraseDups.length ≤ L.length := fun L => by
            refine snoc_ind (P := fun l : List Nat => l.eraseDups.length ≤ l.length) (Nat.le_refl _) (fun l x ih => ?_) L
            rw [dups_snoc]
            split
            · rw [List.length_append]; omega
            · rw [List.length_append, List.length_append]; omega
          have h2 := flatMap_len (f := twoW) (k := 2) (l := pre) fun x _ => Nat.le_refl 2
          have h3 := h1 (pre.flatMap twoW ++ (twoW d).take i)
          rw [List.length_append] at h3
          have h4 : ((twoW d).take i).length ≤ 2 := by rw [List.length_take]; show min i 2 ≤ 2; omega
          omega
        refine ⟨_, rfl, _, rfl, l, _, rfl, .inl (SqL.of hacc), rfl, flat_nats _, _, rfl, ?_⟩
        rw [inV_nats]
        have es : pre.flatMap twoW ++ (twoW d).take (i + 1) = (pre.flatMap twoW ++ (twoW d).take i) ++ [n] := by rw [take_snoc en, List.append_assoc]
        have ed := dups_snoc (pre.flatMap twoW ++ (twoW d).take i) n
        have em : (pre.flatMap twoW ++ (twoW d).take i).eraseDups.contains n = decide (n ∈ pre.flatMap twoW ++ (twoW d).take i) := by
          rw [List.contains_eq_mem]
          exact decide_eq_decide.mpr mem_dups
        rw [em]
        by_cases hn : n ∈ pre.flatMap twoW ++ (twoW d).take i
        · rw [if_pos hn] at ed
          rw [decide_eq_true hn]
          refine ite2 (fun e => absurd (show false = true from e) (by decide)) fun _ => ?_
          refine ⟨⟨_, rfl⟩, hq2, ?_⟩
          rw [es, ed]
          exact A3
        · rw [if_neg hn] at ed
          rw [decide_eq_false hn]
          refine ite2 (fun _ => ?_) fun e => absurd (show true = true from rfl) e
          refine ⟨_, rfl, .inl ⟨rfl, _, SqL.of hacc⟩, _, rfl, l, _, _, rfl, rfl, hacc, (by rw [List.length_map]; omega), ⟨_, rfl⟩, ?_, ?_⟩
          · rw [upd_ne nq]; exact hq2
          · rw [es, ed]
            exact A3.push hacc (d := n) rfl
      · rintro σ H2 ⟨⟨y, rfl⟩, hq2, A3⟩
        refine ⟨_, _, rfl, ?_⟩
        rw [words_flat, List.flatMap_append, List.flatMap_singleton]
        exact A3
    · rintro σ H1 ⟨x0, y0, rfl, A1⟩
      exact ⟨_, rfl, k H1 _ A1.same (Stb.mono A1.rep fun b _ q => q.elim False.elim id)⟩

/-! ### joined -/
theorem flt_cat {qs : List (List Nat)} {p : List Nat → Bool} {d : List Nat} (h : p d = true) : ((qs ++ [d]).filter p).flatten = (qs.filter p).flatten ++ d := by
  rw [flt_yes h, List.flatten_append]; simp
theorem flt_cat_no {qs : List (List Nat)} {p : List Nat → Bool} {d : List Nat} (h : p d = false) : ((qs ++ [d]).filter p).flatten = (qs.filter p).flatten := by
  rw [flt_no h]
theorem flatten_len {qs : List (List Nat)} {k : Nat} (h : ∀ p ∈ qs, p.length ≤ k) : qs.flatten.length ≤ k * qs.length := by
  induction qs with
  | nil => exact Nat.zero_le _
  | cons p qs ih =>
    have h1 := h p (by simp)
    have h2 := ih fun q m => h q (by simp [m])
    rw [List.flatten_cons, List.length_append, List.length_cons, Nat.mul_succ]
    omega
theorem joinK_len (tg p : List Nat) : (joinK tg p).length ≤ 1 := by
  unfold joinK
  split
  · exact Nat.le_refl _
  · split
    · exact Nat.zero_le _
    · exact Nat.le_refl _
abbrev sJoined : Stmt := top 19
theorem sc_joined : FnScope ["parts", "begin", "lead", "together", "part", "kept"] ["parts", "begin", "lead"] (defScope sJoined) := ⟨rfl, rfl, rfl, by decide +kernel, rfl, by decide +kernel, by decide +kernel⟩
def holds2 (b l : Nat) (p : List Nat) : Bool := p.contains b || p.contains l
def spJoined : Sp := fun vs H Q _ => ∃ (S : Addr → Prop) (v : V) (qs : List (List Nat)) (b l : Nat), vs = [v, .int (b : Nat), .int (l : Nat)] ∧ repL (repL repN) H S v qs ∧ qs.length ≤ 100 ∧ (∀ p ∈ qs, p ≠ [] ∧ p.length ≤ 100) ∧ joinT qs b l ≠ [] ∧ ∀ H' v', Same H H' → repL (repL repN) H' (Or2 S H) v' (joinP qs b l) → Q v' H'
theorem ok_joined {f : Addr} {fd : FuncData} (F : Fun K "joined" "joined" sJoined f fd) (T : Txt K mg) : FnOk P w K mg base CX0 1 f fd ["parts", "begin", "lead"] spJoined := by
  refine F.ok sc_joined (fun vs H Q E h => ?_) (fun cdv A outer s H vs Q E hr h => ?_)
  · obtain ⟨S, v, qs, b, l, rfl, _⟩ := h
    rfl
  · obtain ⟨S, _, qs, b, l, rfl, ⟨a, us, rfl, sa, ha, hp⟩, hqs, hps, hne, k⟩ := h
    have big : sizeLine = 16777216 := rfl
    refine ⟨_, (pss_cons (ps_set (i := 3) sc_joined.nd rfl (Or.inl rfl) (pe_lst pa_nil))
      (pss_cons (ps_for PassesOwn.never rfl (pi_list (pv 0)) (pg_name (i := 4) sc_joined.nd rfl (Or.inl rfl)) (pss_one (ps_if (PW.pt (pw_or (pt_cmpR (r := rIn K false) op_in_seq (pv 1) (pv 4) (by with_unfolding_all rfl)) (pw_or1 (pt_cmpR (r := rIn K false) op_in_seq (pv 2) (pv 4) (by with_unfolding_all rfl))))) (pss_one (ps_set (i := 3) sc_joined.nd rfl (Or.inl rfl) (pe_op op_cat (pv 3) (pv 4)))) pss_nil)))
      (pss_cons (ps_set (i := 5) sc_joined.nd rfl (Or.inl rfl) (pe_lst pa_nil))
      (pss_cons (ps_for PassesOwn.never rfl (pi_list (pv 0)) (pg_name (i := 4) sc_joined.nd rfl (Or.inl rfl)) (pss_one (ps_if (pt_cmpR op_eq (pe_ix (r := rIx K) ix_seq (pv 4) pe_int (fun _ _ => rfl)) (pe_ix (r := rIx K) ix_seq (pv 3) pe_int (fun _ _ => rfl)) (nomark _)) (pss_one (ps_expr (pe_bm PySem.F.plainAttrs_list PySem.F.slot_list_append PySem.F.type_list_append mt_append (pv 5) (pa_cons (pv 3) pa_nil)))) (pss_one (ps_if (pt_cmpR (r := rIn K true) op_notIn_seq (pe_ix (r := rIx K) ix_seq (pv 4) pe_int (fun _ _ => rfl)) (pv 3) (by with_unfolding_all rfl)) (pss_one (ps_expr (pe_bm PySem.F.plainAttrs_list PySem.F.slot_list_append PySem.F.type_list_append mt_append (pv 5) (pa_cons (pv 4) pa_nil)))) pss_nil)))))
      (pss_one (ps_ret (pv 5))))))), ?_⟩
    -- together = []
    refine ⟨Nat.zero_le _, fun o ho => ?_⟩
    have s0 := same_upd_self (o := .lst []) ho
    refine ⟨_, rfl, a, rfl, ⟨_, SqL.of (s0 _ _ ha)⟩, for_rep (K := K) (R := repL repN) (S := S) (H1 := H) (vs := us) (ds := qs)
      (fun pre σ H' => ∃ (o : Addr) (x y : Option V), σ = [some (.ref a), some (.int (b : Nat)), some (.int (l : Nat)), some (.ref o), x, y] ∧ Same H H' ∧ repL repN H' (fun b => H b = none) (.ref o) ((pre.filter (holds2 b l)).flatten))
      ha hp ⟨o, none, none, rfl, s0, ⟨o, [], rfl, ho, upd_same, .nil⟩⟩ (fun pre σ H' ⟨_, _, _, _, s1, _⟩ => s1 _ _ ha) ?_ ?_⟩
    · rintro pre d post x σ H1 hd r ⟨o, x0, y0, rfl, s1, ro⟩
      obtain ⟨c, cs, rfl, sc, hc0, pc⟩ := r
      have ecs := nats_rep.mp pc
      subst ecs
      have hc := s1 _ _ hc0
      obtain ⟨o', os, eo, no, hos, po⟩ := ro
      cases eo
      have eos := nats_rep.mp po
      subst eos
      have pre_sub : ∀ p ∈ pre, p.length ≤ 100 := fun p m => (hps p (by rw [hd]; simp [m])).2
      have pl : pre.length < qs.length := by rw [hd]; simp
      have fl : ((pre.filter (holds2 b l)).flatten).length ≤ 100 * 100 := by
        have h1 := flatten_len (qs := pre.filter (holds2 b l)) (k := 100) fun p m => pre_sub p (List.mem_filter.mp m).1
        have h2 := List.length_filter_le (holds2 b l) pre
        have h3 : 100 * (pre.filter (holds2 b l)).length ≤ 100 * 100 := Nat.mul_le_mul_left _ (by omega)
        omega
      have dl : d.length ≤ 100 := (hps d (by rw [hd]; simp)).2
      have fin : holds2 b l d = true → ∀ q, H1 q = none → ∃ (o : Addr) (x y : Option V), ([some (.ref a), some (.int (b : Nat)), some (.int (l : Nat)), some (.ref q), some (.ref c), y0] : St) = [some (.ref a), some (.int (b : Nat)), some (.int (l : Nat)), some (.ref o), x, y] ∧ Same H (upd H1 q (.lst (((pre.filter (holds2 b l)).flatten).map natV ++ d.map natV))) ∧ repL repN (upd H1 q (.lst (((pre.filter (holds2 b l)).flatten).map natV ++ d.map natV))) (fun b => H b = none) (.ref o) (((pre ++ [d]).filter (holds2 b l)).flatten) := by
        intro hw q hq
        refine ⟨q, _, _, rfl, same_upd s1 hq, q, _, rfl, s1.free hq, upd_same, ?_⟩
        rw [flt_cat hw]
        exact nats_rep.mpr (by rw [List.map_append])
      refine ⟨_, rfl, _, rfl, c, _, rfl, .inl (SqL.of hc), rfl, flat_nats _, _, rfl, ?_⟩
      rw [inV_nats]
      refine ite2 (fun e => ?_) (fun e => ?_)
      · have e : d.contains b = true := e
        have hw : holds2 b l d = true := by unfold holds2; rw [e]; rfl
        refine ⟨_, rfl, _, rfl, o, c, _, _, rfl, rfl, hos, hc, (by rw [List.length_map, List.length_map]; omega), fun q hq => ?_⟩
        exact fin hw q hq
      · have e : d.contains b = false := Bool.eq_false_iff.mpr e
        refine ⟨_, rfl, _, rfl, c, _, rfl, .inl (SqL.of hc), rfl, flat_nats _, _, rfl, ?_⟩
        rw [inV_nats]
        refine ite2 (fun e2 => ?_) (fun e2 => ?_)
        · have e2 : d.contains l = true := e2
          have hw : holds2 b l d = true := by unfold holds2; rw [e, e2]; rfl
          refine ⟨_, rfl, _, rfl, o, c, _, _, rfl, rfl, hos, hc, (by rw [List.length_map, List.length_map]; omega), fun q hq => ?_⟩
          exact fin hw q hq
        · have e2 : d.contains l = false := Bool.eq_false_iff.mpr e2
          have hw : holds2 b l d = false := by unfold holds2; rw [e, e2]; rfl
          refine ⟨o, _, _, rfl, s1, o, _, rfl, no, hos, ?_⟩
          rw [flt_cat_no hw]
          exact nats_rep.mpr rfl
    · rintro σ H1 ⟨o, x0, y0, rfl, s1, ro⟩
      obtain ⟨o', os, eo, no, hos, po⟩ := ro
      cases eo
      have eos := nats_rep.mp po
      subst eos
      have ejt : (qs.filter (holds2 b l)).flatten = joinT qs b l := rfl
      rw [ejt] at hos po
      obtain ⟨t0, tr, etg⟩ : ∃ t0 tr, joinT qs b l = t0 :: tr := by
        cases hj : joinT qs b l with
        | nil => exact absurd hj hne
        | cons t0 tr => exact ⟨t0, tr, rfl⟩
      have hd0 : (joinT qs b l).headD 0 = t0 := by rw [etg]; rfl
      have at0 : atI ((joinT qs b l).map natV) (0 : Int) = some (natV t0) := atI_nat (j := 0) (by rw [etg]; rfl)
      -- kept = []
      refine ⟨Nat.zero_le _, fun kp hkp => ?_⟩
      have B0 : Acc (repL repN) H1 (upd H1 kp (.lst [])) (fun b => S b ∨ H b = none) kp ([] : List (List Nat)) := Acc.start (Same.refl H1) hkp
      refine ⟨_, rfl, a, rfl, ⟨_, SqL.of (B0.same _ _ (s1 _ _ ha))⟩, for_rep (K := K) (R := repL repN) (S := S) (H1 := H) (vs := us) (ds := qs)
        (fun pre σ H' => ∃ x : Option V, σ = [some (.ref a), some (.int (b : Nat)), some (.int (l : Nat)), some (.ref o), x, some (.ref kp)] ∧ Acc (repL repN) H1 H' (fun b => S b ∨ H b = none) kp (pre.flatMap (joinK (joinT qs b l))))
        ha hp ⟨x0, rfl, B0⟩ (fun pre σ H' ⟨_, _, B⟩ => B.same _ _ (s1 _ _ ha)) ?_ ?_⟩
      · rintro pre d post x σ H2 hd r ⟨x1, rfl, B⟩
        have rH1 : repL repN H1 (fun b => S b ∨ H b = none) x d := Stb.keep (fun b' o' sb e => ⟨.inl sb, s1 b' o' e⟩) r
        obtain ⟨c, cs, rfl, sc, hc0, pc⟩ := r
        have ecs := nats_rep.mp pc
        subst ecs
        have hc := B.same _ _ (s1 _ _ hc0)
        have hos2 := B.same _ _ hos
        obtain ⟨dne, dl⟩ := hps d (by rw [hd]; simp)
        obtain ⟨d0, dr, ed⟩ : ∃ d0 dr, d = d0 :: dr := by
          cases d with
          | nil => exact absurd rfl dne
          | cons d0 dr => exact ⟨d0, dr, rfl⟩
        have dh : d.headD 0 = d0 := by rw [ed]; rfl
        have atd : atI (d.map natV) (0 : Int) = some (natV d0) := atI_nat (j := 0) (by rw [ed]; rfl)
        have pl : pre.length < qs.length := by rw [hd]; simp
        have kl : (pre.flatMap (joinK (joinT qs b l))).length ≤ pre.length := by
          have := flatMap_len (f := joinK (joinT qs b l)) (k := 1) (l := pre) fun p _ => joinK_len _ p
          omega
        obtain ⟨acc, hacc, _⟩ := B.lst
        have alen := B.len hacc
        refine ⟨_, rfl, .inl ⟨c, _, _, _, rfl, rfl, SqL.of hc, atd, _, rfl, .inl ⟨o, _, _, _, rfl, rfl, SqL.of hos2, at0, rfl, _, rfl, ?_⟩⟩⟩
        refine ifN (fun e => ?_) (fun e => ?_)
        · refine ⟨_, rfl, .inl ⟨rfl, _, SqL.of hacc⟩, _, rfl, kp, acc, _, rfl, rfl, hacc, (by omega), _, rfl, ?_⟩
          rw [List.flatMap_append, List.flatMap_singleton]
          rw [show joinK (joinT qs b l) d = [joinT qs b l] by unfold joinK; rw [if_pos (by rw [dh, hd0, e])]]
          exact B.push hacc (B.old ⟨o, _, rfl, .inr no, hos, po⟩)
        · refine ⟨_, rfl, .inl ⟨c, _, _, _, rfl, rfl, SqL.of hc, atd, _, rfl, o, _, rfl, .inl (SqL.of hos2), rfl, flat_nats _, _, rfl, ?_⟩⟩
          have e1 : ¬ d.headD 0 = (joinT qs b l).headD 0 := by rw [dh, hd0]; exact e
          have ein : inV (natV d0) ((joinT qs b l).map natV) = (joinT qs b l).contains d0 := inV_nats d0 _
          rw [ein]
          cases hct : (joinT qs b l).contains d0 with
          | true =>
            refine ite2 (fun e => absurd (show false = true from e) (by decide)) fun _ => ?_
            refine ⟨_, rfl, ?_⟩
            rw [List.flatMap_append, List.flatMap_singleton]
            rw [show joinK (joinT qs b l) d = [] by unfold joinK; rw [if_neg e1, if_pos (by rw [dh]; exact hct)], List.append_nil]
            exact B
          | false =>
            refine ite2 (fun _ => ?_) fun e => absurd (show true = true from rfl) e
            refine ⟨_, rfl, .inl ⟨rfl, _, SqL.of hacc⟩, _, rfl, kp, acc, _, rfl, rfl, hacc, (by omega), _, rfl, ?_⟩
            rw [List.flatMap_append, List.flatMap_singleton]
            rw [show joinK (joinT qs b l) d = [d] by unfold joinK; rw [if_neg e1, if_neg (by rw [dh, hct]; decide)]]
            exact B.push hacc (B.old rH1)
      · rintro σ H2 ⟨x1, rfl, B⟩
        refine ⟨_, rfl, k H2 _ (s1.trans B.same) ?_⟩
        exact Stb.mono B.rep fun b' _ q => q.elim id fun q => .inr (s1.free q)
end
end LL

set_option Elab.async false
set_option linter.all false
set_option maxRecDepth 100000
set_option maxHeartbeats 4000000
namespace LL
open PySem PySem.Spec PyProof.Rows L2
open Si45 (Lies Leaf waysOf)
section
variable {P : Program} {w : World} {K : PySem.W.Frag} {mg : Str → Option Value} {base : Heap}
/-! ### parts_of -/
theorem way_words {ws : List Lies} {x : Lies} (m : x ∈ ws) : x.from_ ∈ Si45.wordsOf ws ∧ x.to_ ∈ Si45.wordsOf ws := ⟨mem_words.mpr ⟨x, m, .inl rfl⟩, mem_words.mpr ⟨x, m, .inr rfl⟩⟩
theorem joinT_ne {R : Nat → Nat → Prop} {W : List Nat} {qs : List (List Nat)} {b l : Nat} (E : Eqv R) (h : PartsOk R W qs) (hb : b ∈ W) : joinT qs b l ≠ [] := by
  obtain ⟨x, mx, rx⟩ := hs_rep E hb
  unfold PartsOk at h
  obtain ⟨i, hi⟩ := List.mem_iff_getElem?.mp mx
  obtain ⟨p, hp, f⟩ := Paired.get h hi
  intro z
  have mp : p ∈ qs := List.mem_of_getElem? hp
  have bp : b ∈ p := f.mem.mpr ⟨hb, rx⟩
  have : b ∈ joinT qs b l := by
    unfold joinT
    rw [List.mem_flatten]
    refine ⟨p, List.mem_filter.mpr ⟨mp, ?_⟩, bp⟩
    rw [List.contains_eq_mem, decide_eq_true bp]
    rfl
  rw [z] at this
  cases this
abbrev sPartsOf : Stmt := top 20
theorem sc_parts_of : FnScope ["ways", "parts", "way", "word"] ["ways"] (defScope sPartsOf) := ⟨rfl, rfl, rfl, by decide +kernel, rfl, by decide +kernel, by decide +kernel⟩
def spPartsOf : Sp := fun vs H Q _ => ∃ (S : Addr → Prop) (v : V) (ws : List Lies), vs = [v] ∧ repL repWay H S v ws ∧ ws.length ≤ 50 ∧ ∀ H' v', Same H H' → repL (repL repN) H' (fun b => H b = none) v' (partsBy (Si45.wordsOf ws) ws) → Q v' H'
theorem ok_parts_of {f : Addr} {fd : FuncData} (F : Fun K "parts_of" "parts_of" sPartsOf f fd) (T : Txt K mg) (c_words_of : Cal P w K mg base 1 "words_of" ["ways"] spWordsOf) (c_joined : Cal P w K mg base 1 "joined" ["parts", "begin", "lead"] spJoined) :
    FnOk P w K mg base CX0 2 f fd ["ways"] spPartsOf := by
  refine F.ok sc_parts_of (fun vs H Q E h => ?_) (fun cdv A outer s H vs Q E hr h => ?_)
  · obtain ⟨S, v, ws, rfl, _⟩ := h
    rfl
  · obtain ⟨S, v, ws, rfl, hv, hws, k⟩ := h
    have big : sizeLine = 16777216 := rfl
    refine ⟨_, (pss_cons (ps_setLc (i := 1) (own := [("word", 3)]) rfl sc_parts_of.nd rfl rfl (sw_true rfl rfl rfl rfl) (pi_list (pe_cal c_words_of (hr.mono (by decide)) rfl (pa_cons (pv 0) pa_nil))) (blkOk_by rfl) (fun _ _ _ _ _ => (pg_name (i := 3) sc_parts_of.nd rfl (Or.inl rfl))) (fun _ _ _ _ _ => pts_nil) (fun _ _ _ _ _ => (pe_lst (pa_cons (pv 3) pa_nil))))
      (pss_cons (ps_for PassesOwn.never rfl (pi_list (pv 0)) (pg_name (i := 2) sc_parts_of.nd rfl (Or.inl rfl)) (pss_one (ps_set (i := 1) sc_parts_of.nd rfl (Or.inl rfl) (pe_cal c_joined (hr.mono (by decide)) rfl (pa_cons (pv 1) (pa_cons (pe_ix (r := rIx K) ix_seq (pv 2) pe_int (fun _ _ => rfl)) (pa_cons (pe_ix (r := rIx K) ix_seq (pv 2) pe_int (fun _ _ => rfl)) pa_nil)))))))
      (pss_one (ps_ret (pv 1))))), ?_⟩
    refine ⟨_, rfl, S, v, ws, rfl, hv, (by omega), fun H1 v1 s1 r1 => ?_⟩
    obtain ⟨a, us, rfl, sa, ha, hp⟩ := hv
    obtain ⟨o, os, rfl, no, hos, po⟩ := r1
    have wl := words_len ws
    refine ⟨o, rfl, ⟨_, SqL.of hos⟩, fun D hD => ?_⟩
    refine lc_rep (K := K) (R := repN) (S := fun b => H b = none) (H0 := H1) (vs := os) (ds := Si45.wordsOf ws) (fun pre H' => Acc (repL repN) H1 H' (fun b => H b = none) D (pre.map fun v => [v])) po (Acc.start (Same.refl H1) hD) (fun pre H' A1 => A1.same _ _ hos) ?_ ?_
    · rintro pre d post x H2 hd r A1
      have pl : pre.length < (Si45.wordsOf ws).length := by rw [hd]; simp
      refine ⟨rfl, _, rfl, (by show 1 ≤ sizeLine; decide), fun q hq => ?_⟩
      have A2 := A1.more (same_upd_self (o := .lst [x]) hq)
      obtain ⟨acc, hacc, _⟩ := A2.lst
      refine ⟨acc, hacc, ?_, ?_⟩
      · rw [A2.len hacc, List.length_map]; omega
      · rw [List.map_append]
        exact A2.push hacc ⟨q, [x], rfl, ⟨.inr (A1.fresh hq).1, (A1.fresh hq).2⟩, upd_same, .cons r .nil⟩
    · intro H2 A1
      have s2 := s1.trans A1.same
      refine ⟨_, rfl, a, rfl, ⟨_, SqL.of (s2 _ _ ha)⟩, for_rep (K := K) (R := repWay) (S := S) (H1 := H) (vs := us) (ds := ws)
        (fun pre σ H' => ∃ (o : Addr) (x y : Option V), σ = [some (.ref a), some (.ref o), x, y] ∧ Same H H' ∧ repL (repL repN) H' (fun b => H b = none) (.ref o) (partsBy (Si45.wordsOf ws) pre))
        ha hp ⟨D, _, _, rfl, s2, Stb.mono A1.rep fun b _ q => q.elim id fun q => s1.free q⟩ (fun pre σ H' ⟨_, _, _, _, s3, _⟩ => s3 _ _ ha) ?_ ?_⟩
      · rintro pre d post x σ H3 hd ⟨t, rfl, st, ht0⟩ ⟨o3, x3, y3, rfl, s3, r3⟩
        have ht := SqT.of (K := K) (s3 _ _ ht0)
        have md : d ∈ ws := by rw [hd]; simp
        have ok := partsBy_ok (W := Si45.wordsOf ws) (words_nodup ws) (w := pre) fun y m => way_words (by rw [hd]; simp [m])
        obtain ⟨b1, b2⟩ := partsOk_bounds ok
        refine ⟨_, rfl, _, rfl, .inr (.inl ⟨t, _, _, _, rfl, rfl, ht, rfl, _, rfl, .inr (.inl ⟨t, _, _, _, rfl, rfl, ht, rfl, ?_⟩)⟩)⟩
        refine ⟨_, _, _, d.from_, d.to_, rfl, r3, by omega, fun p m => ⟨(b2 p m).1, by have := (b2 p m).2; omega⟩, joinT_ne (conn_eqv pre) ok (way_words md).1, fun H4 v4 s4 r4 => ?_⟩
        obtain ⟨o4, vs4, rfl, n4, h4, p4⟩ := r4
        refine ⟨o4, _, _, rfl, s3.trans s4, o4, vs4, rfl, n4.elim id fun q => s3.free q, h4, ?_⟩
        rw [partsBy_snoc]
        exact Paired.mapP p4 fun _ _ r => Stb.mono r fun b _ q => q.elim id fun q => s3.free q
      · rintro σ H3 ⟨o3, x3, y3, rfl, s3, r3⟩
        exact ⟨_, rfl, k H3 _ s3 r3⟩

/-! ### too_many_at, too_many_in -/
abbrev sTooManyAt : Stmt := top 21
theorem sc_too_many_at : FnScope ["word", "ways", "begun", "led", "way"] ["word", "ways"] (defScope sTooManyAt) := ⟨rfl, rfl, rfl, by decide +kernel, rfl, by decide +kernel, by decide +kernel⟩
def spTooManyAt : Sp := fun vs H Q _ => ∃ (S : Addr → Prop) (n : Nat) (v : V) (ws : List Lies), vs = [.int (n : Nat), v] ∧ repL repWay H S v ws ∧ ws.length ≤ 100 ∧ ∀ H', Same H H' → Q (.int (Si45.over ws n : Nat)) H'
theorem ok_too_many_at {f : Addr} {fd : FuncData} (F : Fun K "too_many_at" "too_many_at" sTooManyAt f fd) (T : Txt K mg) : FnOk P w K mg base CX0 1 f fd ["word", "ways"] spTooManyAt := by
  refine F.ok sc_too_many_at (fun vs H Q E h => ?_) (fun cdv A outer s H vs Q E hr h => ?_)
  · obtain ⟨S, n, v, ws, rfl, _⟩ := h
    rfl
  · obtain ⟨S, n, _, ws, rfl, ⟨a, us, rfl, sa, ha, hp⟩, hws, k⟩ := h
    have big : sizeLine = 16777216 := rfl
    refine ⟨_, (pss_cons (ps_set (i := 2) sc_too_many_at.nd rfl (Or.inl rfl) (pe_callB (r := rLen K) call_len_seq rfl T.b_len rfl (pa_cons (pe_lc (own := [("way", 4)]) rfl sc_too_many_at.nd (pi_list (pv 1)) (blkOk_by rfl) (fun _ _ _ _ _ => (pg_name (i := 4) sc_too_many_at.nd rfl (Or.inl rfl))) (fun _ _ _ _ _ => (pts_one (pt_cmpR op_eq (pe_ix (r := rIx K) ix_seq (pv 4) pe_int (fun _ _ => rfl)) (pv 0) (nomark _)))) (fun _ _ _ _ _ => (pv 4))) pa_nil)))
      (pss_cons (ps_set (i := 3) sc_too_many_at.nd rfl (Or.inl rfl) (pe_callB (r := rLen K) call_len_seq rfl T.b_len rfl (pa_cons (pe_lc (own := [("way", 4)]) rfl sc_too_many_at.nd (pi_list (pv 1)) (blkOk_by rfl) (fun _ _ _ _ _ => (pg_name (i := 4) sc_too_many_at.nd rfl (Or.inl rfl))) (fun _ _ _ _ _ => (pts_one (pt_cmpR op_eq (pe_ix (r := rIx K) ix_seq (pv 4) pe_int (fun _ _ => rfl)) (pv 0) (nomark _)))) (fun _ _ _ _ _ => (pv 4))) pa_nil)))
      (pss_one (ps_ret (pe_callB (call_max2 rfl) rfl T.b_max rfl (pa_cons pe_int (pa_cons (pe_op op_sub (pv 2) (pv 3)) pa_nil))))))), ?_⟩
    refine ⟨_, rfl, a, rfl, ⟨_, SqL.of ha⟩, fun D hD => ?_⟩
    refine lc_rep (K := K) (R := repWay) (S := S) (H0 := H) (vs := us) (ds := ws) (fun pre H' => Acc repWay H H' S D (pre.filter fun x => x.from_ == n)) hp (Acc.start (Same.refl H) hD) (fun pre H' A1 => A1.same _ _ ha) ?_ ?_
    · rintro pre d post x H1 hd r A1
      have r' := r
      obtain ⟨t, rfl, st, ht0⟩ := r'
      have pl : pre.length < ws.length := by rw [hd]; simp
      have fl := List.length_filter_le (fun x : Lies => x.from_ == n) pre
      obtain ⟨acc, hacc, _⟩ := A1.lst
      refine ⟨rfl, _, rfl, .inr (.inl ⟨t, _, _, _, rfl, rfl, SqT.of (A1.same _ _ ht0), rfl, ?_⟩)⟩
      refine ⟨_, rfl, rfl, _, rfl, ifN (fun e => ?_) (fun e => ?_)⟩
      · refine ⟨_, rfl, acc, hacc, (by rw [A1.len hacc]; omega), ?_⟩
        rw [flt_yes (by simpa using e)]
        exact A1.push hacc (A1.old r)
      · rw [flt_no (by simpa using e)]
        exact A1
    · intro H1 A1
      obtain ⟨fs, hfs, pfs⟩ := A1.lst
      have lfs := pfs.length
      refine ⟨D, fs, rfl, .inl (SqL.of hfs), ?_⟩
      refine ⟨_, rfl, a, rfl, ⟨_, SqL.of (A1.same _ _ ha)⟩, fun D2 hD2 => ?_⟩
      refine lc_rep (K := K) (R := repWay) (S := S) (H0 := H) (vs := us) (ds := ws) (fun pre H' => Acc repWay H H' S D2 (pre.filter fun x => x.to_ == n)) hp (Acc.start A1.same hD2) (fun pre H' A2 => A2.same _ _ ha) ?_ ?_
      · rintro pre d post x H2 hd r A2
        have r' := r
        obtain ⟨t, rfl, st, ht0⟩ := r'
        have pl : pre.length < ws.length := by rw [hd]; simp
        have fl := List.length_filter_le (fun x : Lies => x.to_ == n) pre
        obtain ⟨acc, hacc, _⟩ := A2.lst
        refine ⟨rfl, _, rfl, .inr (.inl ⟨t, _, _, _, rfl, rfl, SqT.of (A2.same _ _ ht0), rfl, ?_⟩)⟩
        refine ⟨_, rfl, rfl, _, rfl, ifN (fun e => ?_) (fun e => ?_)⟩
        · refine ⟨_, rfl, acc, hacc, (by rw [A2.len hacc]; omega), ?_⟩
          rw [flt_yes (by simpa using e)]
          exact A2.push hacc (A2.old r)
        · rw [flt_no (by simpa using e)]
          exact A2
      · intro H2 A2
        obtain ⟨gs, hgs, pgs⟩ := A2.lst
        have lgs := pgs.length
        refine ⟨D2, gs, rfl, .inl (SqL.of hgs), ?_⟩
        refine ⟨_, rfl, _, rfl, _, _, rfl, rfl, _, _, rfl, ?_⟩
        have e : (if (fs.length : Int) - (gs.length : Int) > 0 then (fs.length : Int) - (gs.length : Int) else 0) = ((Si45.over ws n : Nat) : Int) := by
          unfold Si45.over
          rw [lfs, lgs]
          split <;> omega
        rw [e]
        exact k H2 A2.same
abbrev sTooManyIn : Stmt := top 22
theorem sc_too_many_in : FnScope ["part", "ways", "word"] ["part", "ways"] (defScope sTooManyIn) := ⟨rfl, rfl, rfl, by decide +kernel, rfl, by decide +kernel, by decide +kernel⟩
def spTooManyIn : Sp := fun vs H Q _ => ∃ (S S' : Addr → Prop) (u v : V) (p : List Nat) (ws : List Lies), vs = [u, v] ∧ repL repN H S' u p ∧ repL repWay H S v ws ∧ p.length ≤ 1000 ∧ ws.length ≤ 100 ∧ ∀ H', Same H H' → Q (.int (tooIn ws p : Nat)) H'
theorem sum_total (l : List Nat) : (l.map fun (k : Nat) => (k : Int)).sum = ((Si45.total l : Nat) : Int) := by
  induction l with
  | nil => rfl
  | cons a l ih =>
    rw [List.map_cons, List.sum_cons, ih]
    show _ = ((a + Si45.total l : Nat) : Int)
    omega
theorem ok_too_many_in {f : Addr} {fd : FuncData} (F : Fun K "too_many_in" "too_many_in" sTooManyIn f fd) (T : Txt K mg) (c_too_many_at : Cal P w K mg base 1 "too_many_at" ["word", "ways"] spTooManyAt) : FnOk P w K mg base CX0 2 f fd ["part", "ways"] spTooManyIn := by
  refine F.ok sc_too_many_in (fun vs H Q E h => ?_) (fun cdv A outer s H vs Q E hr h => ?_)
  · obtain ⟨S, S', u, v, p, ws, rfl, _⟩ := h
    rfl
  · obtain ⟨S, S', _, v, p, ws, rfl, ⟨a, us, rfl, sa, ha, hp⟩, hv, hpl, hws, k⟩ := h
    have big : sizeLine = 16777216 := rfl
    refine ⟨_, (pss_one (ps_ret (pe_callB (r := rSum K) (cr_sum rfl) rfl T.b_sum rfl (pa_cons (pe_lc (own := [("word", 2)]) rfl sc_too_many_in.nd (pi_list (pv 0)) (blkOk_by rfl) (fun _ _ _ _ _ => (pg_name (i := 2) sc_too_many_in.nd rfl (Or.inl rfl))) (fun _ _ _ _ _ => pts_nil) (fun _ _ _ _ _ => (pe_cal c_too_many_at (hr.mono (by decide)) rfl (pa_cons (pv 2) (pa_cons (pv 1) pa_nil))))) pa_nil)))), ?_⟩
    refine ⟨_, rfl, a, rfl, ⟨_, SqL.of ha⟩, fun D hD => ?_⟩
    refine lc_rep (K := K) (R := repN) (S := S') (H0 := H) (vs := us) (ds := p) (fun pre H' => Acc repN H H' (fun _ => False) D (pre.map (Si45.over ws))) hp (Acc.start (Same.refl H) hD) (fun pre H' A1 => A1.same _ _ ha) ?_ ?_
    · rintro pre d post x H1 hd r A1
      have ex : x = .int (d : Nat) := r
      subst ex
      have pl : pre.length < p.length := by rw [hd]; simp
      refine ⟨rfl, _, rfl, _, rfl, S, d, v, ws, rfl, Stb.same hv A1.same, hws, fun H2 s2 => ?_⟩
      have A2 := A1.more s2
      obtain ⟨acc, hacc, _⟩ := A2.lst
      refine ⟨acc, hacc, (by rw [A2.len hacc, List.length_map]; omega), ?_⟩
      rw [List.map_append]
      exact A2.push hacc (d := Si45.over ws d) rfl
    · intro H1 A1
      obtain ⟨fs, hfs, pfs⟩ := A1.lst
      have efs := nats_rep.mp pfs
      subst efs
      rw [natV_ints] at hfs
      refine ⟨D, _, rfl, SqL.of hfs, ?_⟩
      rw [sum_total]
      exact k H1 A1.same

/-! ### least_runs -/
abbrev sLeastRuns : Stmt := top 23
theorem sc_least_runs : FnScope ["ways", "parts", "runs", "told", "part", "beyond"] ["ways"] (defScope sLeastRuns) := ⟨rfl, rfl, rfl, by decide +kernel, rfl, by decide +kernel, by decide +kernel⟩
def spLeastRuns : Sp := fun vs H Q _ => ∃ (S : Addr → Prop) (v : V) (ws : List Lies), vs = [v] ∧ repL repWay H S v ws ∧ ws.length ≤ 50 ∧ ∀ H' v', Same H H' → repL repI H' (fun b => H b = none) v' (leastOut ws (partsBy (Si45.wordsOf ws) ws)) → Q v' H'
theorem partOut_len (ws : List Lies) (l : List (List Nat)) : (l.flatMap (partOut ws)).length = 3 * l.length := by
  induction l with
  | nil => rfl
  | cons x r ih => rw [List.flatMap_cons, List.length_append, ih, List.length_cons]; show 3 + _ = _; omega
theorem ok_least_runs {f : Addr} {fd : FuncData} (F : Fun K "least_runs" "least_runs" sLeastRuns f fd) (T : Txt K mg) (c_parts_of : Cal P w K mg base 2 "parts_of" ["ways"] spPartsOf) (c_too_many_in : Cal P w K mg base 2 "too_many_in" ["part", "ways"] spTooManyIn) :
    FnOk P w K mg base CX0 3 f fd ["ways"] spLeastRuns := by
  refine F.ok sc_least_runs (fun vs H Q E h => ?_) (fun cdv A outer s H vs Q E hr h => ?_)
  · obtain ⟨S, v, ws, rfl, _⟩ := h
    rfl
  · obtain ⟨S, v, ws, rfl, hv, hws, k⟩ := h
    have big : sizeLine = 16777216 := rfl
    refine ⟨_, (pss_cons (ps_set (i := 1) sc_least_runs.nd rfl (Or.inl rfl) (pe_cal c_parts_of (hr.mono (by decide)) rfl (pa_cons (pv 0) pa_nil)))
      (pss_cons (ps_set (i := 2) sc_least_runs.nd rfl (Or.inl rfl) pe_int)
      (pss_cons (ps_set (i := 3) sc_least_runs.nd rfl (Or.inl rfl) (pe_lst pa_nil))
      (pss_cons (ps_for PassesOwn.never rfl (pi_list (pv 1)) (pg_name (i := 4) sc_least_runs.nd rfl (Or.inl rfl)) (pss_cons (ps_set (i := 5) sc_least_runs.nd rfl (Or.inl rfl) (pe_cal c_too_many_in (hr.mono (by decide)) rfl (pa_cons (pv 4) (pa_cons (pv 0) pa_nil))))
      (pss_cons (ps_aug (i := 2) sc_least_runs.nd rfl (Or.inl rfl) (pe_callB (call_max2 rfl) rfl T.b_max rfl (pa_cons pe_int (pa_cons (pv 5) pa_nil))) ip_add)
      (pss_one (ps_expr (pe_bm PySem.F.plainAttrs_list PySem.F.slot_list_extend PySem.F.type_list_extend mt_extend (pv 3) (pa_cons (pe_lst (pa_cons (pe_ix (r := rIx K) ix_seq (pv 4) pe_int (fun _ _ => rfl)) (pa_cons (pe_callB (r := rLen K) call_len_seq rfl T.b_len rfl (pa_cons (pv 4) pa_nil)) (pa_cons (pv 5) pa_nil)))) pa_nil)))))))
      (pss_one (ps_ret (pe_op op_cat (pe_lst (pa_cons (pv 2) (pa_cons (pe_callB (r := rLen K) call_len_seq rfl T.b_len rfl (pa_cons (pv 1) pa_nil)) pa_nil))) (pv 3)))))))), ?_⟩
    refine ⟨_, rfl, S, v, ws, rfl, hv, hws, fun H1 v1 s1 r1 => ?_⟩
    obtain ⟨o, os, rfl, no, hos, po⟩ := r1
    have lpo := po.length
    have wl := words_len ws
    have ok := partsBy_ok (W := Si45.wordsOf ws) (words_nodup ws) (w := ws) fun y m => way_words m
    obtain ⟨b1, b2⟩ := partsOk_bounds ok
    generalize partsBy (Si45.wordsOf ws) ws = qs at k po lpo b1 b2
    -- runs = 0; told = []
    refine ⟨Nat.zero_le _, fun l hl => ?_⟩
    have A0 : Acc repI H1 (upd H1 l (.lst [])) (fun _ => False) l (Si45.ints []) := Acc.start (Same.refl H1) hl
    refine ⟨_, rfl, o, rfl, ⟨_, SqL.of (A0.same _ _ hos)⟩, for_rep (K := K) (R := repL repN) (S := fun b => H b = none) (H1 := H1) (vs := os) (ds := qs)
      (fun pre σ H' => (∃ x y : Option V, σ = [some v, some (.ref o), some (.int (Si45.total (pre.map fun p => max 1 (tooIn ws p)) : Nat)), some (.ref l), x, y]) ∧ Acc repI H1 H' (fun _ => False) l (Si45.ints (pre.flatMap (partOut ws))))
      hos po ⟨⟨none, none, rfl⟩, A0⟩ (fun pre σ H' q => q.2.same _ _ hos) ?_ ?_⟩
    · rintro pre d post x σ H2 hd r ⟨⟨x0, y0, rfl⟩, A1⟩
      obtain ⟨dne, dl⟩ := b2 d (by rw [hd]; simp)
      have pl : pre.length < qs.length := by rw [hd]; simp
      have r2 := Stb.same r A1.same
      obtain ⟨d0, dr, ed⟩ : ∃ d0 dr, d = d0 :: dr := by
        cases d with
        | nil => exact absurd rfl dne
        | cons d0 dr => exact ⟨d0, dr, rfl⟩
      have dh : d.headD 0 = d0 := by rw [ed]; rfl
      -- beyond = too_many_in(part, ways)
      refine ⟨_, rfl, _, rfl, S, _, x, v, d, ws, rfl, r2, Stb.same hv (s1.trans A1.same), by omega, by omega, fun H3 s3 => ?_⟩
      have A2 := A1.more s3
      obtain ⟨c, cs, rfl, nc, hc, pc⟩ := Stb.same r2 s3
      have ecs := nats_rep.mp pc
      subst ecs
      -- runs += max(1, beyond)
      refine ⟨_, rfl, _, rfl, _, _, rfl, _, _, rfl, rfl, ?_⟩
      have er : ((Si45.total (pre.map fun p => max 1 (tooIn ws p)) : Nat) : Int) + (if ((tooIn ws d : Nat) : Int) > 1 then ((tooIn ws d : Nat) : Int) else 1) = ((Si45.total ((pre ++ [d]).map fun p => max 1 (tooIn ws p)) : Nat) : Int) := by
        rw [List.map_append]
        show _ = ((Si45.total (pre.map (fun p => max 1 (tooIn ws p)) ++ [max 1 (tooIn ws d)]) : Nat) : Int)
        rw [total_snoc]
        split <;> omega
      dsimp only
      rw [er]
      -- told.extend([part[0], len(part), beyond])
      obtain ⟨va, hva, _⟩ := A2.lst
      have atd : atI (d.map natV) (0 : Int) = some (natV d0) := atI_nat (j := 0) (by rw [ed]; rfl)
      refine ⟨_, rfl, .inl ⟨rfl, _, SqL.of hva⟩, _, rfl, .inl ⟨c, _, _, _, rfl, rfl, SqL.of hc, atd, _, rfl, c, _, rfl, .inl (SqL.of hc), _, rfl, (by show 3 ≤ sizeLine; decide), fun q hq => ?_⟩⟩
      have A3 := A2.more (same_upd_self (o := .lst [natV d0, .int (d.map natV).length, .int (tooIn ws d : Nat)]) hq)
      have hva3 := same_upd_self (o := .lst [natV d0, .int (d.map natV).length, .int (tooIn ws d : Nat)]) hq _ _ hva
      refine ⟨l, q, va, _, rfl, rfl, hva3, upd_same, ?_, ⟨_, _, rfl⟩, ?_⟩
      · show va.length + 3 ≤ sizeLine
        rw [A2.len hva]
        unfold Si45.ints
        rw [List.length_map, partOut_len]; omega
      · have eo : Si45.ints ((pre ++ [d]).flatMap (partOut ws)) = Si45.ints (pre.flatMap (partOut ws)) ++ Si45.ints (partOut ws d) := by
          unfold Si45.ints
          rw [List.flatMap_append, List.flatMap_singleton, List.map_append]
        rw [eo]
        refine A3.pushAll hva3 (ints_rep.mpr ?_)
        unfold Si45.ints partOut
        rw [dh, List.length_map]
        rfl
    · rintro σ H2 ⟨⟨x0, y0, rfl⟩, A1⟩
      obtain ⟨va, hva, pva⟩ := A1.lst
      have eva := ints_rep.mp pva
      subst eva
      refine ⟨_, rfl, _, rfl, o, _, rfl, .inl (SqL.of (A1.same _ _ hos)), (by show 2 ≤ sizeLine; decide), fun q hq => ?_⟩
      have s3 := same_upd_self (o := .lst [.int (Si45.total (qs.map fun p => max 1 (tooIn ws p)) : Nat), .int os.length]) hq
      refine ⟨_, rfl, q, l, _, _, rfl, rfl, upd_same, s3 _ _ hva, ?_, fun r hr' => ?_⟩
      · show 2 + _ ≤ sizeLine
        unfold Si45.ints
        rw [List.length_map, List.length_map, partOut_len]; omega
      · have s4 := same_upd_self (o := .lst ([.int (Si45.total (qs.map fun p => max 1 (tooIn ws p)) : Nat), .int os.length] ++ (Si45.ints (qs.flatMap (partOut ws))).map V.int)) hr'
        have s04 := s1.trans (A1.same.trans (s3.trans s4))
        refine k _ _ s04 ⟨r, _, rfl, s1.free (A1.same.free (s3.free hr')), upd_same, ints_rep.mpr ?_⟩
        rw [lpo]
        rfl
end
end LL

set_option linter.all false
namespace LL
open Si45 (Lies Leaf waysOf)
theorem nb_cons (x y : Lies) (l : List Lies) : nb (x :: y :: l) = (x.leaf, y.leaf) :: nb (y :: l) := rfl
theorem beside_nb (i j : Nat) : ∀ r : List Lies, Si45.beside i j r = (nb r).contains (i, j)
  | [] => rfl
  | [_] => rfl
  | x :: y :: l => by
    show ((x.leaf == i && y.leaf == j) || Si45.beside i j (y :: l)) = _
    rw [nb_cons, List.contains_cons, beside_nb i j (y :: l)]
    congr 1
    rw [Bool.eq_iff_iff]
    simp only [Bool.and_eq_true, beq_iff_eq, Prod.mk.injEq]
    constructor
    · rintro ⟨rfl, rfl⟩; exact ⟨rfl, rfl⟩
    · rintro ⟨rfl, rfl⟩; exact ⟨rfl, rfl⟩
/-- rows of distinct leaves, out of w -/
theorem allRows_mem : ∀ {n : Nat} {w r : List Lies}, r ∈ allRows n w → (∀ x ∈ r, x ∈ w) ∧ (r.map (·.leaf)).Nodup
  | 0, w, r, h => by
    have : r = [] := by simpa [allRows] using h
    subst this
    exact ⟨fun x m => (nomatch m), .nil⟩
  | n + 1, w, r, h => by
    obtain ⟨x, hx, hr⟩ := List.mem_flatMap.mp h
    obtain ⟨q, hq, rfl⟩ := List.mem_map.mp hr
    obtain ⟨h1, h2⟩ := allRows_mem hq
    refine ⟨fun y m => ?_, ?_⟩
    · rcases List.mem_cons.mp m with rfl | m
      · exact hx
      · exact (List.mem_filter.mp (h1 y m)).1
    · rw [List.map_cons, List.nodup_cons]
      refine ⟨fun m => ?_, h2⟩
      obtain ⟨y, my, ey⟩ := List.mem_map.mp m
      have := (List.mem_filter.mp (h1 y my)).2
      simp at this
      exact this ey
theorem allWays_leaf {l : List Leaf} {y : Lies} (h : y ∈ Si45.allWays l) : y.leaf < l.length := by
  unfold Si45.allWays at h
  obtain ⟨⟨x, i⟩, hx, hy⟩ := List.mem_flatMap.mp h
  rw [mem_waysOf hy]
  exact (List.getElem?_eq_some_iff.mp (List.mem_zipIdx_iff_getElem?.mp hx)).1
theorem orders_mem {l : List Leaf} {r : List Lies} (h : r ∈ Si45.orders l) : (∀ x ∈ r, x.leaf < l.length) ∧ (r.map (·.leaf)).Nodup ∧ r.length = l.length := by
  rw [orders_filter] at h
  have h := (List.mem_filter.mp h).1
  obtain ⟨h1, h2⟩ := allRows_mem (show r ∈ allRows l.length (Si45.allWays l) from h)
  exact ⟨fun x m => allWays_leaf (h1 x m), h2, allRows_len (show r ∈ allRows l.length (Si45.allWays l) from h)⟩
theorem nb_fst : ∀ r : List Lies, ∀ p ∈ nb r, p.1 ∈ r.map (·.leaf) ∧ p.2 ∈ r.map (·.leaf)
  | [], p, m => by cases m
  | [_], p, m => by cases m
  | x :: y :: l, p, m => by
    rw [nb_cons] at m
    rcases List.mem_cons.mp m with rfl | m
    · simp
    · obtain ⟨h1, h2⟩ := nb_fst (y :: l) p m
      exact ⟨List.mem_cons_of_mem _ h1, List.mem_cons_of_mem _ h2⟩
theorem nb_nodup : ∀ r : List Lies, (r.map (·.leaf)).Nodup → (nb r).Nodup
  | [], _ => .nil
  | [_], _ => .nil
  | x :: y :: l, h => by
    rw [nb_cons, List.nodup_cons]
    rw [List.map_cons, List.nodup_cons] at h
    exact ⟨fun m => h.1 (nb_fst (y :: l) _ m).1, nb_nodup (y :: l) h.2⟩
theorem pairs_unique : ∀ {a b : List (Nat × Nat)}, a.Perm b → a.Pairwise pairLe → b.Pairwise pairLe → a = b
  | [], b, p, _, _ => by rw [List.nil_perm.mp p]
  | x :: a, [], p, _, _ => by simpa using p.length_eq
  | x :: a, y :: b, p, ha, hb => by
    obtain ⟨h1, h2⟩ := List.pairwise_cons.mp ha
    obtain ⟨h3, h4⟩ := List.pairwise_cons.mp hb
    have e : x = y := by
      have m1 : x ∈ y :: b := p.mem_iff.mp (by simp)
      have m2 : y ∈ x :: a := p.mem_iff.mpr (by simp)
      rcases List.mem_cons.mp m1 with e | m1
      · exact e
      · rcases List.mem_cons.mp m2 with e | m2
        · exact e.symm
        · have q1 := h1 y m2
          have q2 := h3 x m1
          unfold pairLe at q1 q2
          exact Prod.ext (by omega) (by omega)
    subst e
    rw [pairs_unique p.cons_inv h2 h4]
theorem sure_mem {l : List Leaf} {p : Nat × Nat} : p ∈ Si45.sure l ↔ p.1 < l.length ∧ p.2 < l.length ∧ Si45.orders l ≠ [] ∧ ∀ r ∈ Si45.orders l, (nb r).contains p = true := by
  unfold Si45.sure
  rw [List.mem_flatMap]
  constructor
  · rintro ⟨i, mi, h⟩
    obtain ⟨j, hj, rfl⟩ := List.mem_map.mp h
    obtain ⟨mj, hj⟩ := List.mem_filter.mp hj
    rw [Bool.and_eq_true] at hj
    refine ⟨List.mem_range.mp mi, List.mem_range.mp mj, by simpa using hj.1, fun r m => ?_⟩
    rw [← beside_nb]
    exact List.all_eq_true.mp hj.2 r m
  · rintro ⟨h1, h2, h3, h4⟩
    refine ⟨p.1, List.mem_range.mpr h1, List.mem_map.mpr ⟨p.2, List.mem_filter.mpr ⟨List.mem_range.mpr h2, ?_⟩, rfl⟩⟩
    rw [Bool.and_eq_true]
    refine ⟨by simpa using h3, List.all_eq_true.mpr fun r m => ?_⟩
    rw [beside_nb]
    exact h4 r m
theorem sure_sorted (l : List Leaf) : (Si45.sure l).Pairwise fun p q => p.1 < q.1 ∨ (p.1 = q.1 ∧ p.2 < q.2) := by
  unfold Si45.sure
  have rs : ∀ n, (List.range n).Pairwise (· < ·) := fun n => List.pairwise_lt_range
  generalize hm : List.range l.length = m
  have hm2 : m.Pairwise (· < ·) := by rw [← hm]; exact rs _
  have key : ∀ (f : Nat → Nat → Bool) (v : List Nat), v.Pairwise (· < ·) → (v.flatMap fun i => (m.filter fun j => f i j).map fun j => (i, j)).Pairwise fun p q => p.1 < q.1 ∨ (p.1 = q.1 ∧ p.2 < q.2) := by
    intro f v hv
    induction v with
    | nil => exact .nil
    | cons i v ih =>
      obtain ⟨h1, h2⟩ := List.pairwise_cons.mp hv
      rw [List.flatMap_cons]
      refine List.pairwise_append.mpr ⟨?_, ih h2, fun p hp q hq => ?_⟩
      · rw [List.pairwise_map]
        exact (hm2.filter _).imp fun h => .inr ⟨rfl, h⟩
      · obtain ⟨j, _, rfl⟩ := List.mem_map.mp hp
        obtain ⟨i', mi, hq⟩ := List.mem_flatMap.mp hq
        obtain ⟨j', _, rfl⟩ := List.mem_map.mp hq
        exact .inl (h1 i' mi)
  exact key (fun i j => !(Si45.orders l).isEmpty && (Si45.orders l).all (Si45.beside i j)) m hm2
theorem sure_is {l : List Leaf} {qs : List (Nat × Nat)} (p : qs.Perm (surePre (Si45.orders l))) (so : qs.Pairwise pairLe) : qs = Si45.sure l := by
  have s1 := sure_sorted l
  have s2 : (Si45.sure l).Pairwise pairLe := s1.imp fun {a b} h => by unfold pairLe; omega
  have n1 : (Si45.sure l).Nodup := s1.imp fun {a b} h (e : a = b) => by rw [e] at h; omega
  refine pairs_unique (p.trans ?_) so s2
  cases ho : Si45.orders l with
  | nil =>
    have : Si45.sure l = [] := by
      cases hs : Si45.sure l with
      | nil => rfl
      | cons x xs =>
        have := (sure_mem (l := l) (p := x)).mp (by rw [hs]; simp)
        exact absurd ho this.2.2.1
    rw [this]
    exact .refl _
  | cons o os =>
    obtain ⟨o1, o2, _⟩ := orders_mem (l := l) (r := o) (by rw [ho]; simp)
    refine (List.perm_ext_iff_of_nodup ((nb_nodup o o2).filter _) n1).mpr fun q => ?_
    rw [sure_mem, ho, List.mem_filter]
    constructor
    · rintro ⟨m, h⟩
      obtain ⟨f1, f2⟩ := nb_fst o q m
      obtain ⟨x, mx, ex⟩ := List.mem_map.mp f1
      obtain ⟨y, my, ey⟩ := List.mem_map.mp f2
      exact ⟨by rw [← ex]; exact o1 x mx, by rw [← ey]; exact o1 y my, by simp, fun r m => List.all_eq_true.mp h r m⟩
    · rintro ⟨_, _, _, h⟩
      have := h o (by simp)
      exact ⟨by simpa using this, List.all_eq_true.mpr fun r m => h r m⟩
/-! ### leaves with one way each -/
theorem single_ways {l : List Leaf} : Si45.single l = true ↔ ∀ ws ∈ l.map (waysOf 0), ws.length = 1 := by
  unfold Si45.single
  rw [List.all_eq_true]
  have key : ∀ (i : Nat) (x : Leaf), (waysOf i x).length = (waysOf 0 x).length := fun i x => by rw [← waysOf_leaf i x, List.length_map]
  constructor
  · intro h ws m
    obtain ⟨x, mx, rfl⟩ := List.mem_map.mp m
    obtain ⟨i, hi⟩ := List.mem_iff_getElem?.mp mx
    have := h (x, i) (List.mem_zipIdx_iff_getElem?.mpr hi)
    simp only [beq_iff_eq] at this
    rw [key] at this
    exact this
  · rintro h ⟨x, i⟩ m
    have hi := List.mem_zipIdx_iff_getElem?.mp m
    have := h (waysOf 0 x) (List.mem_map.mpr ⟨x, List.mem_of_getElem? hi, rfl⟩)
    simp only [beq_iff_eq]
    rw [key]; exact this
def headW (ws : List Lies) : Lies := ws.headD ⟨0, false, 0, 0⟩
theorem single_all {l : List Leaf} (h : ∀ ws ∈ l.map (waysOf 0), ws.length = 1) : (Si45.allWays l).map wayV = ((l.map (waysOf 0)).map headW).map wayV := by
  unfold Si45.allWays
  have go : ∀ (l : List Leaf) (k : Nat), (∀ ws ∈ l.map (waysOf 0), ws.length = 1) → ((l.zipIdx k).flatMap fun x => waysOf x.2 x.1).map wayV = ((l.map (waysOf 0)).map headW).map wayV := by
    intro l
    induction l with
    | nil => intro k _; rfl
    | cons x l ih =>
      intro k h
      rw [List.zipIdx_cons, List.flatMap_cons, List.map_append, ih (k + 1) fun ws m => h ws (by simp at m ⊢; exact .inr m), List.map_cons, List.map_cons, List.map_cons]
      have h1 := h (waysOf 0 x) (by simp)
      have e : (waysOf k x).map wayV = [wayV (headW (waysOf 0 x))] := by
        rw [← waysOf_leaf k x, List.map_map]
        match hw : waysOf 0 x, h1 with
        | [y], _ => rfl
      show (waysOf k x).map wayV ++ _ = _
      rw [e]
      rfl
  exact go l 0 h
theorem rep_wayV {H : L2.Hp} {S : PySem.Addr → Prop} : ∀ {vs : List L2.V} {L L' : List Lies}, PySem.Paired (repWay H S) vs L → L.map wayV = L'.map wayV → PySem.Paired (repWay H S) vs L'
  | _, _, [], .nil, _ => .nil
  | _, _, _ :: _, .nil, e => by cases e
  | _, _, [], .cons _ _, e => by cases e
  | _, _, x :: L', .cons ⟨a, e1, e2, e3⟩ r, e => by
    simp only [List.map_cons] at e
    injection e with q1 q2
    exact .cons ⟨a, e1, e2, by rw [← q1]; exact e3⟩ (rep_wayV r q2)
end LL

set_option Elab.async false
set_option linter.all false
set_option maxRecDepth 100000
set_option maxHeartbeats 4000000
namespace LL
open PySem PySem.Spec PyProof.Rows L2
open Si45 (Lies Leaf waysOf)
section
variable {P : Program} {w : World} {K : PySem.W.Frag} {mg : Str → Option Value} {base : Heap}

/-! ### are_words -/
def wordsOk (a b c d : Nat) : Bool := !decide (a < 1 ∨ 9999 < a ∨ 9999 < b ∨ c < 1 ∨ 9999 < c ∨ 9999 < d)
abbrev sAreWords : Stmt := top 32
theorem sc_are_words : FnScope ["first", "caught", "second", "caught2"] ["first", "caught", "second", "caught2"] (defScope sAreWords) := ⟨rfl, rfl, rfl, by decide +kernel, rfl, by decide +kernel, by decide +kernel⟩
def spAreWords : Sp := fun vs H Q _ => ∃ a b c d : Nat, vs = [.int a, .int b, .int c, .int d] ∧ Q (.bl (wordsOk a b c d)) H
theorem ok_are_words {f : Addr} {fd : FuncData} (F : Fun K "are_words" "are_words" sAreWords f fd) (T : Txt K mg) : FnOk P w K mg base CX0 1 f fd ["first", "caught", "second", "caught2"] spAreWords := by
  refine F.ok sc_are_words (fun vs H Q E h => ?_) (fun cdv A outer s H vs Q E hr h => ?_)
  · obtain ⟨a, b, c, d, rfl, _⟩ := h
    rfl
  · obtain ⟨a, b, c, d, rfl, k⟩ := h
    refine ⟨_, (pss_cons (ps_if (PW.pt (pw_or (pt_cmpR op_eq (pv 0) pe_int (nomark _)) (pw_or1 (pt_cmpR op_eq (pv 2) pe_int (nomark _))))) (pss_one (ps_ret pe_bl)) pss_nil)
      (pss_one (ps_ret (pe_cmpR op_le (pe_callB (call_max4 rfl) rfl T.b_max rfl (pa_cons (pv 0) (pa_cons (pv 1) (pa_cons (pv 2) (pa_cons (pv 3) pa_nil))))) (pe_con T.c_HIGHEST_WORD rfl) (nomark _))))), ?_⟩
    have no : (a = 0 ∨ c = 0) → Q (.bl false) H := fun h => by
      have e : wordsOk a b c d = false := by unfold wordsOk; simp; omega
      rw [e] at k; exact k
    refine ⟨_, rfl, rfl, _, rfl, ifI (fun e => ?_) (fun e => ?_)⟩
    · exact no (.inl (by omega))
    · refine ⟨_, rfl, rfl, _, rfl, ?_⟩
      refine ifI (fun e2 => ?_) (fun e2 => ?_)
      · exact no (.inr (by omega))
      · refine ⟨_, rfl, _, rfl, _, rfl, _, rfl, (a : Int), b, c, d, rfl, fun m hm h1 h2 h3 h4 => ?_⟩
        refine ⟨_, _, rfl, rfl, ?_⟩
        have e : wordsOk a b c d = decide (m ≤ 9999) := by
          unfold wordsOk
          rw [← decide_not]
          congr 1
          simp only [List.mem_cons, List.not_mem_nil, or_false] at hm
          apply propext
          omega
        rw [e] at k
        exact k

/-! ### count_and_first -/
theorem rowOut_snoc (r : List Lies) (x : Lies) : Si45.rowOut (r ++ [x]) = Si45.rowOut r ++ [(x.leaf : Int)] ++ [(Si45.bit x.turned : Int)] := by
  unfold Si45.rowOut
  rw [List.flatMap_append, List.flatMap_singleton, List.append_assoc]
  rfl
theorem rowOut_len (r : List Lies) : (Si45.rowOut r).length = 2 * r.length := by
  induction r with
  | nil => rfl
  | cons x r ih =>
    show (Si45.ints [x.leaf, Si45.bit x.turned] ++ Si45.rowOut r).length = _
    rw [List.length_append, ih, List.length_cons]
    show 2 + _ = _
    omega
abbrev sLeavesAndWays : Stmt := top 33
theorem sc_leaves_and_ways : FnScope ["row", "told", "place"] ["row"] (defScope sLeavesAndWays) := ⟨rfl, rfl, rfl, by decide +kernel, rfl, by decide +kernel, by decide +kernel⟩
def spLeavesAndWays : Sp := fun vs H Q _ => ∃ (S : Addr → Prop) (v : V) (row : List Lies), vs = [v] ∧ repRow H S v row ∧ row.length ≤ 1000 ∧ ∀ H' v', Same H H' → repL repI H' (fun b => H b = none) v' (Si45.rowOut row) → Q v' H'
theorem ok_leaves_and_ways {f : Addr} {fd : FuncData} (F : Fun K "leaves_and_ways" "leaves_and_ways" sLeavesAndWays f fd) (T : Txt K mg) : FnOk P w K mg base CX0 1 f fd ["row"] spLeavesAndWays := by
  refine F.ok sc_leaves_and_ways (fun vs H Q E h => ?_) (fun cdv A outer s H vs Q E hr h => ?_)
  · obtain ⟨S, v, row, rfl, _⟩ := h
    rfl
  · obtain ⟨S, _, row, rfl, ⟨a, us, rfl, sa, ha, hp⟩, hrow, k⟩ := h
    have big : sizeLine = 16777216 := rfl
    refine ⟨_, (pss_cons (ps_set (i := 1) sc_leaves_and_ways.nd rfl (Or.inl rfl) (pe_lst pa_nil))
      (pss_cons (ps_for PassesOwn.never rfl (pi_list (pv 0)) (pg_name (i := 2) sc_leaves_and_ways.nd rfl (Or.inl rfl)) (pss_one (ps_expr (pe_bm PySem.F.plainAttrs_list PySem.F.slot_list_extend PySem.F.type_list_extend mt_extend (pv 1) (pa_cons (pe_lst (pa_cons (pe_ix (r := rIx K) ix_seq (pv 2) pe_int (fun _ _ => rfl)) (pa_cons (pe_ix (r := rIx K) ix_seq (pv 2) pe_int (fun _ _ => rfl)) pa_nil))) pa_nil)))))
      (pss_one (ps_ret (pv 1))))), ?_⟩
    refine ⟨Nat.zero_le _, fun l hl => ?_⟩
    have A0 : Acc repI H (upd H l (.lst [])) (fun _ => False) l (Si45.rowOut []) := Acc.start (Same.refl H) hl
    refine ⟨_, rfl, a, rfl, ⟨_, SqL.of (A0.same _ _ ha)⟩, for_rep (K := K) (R := repPlace) (S := S) (H1 := H) (vs := us) (ds := row)
      (fun pre σ H' => (∃ p : Option V, σ = [some (.ref a), some (.ref l), p]) ∧ Acc repI H H' (fun _ => False) l (Si45.rowOut pre)) ha hp ⟨⟨none, rfl⟩, A0⟩ (fun pre σ H' q => q.2.same _ _ ha) ?_ ?_⟩
    · rintro pre d post x σ H1 hd ⟨t, rfl, st, ht0⟩ ⟨⟨p, rfl⟩, A1⟩
      have pl : pre.length < row.length := by rw [hd]; simp
      have rl := rowOut_len pre
      have ht := SqT.of (K := K) (A1.same _ _ ht0)
      obtain ⟨va, hva, _⟩ := A1.lst
      refine ⟨_, rfl, .inl ⟨rfl, _, SqL.of hva⟩, _, rfl, .inr (.inl ⟨t, _, _, _, rfl, rfl, ht, rfl, _, rfl, .inr (.inl ⟨t, _, _, _, rfl, rfl, ht, rfl, (by show 2 ≤ sizeLine; decide), fun q hq => ?_⟩)⟩)⟩
      have A2 := A1.more (same_upd_self (o := .lst [.int (d.leaf : Nat), .int (Si45.bit d.turned : Nat)]) hq)
      have hva2 := same_upd_self (o := .lst [.int (d.leaf : Nat), .int (Si45.bit d.turned : Nat)]) hq _ _ hva
      refine ⟨l, q, va, _, rfl, rfl, hva2, upd_same, (by show va.length + 2 ≤ sizeLine; rw [A1.len hva]; omega), ⟨_, rfl⟩, ?_⟩
      rw [rowOut_snoc, List.append_assoc]
      exact A2.pushAll hva2 (ints_rep.mpr rfl)
    · rintro σ H1 ⟨⟨p, rfl⟩, A1⟩
      exact ⟨_, rfl, k H1 _ A1.same (Stb.mono A1.rep fun b _ q => q.elim False.elim id)⟩
abbrev sCountAndFirst : Stmt := top 34
theorem sc_count_and_first : FnScope ["orders"] ["orders"] (defScope sCountAndFirst) := ⟨rfl, rfl, rfl, by decide +kernel, rfl, by decide +kernel, by decide +kernel⟩
def told (os : List (List Lies)) : List Int := (os.length : Int) :: Si45.rowOut (os.headD [])
def spCountAndFirst : Sp := fun vs H Q _ => ∃ (S : Addr → Prop) (v : V) (os : List (List Lies)), vs = [v] ∧ repL repRow H S v os ∧ (∀ r ∈ os, r.length ≤ 1000) ∧ ∀ H' v', Same H H' → repL repI H' (fun b => H b = none) v' (told os) → Q v' H'
theorem ok_count_and_first {f : Addr} {fd : FuncData} (F : Fun K "count_and_first" "count_and_first" sCountAndFirst f fd) (T : Txt K mg) (c_leaves_and_ways : Cal P w K mg base 1 "leaves_and_ways" ["row"] spLeavesAndWays) : FnOk P w K mg base CX0 2 f fd ["orders"] spCountAndFirst := by
  refine F.ok sc_count_and_first (fun vs H Q E h => ?_) (fun cdv A outer s H vs Q E hr h => ?_)
  · obtain ⟨S, v, os, rfl, _⟩ := h
    rfl
  · obtain ⟨S, v, os, rfl, ⟨a, us, rfl, sa, ha, hp⟩, hb, k⟩ := h
    have hlen := hp.length
    have big : sizeLine = 16777216 := rfl
    refine ⟨_, (pss_cons (ps_if (pt_cmpR op_eq (pe_callB (r := rLen K) call_len_seq rfl T.b_len rfl (pa_cons (pv 0) pa_nil)) pe_int (nomark _)) (pss_one (ps_ret (pe_lst (pa_cons pe_int pa_nil)))) pss_nil)
      (pss_one (ps_ret (pe_op op_cat (pe_lst (pa_cons (pe_callB (r := rLen K) call_len_seq rfl T.b_len rfl (pa_cons (pv 0) pa_nil)) pa_nil)) (pe_cal c_leaves_and_ways (hr.mono (by decide)) rfl (pa_cons (pe_ix (r := rIx K) ix_seq (pv 0) pe_int (fun _ _ => rfl)) pa_nil)))))), ?_⟩
    refine ⟨_, rfl, a, us, rfl, .inl (SqL.of ha), rfl, _, rfl, ifI (fun e => ?_) (fun e => ?_)⟩
    · have hn : os = [] := List.eq_nil_of_length_eq_zero (by omega)
      subst hn
      refine ⟨(by show 1 ≤ sizeLine; decide), fun q hq => ?_⟩
      exact k _ _ (same_upd_self hq) ⟨q, _, rfl, hq, upd_same, .cons rfl .nil⟩
    · cases os with
      | nil => simp at hlen; rw [hlen] at e; simp at e
      | cons o os =>
      cases hp with
      | @cons u0 _ us' _ h0 hp' =>
      have ol : o.length ≤ 1000 := hb o (by simp)
      refine ⟨_, rfl, a, _, rfl, .inl (SqL.of ha), (by show 1 ≤ sizeLine; decide), fun q hq => ?_⟩
      have s1 := same_upd_self (o := .lst [.int (u0 :: us').length]) hq
      refine ⟨_, rfl, .inl ⟨a, _, _, _, rfl, rfl, SqL.of (s1 _ _ ha), atI_nat (j := 0) rfl, S, u0, o, rfl, Stb.same h0 s1, ol, fun H2 v2 s2 r2 => ?_⟩⟩
      obtain ⟨b, ws, rfl, nb0, hb2, pb⟩ := r2
      have ews := ints_rep.mp pb
      subst ews
      have rl := rowOut_len o
      refine ⟨q, b, _, _, rfl, rfl, s2 _ _ upd_same, hb2, (by show 1 + _ ≤ sizeLine; rw [List.length_map]; omega), fun r hr' => ?_⟩
      have s3 := same_upd_self (o := .lst ([.int (u0 :: us').length] ++ (Si45.rowOut o).map V.int)) hr'
      refine k _ _ (s1.trans (s2.trans s3)) ⟨r, _, rfl, s1.free (s2.free hr'), upd_same, ints_rep.mpr ?_⟩
      rw [hlen]
      rfl

theorem map_erase {α β : Type} (f : α → β) : ∀ (l : List α) (i : Nat), (l.map f).eraseIdx i = (l.eraseIdx i).map f
  | [], _ => rfl
  | _ :: _, 0 => rfl
  | a :: l, i + 1 => by
    show f a :: (l.map f).eraseIdx i = f a :: (l.eraseIdx i).map f
    rw [map_erase f l i]
/-! ### the heap of leaves -/
def hf (a : Addr) : List (Str × V) := putF "leaves" (.ref a) []
theorem hf_get (a : Addr) : (hf a).lookup ("leaves" : Str) = some (.ref a) := by
  unfold hf
  rw [lookup_putF, if_pos rfl]
theorem hf_no (a : Addr) {m : Str} (h : ¬ m = "leaves") : (hf a).lookup m = none := by
  unfold hf
  rw [lookup_putF, if_neg h]
  rfl
theorem hf_put (a b : Addr) : putF "leaves" (.ref b) (hf a) = hf b := by
  show (if ("leaves" : Str) = "leaves" then [(("leaves" : Str), V.ref b)] else _) = ([("leaves", V.ref b)] : List (Str × V))
  rw [if_pos rfl]
structure TxtC (K : PySem.W.Frag) (C : Addr) : Prop where
  cl : Cls K C
  nL : NoAttr K C "leaves"
/-- a Heap with these leaves stands at p, all of it within S -/
structure HeapAt (C : Addr) (H : Hp) (S : Addr → Prop) (p : Addr) (ls : List Leaf) : Prop where
  few : ls.length ≤ 6
  ex : ∃ dx a vs, S p ∧ S a ∧ H p = some (.ins C dx (hf a)) ∧ H a = some (.lst vs) ∧ Paired (repL repWay H (fun b => S b ∧ b ≠ a ∧ b ≠ p)) vs (ls.map (waysOf 0))
/-- what S does not show is as it was -/
def Out (H H' : Hp) (S : Addr → Prop) : Prop := ∀ b o, H b = some o → ¬ S b → H' b = some o
theorem Out.of_same {H H' : Hp} {S : Addr → Prop} (s : Same H H') : Out H H' S := fun b o e _ => s b o e
/-- nothing of it has changed -/
theorem HeapAt.stay {C : Addr} {H H' : Hp} {S : Addr → Prop} {p : Addr} {ls : List Leaf} (h : HeapAt C H S p ls) (s : Same H H') : HeapAt C H' (Or2 S H) p ls := by
  obtain ⟨dx, a, vs, sp, sa, hp, ha, pr⟩ := h.ex
  exact ⟨h.few, dx, a, vs, .inl sp, .inl sa, s _ _ hp, s _ _ ha, Paired.keep (fun b o sb e => ⟨⟨.inl sb.1, sb.2⟩, s b o e⟩) pr⟩
theorem HeapAt.keep {C : Addr} {H H' : Hp} {S S' : Addr → Prop} {p : Addr} {ls : List Leaf} (h : HeapAt C H S p ls) (k : Keep H H' S S') : HeapAt C H' S' p ls := by
  obtain ⟨dx, a, vs, sp, sa, hp, ha, pr⟩ := h.ex
  exact ⟨h.few, dx, a, vs, (k _ _ sp hp).1, (k _ _ sa ha).1, (k _ _ sp hp).2, (k _ _ sa ha).2, Paired.keep (fun b o sb e => ⟨⟨(k b o sb.1 e).1, sb.2⟩, (k b o sb.1 e).2⟩) pr⟩
/-- the leaves as a list of lists of ways -/
theorem HeapAt.rep {C : Addr} {H : Hp} {S : Addr → Prop} {p : Addr} {ls : List Leaf} (h : HeapAt C H S p ls) : ∃ dx a, H p = some (.ins C dx (hf a)) ∧ repL (repL repWay) H S (.ref a) (ls.map (waysOf 0)) := by
  obtain ⟨dx, a, vs, sp, sa, hp, ha, pr⟩ := h.ex
  exact ⟨dx, a, hp, a, vs, rfl, sa, ha, Paired.keep (fun b o sb e => ⟨sb.1, e⟩) pr⟩
theorem waysOf_len (i : Nat) (x : Leaf) : (waysOf i x).length ≤ 2 := by
  unfold waysOf
  rw [List.length_append]
  split <;> split <;> simp
theorem few_ways {ls : List Leaf} (h : ls.length ≤ 6) : Few (ls.map (waysOf 0)) := by
  refine ⟨by rw [List.length_map]; exact h, fun ws m => ?_⟩
  obtain ⟨x, _, rfl⟩ := List.mem_map.mp m
  exact waysOf_len 0 x
/-- a method's promise: it does and answers as the specification's step -/
def spCall (C : Addr) (args : List V → Si45.Call → Prop) : Sp := fun vs H Q _ => ∃ (S : Addr → Prop) (p : Addr) (ls : List Leaf) (as : List V) (c : Si45.Call), vs = .ref p :: as ∧ args as c ∧ HeapAt C H S p ls ∧
  ∀ H' v', Out H H' S → HeapAt C H' (Or2 S H) p (Si45.step ls c).1 → repL repI H' (fun b => H b = none) v' ((Si45.step ls c).2.v :: (Si45.step ls c).2.l) → Q v' H'
/-- one number alone, in a new list -/
theorem one_new {H H1 : Hp} {q : Addr} {n : Int} (s : ∀ b, H1 b = none → H b = none) (hq : H1 q = none) : repL repI (upd H1 q (.lst [.int n])) (fun b => H b = none) (.ref q) [n] :=
  ⟨q, [.int n], rfl, s q hq, upd_same, .cons rfl .nil⟩

abbrev sInit : Stmt := inClass (top 35) 0
theorem sc_Heap_init_ : FnScope ["self"] ["self"] (defScope sInit) := ⟨rfl, rfl, rfl, by decide +kernel, rfl, by decide +kernel, by decide +kernel⟩
def spInit (C : Addr) : Sp := fun vs H Q _ => ∃ (p dx : Addr), vs = [.ref p] ∧ H p = some (.ins C dx []) ∧ ∀ H' : Hp, (∀ b o, H b = some o → b ≠ p → H' b = some o) → HeapAt C H' (fun b => b = p ∨ H b = none) p [] → Q .non H'
theorem ok_Heap_init {f C : Addr} {fd : FuncData} (F : Fun K "__init__" "Heap.__init__" sInit f fd) (T : TxtC K C) : FnOk P w K mg base CX0 1 f fd ["self"] (spInit C) := by
  refine F.ok sc_Heap_init_ (fun vs H Q E h => ?_) (fun cdv A outer s H vs Q E hr h => ?_)
  · obtain ⟨p, dx, rfl, _⟩ := h
    rfl
  · obtain ⟨p, dx, rfl, hp, k⟩ := h
    refine ⟨_, (pss_one (ps_fld (pv 0) (pe_lst pa_nil) rfl)), ?_⟩
    refine ⟨Nat.zero_le _, fun l hl => ?_⟩
    have hlp : l ≠ p := fun e => by rw [e, hp] at hl; cases hl
    refine ⟨_, rfl, p, C, dx, [], rfl, same_upd_self hl _ _ hp, T.cl, T.nL, (by show 0 < 1000; decide), ?_⟩
    refine k _ (fun b o e hb => by rw [upd_ne hb]; exact same_upd_self hl b o e) ⟨by decide, dx, l, [], .inl rfl, .inr hl, upd_same, ?_, .nil⟩
    rw [upd_ne hlp, upd_same]

abbrev sBegins : Stmt := inClass (top 35) 1
theorem sc_Heap_begins : FnScope ["self"] ["self"] (defScope sBegins) := ⟨rfl, rfl, rfl, by decide +kernel, rfl, by decide +kernel, by decide +kernel⟩
abbrev spBegins (C : Addr) : Sp := spCall C fun as c => as = [] ∧ c = .begins
theorem ok_Heap_begins {f C : Addr} {fd : FuncData} (F : Fun K "begins" "Heap.begins" sBegins f fd) (T : TxtC K C) : FnOk P w K mg base CX0 1 f fd ["self"] (spBegins C) := by
  refine F.ok sc_Heap_begins (fun vs H Q E h => ?_) (fun cdv A outer s H vs Q E hr h => ?_)
  · obtain ⟨S, p, ls, as, c, rfl, ⟨rfl, rfl⟩, _⟩ := h
    rfl
  · obtain ⟨S, p, ls, as, c, rfl, ⟨rfl, rfl⟩, hA, k⟩ := h
    obtain ⟨dx, a, us, sp, sa, hp, ha, pr⟩ := hA.ex
    refine ⟨_, (pss_cons (ps_fld (pv 0) (pe_lst pa_nil) rfl)
      (pss_one (ps_ret (pe_lst (pa_cons pe_int pa_nil))))), ?_⟩
    refine ⟨Nat.zero_le _, fun l hl => ?_⟩
    have hlp : l ≠ p := fun e => by rw [e, hp] at hl; cases hl
    have s1 := same_upd_self (o := .lst []) hl
    refine ⟨_, rfl, p, C, dx, _, rfl, s1 _ _ hp, T.cl, T.nL, (by show 1 < 1000; decide), ?_⟩
    rw [hf_put]
    refine ⟨(by show 1 ≤ sizeLine; decide), fun q hq => ?_⟩
    obtain ⟨hqp, hq1⟩ := upd_none hq
    obtain ⟨hql, hq0⟩ := upd_none hq1
    refine k _ _ (fun b o e nb => ?_) ⟨(by show 0 ≤ 6; decide), dx, l, [], .inl sp, .inr hl, ?_, ?_, .nil⟩ (one_new (n := 0) (fun b n => (upd_none (upd_none n).2).2) hq)
    · rw [upd_ne (ne_of_none e hq0), upd_ne (fun z : b = p => nb (by rw [z]; exact sp))]
      exact s1 b o e
    · rw [upd_ne hqp.symm, upd_same]
    · rw [upd_ne hql.symm, upd_ne hlp, upd_same]

abbrev sLeaf : Stmt := inClass (top 35) 2
theorem sc_Heap_leaf : FnScope ["self", "first", "caught", "second", "caught2"] ["self", "first", "caught", "second", "caught2"] (defScope sLeaf) := ⟨rfl, rfl, rfl, by decide +kernel, rfl, by decide +kernel, by decide +kernel⟩
abbrev spLeaf (C : Addr) : Sp := spCall C fun as c => ∃ x : Leaf, as = [.int (x.a : Nat), .int (x.b : Nat), .int (x.c : Nat), .int (x.d : Nat)] ∧ c = .leaf x
theorem ok_Heap_leaf {f C : Addr} {fd : FuncData} (F : Fun K "leaf" "Heap.leaf" sLeaf f fd) (T : Txt K mg) (TC : TxtC K C) (c_are_words : Cal P w K mg base 1 "are_words" ["first", "caught", "second", "caught2"] spAreWords) (c_ways_of : Cal P w K mg base 1 "ways_of" ["first", "caught", "second", "caught2"] spWaysOf) :
    FnOk P w K mg base CX0 2 f fd ["self", "first", "caught", "second", "caught2"] (spLeaf C) := by
  refine F.ok sc_Heap_leaf (fun vs H Q E h => ?_) (fun cdv A outer s H vs Q E hr h => ?_)
  · obtain ⟨S, p, ls, as, c, rfl, ⟨x, rfl, rfl⟩, _⟩ := h
    rfl
  · obtain ⟨S, p, ls, as, c, rfl, ⟨x, rfl, rfl⟩, hA, k⟩ := h
    obtain ⟨dx, a, us, sp, sa, hp, ha, pr⟩ := hA.ex
    have hlen : us.length = ls.length := by rw [pr.length, List.length_map]
    refine ⟨_, (pss_cons (ps_if (pt_not (pt_val (pe_cal c_are_words (hr.mono (by decide)) rfl (pa_cons (pv 1) (pa_cons (pv 2) (pa_cons (pv 3) (pa_cons (pv 4) pa_nil))))))) (pss_one (ps_ret (pe_lst (pa_cons (pe_con T.c_BAD_WORD rfl) pa_nil)))) pss_nil)
      (pss_cons (ps_if (pt_cmpR op_ge (pe_callB (r := rLen K) call_len_seq rfl T.b_len rfl (pa_cons (pe_fld (pv 0) rfl) pa_nil)) (pe_con T.c_MOST_LEAVES rfl) (nomark _)) (pss_one (ps_ret (pe_lst (pa_cons (pe_con T.c_HEAP_IS_FULL rfl) pa_nil)))) pss_nil)
      (pss_cons (ps_expr (pe_bm PySem.F.plainAttrs_list PySem.F.slot_list_append PySem.F.type_list_append mt_append (pe_fld (pv 0) rfl) (pa_cons (pe_cal c_ways_of (hr.mono (by decide)) rfl (pa_cons (pv 1) (pa_cons (pv 2) (pa_cons (pv 3) (pa_cons (pv 4) pa_nil))))) pa_nil)))
      (pss_one (ps_ret (pe_lst (pa_cons (pe_op op_sub (pe_callB (r := rLen K) call_len_seq rfl T.b_len rfl (pa_cons (pe_fld (pv 0) rfl) pa_nil)) pe_int) pa_nil))))))), ?_⟩
    refine ⟨_, rfl, _, rfl, _, rfl, _, rfl, x.a, x.b, x.c, x.d, rfl, _, rfl, ?_⟩
    have st : Si45.step ls (.leaf x) = if wordsOk x.a x.b x.c x.d = false then (ls, Si45.ok (-1)) else if 6 ≤ ls.length then (ls, Si45.ok (-5)) else (ls ++ [x], Si45.ok (ls.length : Int)) := by
      unfold Si45.step wordsOk Si45.WORD Si45.LEAVES
      by_cases h : x.a < 1 ∨ 9999 < x.a ∨ 9999 < x.b ∨ x.c < 1 ∨ 9999 < x.c ∨ 9999 < x.d
      · rw [decide_eq_true h]; dsimp only; rw [if_pos h]; rfl
      · rw [decide_eq_false h]; dsimp only; rw [if_neg h]; rfl
    rw [st] at k
    refine ite2 (fun e => ?_) (fun e => ?_)
    · -- -1
      have e : wordsOk x.a x.b x.c x.d = false := by simpa using e
      rw [if_pos e] at k
      refine ⟨(by show 1 ≤ sizeLine; decide), fun q hq => ?_⟩
      exact k _ _ (Out.of_same (same_upd_self hq)) (hA.stay (same_upd_self hq)) (one_new (fun b n => n) hq)
    · have e : ¬ wordsOk x.a x.b x.c x.d = false := by simpa using e
      rw [if_neg e] at k
      refine ⟨_, rfl, p, C, dx, _, _, rfl, hp, TC.cl, TC.nL, hf_get a, a, us, rfl, .inl (SqL.of ha), _, _, rfl, rfl, _, rfl, ifD (fun e2 => ?_) (fun e2 => ?_)⟩
      · -- -5
        rw [if_pos (by omega)] at k
        refine ⟨(by show 1 ≤ sizeLine; decide), fun q hq => ?_⟩
        exact k _ _ (Out.of_same (same_upd_self hq)) (hA.stay (same_upd_self hq)) (one_new (fun b n => n) hq)
      · rw [if_neg (by omega)] at k
        refine ⟨_, rfl, p, C, dx, _, _, rfl, hp, TC.cl, TC.nL, hf_get a, .inl ⟨rfl, _, SqL.of ha⟩, _, rfl, _, rfl, _, rfl, _, rfl, x.a, x.b, x.c, x.d, rfl, fun H1 v s1 r => ?_⟩
        have big : sizeLine = 16777216 := rfl
        refine ⟨a, us, v, rfl, rfl, s1 _ _ ha, by omega, ?_⟩
        have hap : a ≠ p := fun e => by rw [e, hp] at ha; cases ha
        have hp1 : upd H1 a (.lst (us ++ [v])) p = some (.ins C dx (hf a)) := by rw [upd_ne hap.symm]; exact s1 _ _ hp
        refine ⟨_, rfl, p, C, dx, _, _, rfl, hp1, TC.cl, TC.nL, hf_get a, a, _, rfl, .inl (SqL.of upd_same), _, _, rfl, rfl, (by show 1 ≤ sizeLine; decide), fun q hq => ?_⟩
        obtain ⟨hqa, hq1⟩ := upd_none hq
        refine k _ _ (fun b o e nb => ?_) ⟨?_, dx, a, us ++ [v], .inl sp, .inl sa, ?_, ?_, ?_⟩ ?_
        · rw [upd_ne (ne_of_none (s1 _ _ e) hq1), upd_ne (fun z : b = a => nb (by rw [z]; exact sa))]
          exact s1 b o e
        · show (ls ++ [x]).length ≤ 6
          rw [List.length_append, List.length_singleton]; omega
        · exact same_upd_self hq _ _ hp1
        · exact same_upd_self hq _ _ upd_same
        · show Paired _ _ ((ls ++ [x]).map (waysOf 0))
          rw [List.map_append]
          refine Paired.snoc' (Paired.keep (fun b o sb e => ⟨⟨.inl sb.1, sb.2⟩, ?_⟩) pr) (Stb.keep (fun b o sb e => ⟨⟨.inr sb, ?_, ?_⟩, ?_⟩) r)
          · exact same_upd_self hq _ _ (by rw [upd_ne sb.2.1]; exact s1 b o e)
          · intro z; rw [z, ha] at sb; cases sb
          · intro z; rw [z, hp] at sb; cases sb
          · have hba : b ≠ a := by intro z; rw [z, ha] at sb; cases sb
            exact same_upd_self hq _ _ (by rw [upd_ne hba]; exact e)
        · have e3 : ((us ++ [v]).length : Int) - 1 = (ls.length : Int) := by rw [List.length_append, List.length_singleton]; omega
          have hq' := one_new (H := H) (n := ((us ++ [v]).length : Int) - 1) (fun b n => s1.free (upd_none n).2) hq
          rw [e3] at hq'
          dsimp only
          rw [e3]
          exact hq'

abbrev sDrop : Stmt := inClass (top 35) 3
theorem sc_Heap_drop : FnScope ["self", "number"] ["self", "number"] (defScope sDrop) := ⟨rfl, rfl, rfl, by decide +kernel, rfl, by decide +kernel, by decide +kernel⟩
abbrev spDrop (C : Addr) : Sp := spCall C fun as c => ∃ i : Nat, i < 2 ^ 32 ∧ as = [.int (i : Nat)] ∧ c = .drop i
theorem ok_Heap_drop {f C : Addr} {fd : FuncData} (F : Fun K "drop" "Heap.drop" sDrop f fd) (T : Txt K mg) (TC : TxtC K C) : FnOk P w K mg base CX0 1 f fd ["self", "number"] (spDrop C) := by
  refine F.ok sc_Heap_drop (fun vs H Q E h => ?_) (fun cdv A outer s H vs Q E hr h => ?_)
  · obtain ⟨S, p, ls, as, c, rfl, ⟨i, _, rfl, rfl⟩, _⟩ := h
    rfl
  · obtain ⟨S, p, ls, as, c, rfl, ⟨i, hi32, rfl, rfl⟩, hA, k⟩ := h
    obtain ⟨dx, a, us, sp, sa, hp, ha, pr⟩ := hA.ex
    have hlen : us.length = ls.length := by rw [pr.length, List.length_map]
    have few := hA.few
    refine ⟨_, (pss_cons (ps_if (pt_cmpR op_ge (pv 1) (pe_callB (r := rLen K) call_len_seq rfl T.b_len rfl (pa_cons (pe_fld (pv 0) rfl) pa_nil)) (nomark _)) (pss_one (ps_ret (pe_lst (pa_cons (pe_con T.c_NO_SUCH_LEAF rfl) pa_nil)))) pss_nil)
      (pss_cons (ps_expr (pe_bm PySem.F.plainAttrs_list PySem.F.slot_list_pop PySem.F.type_list_pop mt_popAt (pe_fld (pv 0) rfl) (pa_cons (pv 1) pa_nil)))
      (pss_one (ps_ret (pe_lst (pa_cons (pe_callB (r := rLen K) call_len_seq rfl T.b_len rfl (pa_cons (pe_fld (pv 0) rfl) pa_nil)) pa_nil)))))), ?_⟩
    refine ⟨_, rfl, _, rfl, p, C, dx, _, _, rfl, hp, TC.cl, TC.nL, hf_get a, a, us, rfl, .inl (SqL.of ha), _, _, rfl, rfl, _, rfl, ifD (fun e => ?_) (fun e => ?_)⟩
    · have e : ls.length ≤ i := by omega
      refine ⟨(by show 1 ≤ sizeLine; decide), fun q hq => ?_⟩
      have st : Si45.step ls (.drop i) = (ls, Si45.ok (-2)) := by unfold Si45.step; simp [e]
      rw [st] at k
      exact k _ _ (Out.of_same (same_upd_self hq)) (hA.stay (same_upd_self hq)) (one_new (fun b n => n) hq)
    · have e : i < ls.length := by omega
      have st : Si45.step ls (.drop i) = (ls.eraseIdx i, Si45.ok ((ls.length - 1 : Nat) : Int)) := by unfold Si45.step; simp [Nat.not_le.mpr e]
      rw [st] at k
      obtain ⟨y, hy⟩ : ∃ y, us[i]? = some y := ⟨us[i], List.getElem?_eq_getElem (by omega)⟩
      have sq : seqIndex? (i : Int) us.length = some i := by
        unfold seqIndex?
        simp
        omega
      refine ⟨_, rfl, p, C, dx, _, _, rfl, hp, TC.cl, TC.nL, hf_get a, .inl ⟨rfl, _, SqL.of ha⟩, _, rfl, a, us, _, i, y, rfl, rfl, ha, by omega, by omega, sq, hy, ?_⟩
      have hap : a ≠ p := fun e => by rw [e, hp] at ha; cases ha
      have hp1 : upd H a (.lst (us.eraseIdx i)) p = some (.ins C dx (hf a)) := by rw [upd_ne hap.symm]; exact hp
      refine ⟨_, rfl, p, C, dx, _, _, rfl, hp1, TC.cl, TC.nL, hf_get a, a, _, rfl, .inl (SqL.of upd_same), (by show 1 ≤ sizeLine; decide), fun q hq => ?_⟩
      obtain ⟨hqa, hq1⟩ := upd_none hq
      refine k _ _ (fun b o e nb => ?_) ⟨?_, dx, a, us.eraseIdx i, .inl sp, .inl sa, ?_, ?_, ?_⟩ ?_
      · rw [upd_ne (ne_of_none e hq1), upd_ne (fun z : b = a => nb (by rw [z]; exact sa))]
        exact e
      · show (ls.eraseIdx i).length ≤ 6
        have := len_erase ls i
        omega
      · exact same_upd_self hq _ _ hp1
      · exact same_upd_self hq _ _ upd_same
      · show Paired _ _ ((ls.eraseIdx i).map (waysOf 0))
        rw [← map_erase]
        refine Paired.eraseIdx i (Paired.keep (fun b o sb e => ⟨⟨.inl sb.1, sb.2⟩, ?_⟩) pr)
        exact same_upd_self hq _ _ (by rw [upd_ne sb.2.1]; exact e)
      · have e3 : ((us.eraseIdx i).length : Int) = ((ls.length - 1 : Nat) : Int) := by
          rw [List.length_eraseIdx, if_pos (by omega), hlen]
        rw [e3]
        exact one_new (H := H) (fun b n => (upd_none n).2) hq

def wayOut (y : Lies) : List Int := Si45.ints [Si45.bit y.turned, y.from_, y.to_]
theorem wayOut_len (l : List Lies) : (l.flatMap wayOut).length = 3 * l.length := by
  induction l with
  | nil => rfl
  | cons x r ih => rw [List.flatMap_cons, List.length_append, ih, List.length_cons]; show 3 + _ = _; omega
theorem step_ways {ls : List Leaf} {i : Nat} {x : Leaf} (h : ls[i]? = some x) : Si45.step ls (.ways i) = (ls, ⟨((waysOf 0 x).length : Int), (waysOf 0 x).flatMap wayOut⟩) := by
  unfold Si45.step
  simp only [h]
  rw [← waysOf_leaf i x, List.length_map, List.flatMap_map]
  rfl
abbrev sWays : Stmt := inClass (top 35) 4
theorem sc_Heap_ways : FnScope ["self", "number", "answered", "way"] ["self", "number"] (defScope sWays) := ⟨rfl, rfl, rfl, by decide +kernel, rfl, by decide +kernel, by decide +kernel⟩
abbrev spWays (C : Addr) : Sp := spCall C fun as c => ∃ i : Nat, i < 2 ^ 32 ∧ as = [.int (i : Nat)] ∧ c = .ways i
theorem ok_Heap_ways {f C : Addr} {fd : FuncData} (F : Fun K "ways" "Heap.ways" sWays f fd) (T : Txt K mg) (TC : TxtC K C) : FnOk P w K mg base CX0 1 f fd ["self", "number"] (spWays C) := by
  refine F.ok sc_Heap_ways (fun vs H Q E h => ?_) (fun cdv A outer s H vs Q E hr h => ?_)
  · obtain ⟨S, p, ls, as, c, rfl, ⟨i, _, rfl, rfl⟩, _⟩ := h
    rfl
  · obtain ⟨S, p, ls, as, c, rfl, ⟨i, hi32, rfl, rfl⟩, hA, k⟩ := h
    obtain ⟨dx, a, us, sp, sa, hp, ha, pr⟩ := hA.ex
    have hlen : us.length = ls.length := by rw [pr.length, List.length_map]
    refine ⟨_, (pss_cons (ps_if (pt_cmpR op_ge (pv 1) (pe_callB (r := rLen K) call_len_seq rfl T.b_len rfl (pa_cons (pe_fld (pv 0) rfl) pa_nil)) (nomark _)) (pss_one (ps_ret (pe_lst (pa_cons (pe_con T.c_NO_SUCH_LEAF rfl) pa_nil)))) pss_nil)
      (pss_cons (ps_set (i := 2) sc_Heap_ways.nd rfl (Or.inl rfl) (pe_lst (pa_cons (pe_callB (r := rLen K) call_len_seq rfl T.b_len rfl (pa_cons (pe_ix (r := rIx K) ix_seq (pe_fld (pv 0) rfl) (pv 1) (fun _ _ => rfl)) pa_nil)) pa_nil)))
      (pss_cons (ps_for PassesOwn.never rfl (pi_list (pe_ix (r := rIx K) ix_seq (pe_fld (pv 0) rfl) (pv 1) (fun _ _ => rfl))) (pg_name (i := 3) sc_Heap_ways.nd rfl (Or.inl rfl)) (pss_one (ps_expr (pe_bm PySem.F.plainAttrs_list PySem.F.slot_list_extend PySem.F.type_list_extend mt_extend (pv 2) (pa_cons (pe_lst (pa_cons (pe_ix (r := rIx K) ix_seq (pv 3) pe_int (fun _ _ => rfl)) (pa_cons (pe_ix (r := rIx K) ix_seq (pv 3) pe_int (fun _ _ => rfl)) (pa_cons (pe_ix (r := rIx K) ix_seq (pv 3) pe_int (fun _ _ => rfl)) pa_nil)))) pa_nil)))))
      (pss_one (ps_ret (pv 2)))))), ?_⟩
    refine ⟨_, rfl, _, rfl, p, C, dx, _, _, rfl, hp, TC.cl, TC.nL, hf_get a, a, us, rfl, .inl (SqL.of ha), _, _, rfl, rfl, _, rfl, ifD (fun e => ?_) (fun e => ?_)⟩
    · have e : ls.length ≤ i := by omega
      refine ⟨(by show 1 ≤ sizeLine; decide), fun q hq => ?_⟩
      have st : Si45.step ls (.ways i) = (ls, Si45.ok (-2)) := by unfold Si45.step; simp [List.getElem?_eq_none e]
      rw [st] at k
      exact k _ _ (Out.of_same (same_upd_self hq)) (hA.stay (same_upd_self hq)) (one_new (fun b n => n) hq)
    · have e : i < ls.length := by omega
      obtain ⟨x, hx⟩ : ∃ x, ls[i]? = some x := ⟨ls[i], List.getElem?_eq_getElem e⟩
      rw [step_ways hx] at k
      obtain ⟨y, hy, b, ws, rfl, sb, hb, pw⟩ := Paired.get2 (i := i) (y := waysOf 0 x) pr (by rw [List.getElem?_map, hx]; rfl)
      have wl := waysOf_len 0 x
      have hwl := pw.length
      refine ⟨_, rfl, p, C, dx, _, _, rfl, hp, TC.cl, TC.nL, hf_get a, _, rfl, .inl ⟨a, us, _, _, rfl, rfl, SqL.of ha, atI_nat hy, b, ws, rfl, .inl (SqL.of hb), (by show 1 ≤ sizeLine; decide), fun l hl => ?_⟩⟩
      have A0 : Acc repI H (upd H l (.lst [.int ws.length])) (fun _ => False) l [((waysOf 0 x).length : Int)] := Acc.begin (Same.refl H) hl (.cons (by rw [hwl]; rfl) .nil)
      refine ⟨_, rfl, p, C, dx, _, _, rfl, A0.same _ _ hp, TC.cl, TC.nL, hf_get a, _, rfl, .inl ⟨a, us, _, _, rfl, rfl, SqL.of (A0.same _ _ ha), atI_nat hy, b, rfl, ⟨_, SqL.of (A0.same _ _ hb)⟩, ?_⟩⟩
      refine for_rep (K := K) (R := repWay) (S := fun b => S b ∧ b ≠ a ∧ b ≠ p) (H1 := H) (vs := ws) (ds := waysOf 0 x)
        (fun pre σ H' => (∃ z : Option V, σ = [some (.ref p), some (.int (i : Nat)), some (.ref l), z]) ∧ Acc repI H H' (fun _ => False) l (((waysOf 0 x).length : Int) :: pre.flatMap wayOut)) hb pw ⟨⟨none, rfl⟩, A0⟩ (fun pre σ H' q => q.2.same _ _ hb) ?_ ?_
      · rintro pre d post x' σ H1 hd ⟨t, rfl, st, ht0⟩ ⟨⟨z, rfl⟩, A1⟩
        have pl : pre.length ≤ 2 := by have : pre.length ≤ (waysOf 0 x).length := by { rw [hd]; simp }; omega
        have big : sizeLine = 16777216 := rfl
        have rl := wayOut_len pre
        obtain ⟨va, hva, _⟩ := A1.lst
        have ht := SqT.of (K := K) (A1.same _ _ ht0)
        refine ⟨_, rfl, .inl ⟨rfl, _, SqL.of hva⟩, _, rfl, .inr (.inl ⟨t, _, _, _, rfl, rfl, ht, rfl, _, rfl, .inr (.inl ⟨t, _, _, _, rfl, rfl, ht, rfl, _, rfl, .inr (.inl ⟨t, _, _, _, rfl, rfl, ht, rfl, (by show 3 ≤ sizeLine; decide), fun q hq => ?_⟩)⟩)⟩)⟩
        have A2 := A1.more (same_upd_self (o := .lst (wayV d)) hq)
        have hva2 := same_upd_self (o := .lst (wayV d)) hq _ _ hva
        refine ⟨l, q, va, _, rfl, rfl, hva2, upd_same, ?_, ⟨_, rfl⟩, ?_⟩
        · show va.length + 3 ≤ sizeLine
          rw [A1.len hva, List.length_cons]; omega
        · rw [List.flatMap_append, List.flatMap_singleton]
          exact A2.pushAll hva2 (ints_rep.mpr rfl)
      · rintro σ H1 ⟨⟨z, rfl⟩, A1⟩
        exact ⟨_, rfl, k H1 _ (Out.of_same A1.same) (hA.stay A1.same) (Stb.mono A1.rep fun b _ q => q.elim False.elim id)⟩

abbrev sOrders : Stmt := inClass (top 35) 5
theorem sc_Heap_orders : FnScope ["self"] ["self"] (defScope sOrders) := ⟨rfl, rfl, rfl, by decide +kernel, rfl, by decide +kernel, by decide +kernel⟩
abbrev spOrders (C : Addr) : Sp := spCall C fun as c => as = [] ∧ c = .orders
theorem ok_Heap_orders {f C : Addr} {fd : FuncData} (F : Fun K "orders" "Heap.orders" sOrders f fd) (T : Txt K mg) (TC : TxtC K C) (c_orders_of : Cal P w K mg base 3 "orders_of" ["leaves"] spOrdersOf) (c_count_and_first : Cal P w K mg base 2 "count_and_first" ["orders"] spCountAndFirst) :
    FnOk P w K mg base CX0 4 f fd ["self"] (spOrders C) := by
  refine F.ok sc_Heap_orders (fun vs H Q E h => ?_) (fun cdv A outer s H vs Q E hr h => ?_)
  · obtain ⟨S, p, ls, as, c, rfl, ⟨rfl, rfl⟩, _⟩ := h
    rfl
  · obtain ⟨S, p, ls, as, c, rfl, ⟨rfl, rfl⟩, hA, k⟩ := h
    obtain ⟨dx, a, hp, hr'⟩ := hA.rep
    refine ⟨_, (pss_one (ps_ret (pe_cal c_count_and_first (hr.mono (by decide)) rfl (pa_cons (pe_cal c_orders_of (hr.mono (by decide)) rfl (pa_cons (pe_fld (pv 0) rfl) pa_nil)) pa_nil)))), ?_⟩
    refine ⟨_, rfl, p, C, dx, _, _, rfl, hp, TC.cl, TC.nL, hf_get a, S, _, _, rfl, hr', few_ways hA.few, fun H1 v1 s1 r1 => ?_⟩
    have oe := orders_eq ls
    rw [List.length_map, ← oe] at r1
    refine ⟨_, _, _, rfl, r1, fun r m => ?_, fun H2 v2 s2 r2 => ?_⟩
    · rw [oe] at m
      rw [grow_row m]
      have := hA.few
      omega
    · exact k H2 v2 (Out.of_same (s1.trans s2)) (hA.stay (s1.trans s2)) (Stb.mono r2 fun b _ q => s1.free q)

theorem orders_few {ls : List Leaf} (h : ls.length ≤ 6) : (Si45.orders ls).length ≤ 2985984 := by
  rw [orders_eq]
  have few := few_ways h
  have pl := placesOf_len few.2
  rw [List.length_map] at pl
  refine Nat.le_trans (grow_len _ _) ?_
  refine Nat.le_trans (Nat.pow_le_pow_left (show _ ≤ 12 by omega) _) ?_
  exact Nat.pow_le_pow_right (n := 12) (by decide) h
abbrev sFromWord : Stmt := inClass (top 35) 6
theorem sc_Heap_from_word : FnScope ["self", "word"] ["self", "word"] (defScope sFromWord) := ⟨rfl, rfl, rfl, by decide +kernel, rfl, by decide +kernel, by decide +kernel⟩
abbrev spFromWord (C : Addr) : Sp := spCall C fun as c => ∃ n : Nat, as = [.int (n : Nat)] ∧ c = .from_ n
theorem ok_Heap_from_word {f C : Addr} {fd : FuncData} (F : Fun K "from_word" "Heap.from_word" sFromWord f fd) (T : Txt K mg) (TC : TxtC K C) (c_orders_of : Cal P w K mg base 3 "orders_of" ["leaves"] spOrdersOf) (c_orders_from : Cal P w K mg base 1 "orders_from" ["word", "orders"] spOrdersFrom)
    (c_count_and_first : Cal P w K mg base 2 "count_and_first" ["orders"] spCountAndFirst) : FnOk P w K mg base CX0 4 f fd ["self", "word"] (spFromWord C) := by
  refine F.ok sc_Heap_from_word (fun vs H Q E h => ?_) (fun cdv A outer s H vs Q E hr h => ?_)
  · obtain ⟨S, p, ls, as, c, rfl, ⟨n, rfl, rfl⟩, _⟩ := h
    rfl
  · obtain ⟨S, p, ls, as, c, rfl, ⟨n, rfl, rfl⟩, hA, k⟩ := h
    obtain ⟨dx, a, hp, hr'⟩ := hA.rep
    have of := orders_few hA.few
    refine ⟨_, (pss_one (ps_ret (pe_cal c_count_and_first (hr.mono (by decide)) rfl (pa_cons (pe_cal c_orders_from (hr.mono (by decide)) rfl (pa_cons (pv 1) (pa_cons (pe_cal c_orders_of (hr.mono (by decide)) rfl (pa_cons (pe_fld (pv 0) rfl) pa_nil)) pa_nil))) pa_nil)))), ?_⟩
    refine ⟨_, rfl, _, rfl, p, C, dx, _, _, rfl, hp, TC.cl, TC.nL, hf_get a, S, _, _, rfl, hr', few_ways hA.few, fun H1 v1 s1 r1 => ?_⟩
    have oe := orders_eq ls
    rw [List.length_map, ← oe] at r1
    refine ⟨_, n, v1, _, rfl, r1, (by show _ < 16777216; omega), fun H2 v2 s2 r2 => ?_⟩
    refine ⟨_, _, _, rfl, r2, fun r m => ?_, fun H3 v3 s3 r3 => ?_⟩
    · have := (orders_mem (List.mem_filter.mp m).1).2.2
      have := hA.few
      omega
    · have s13 := s1.trans (s2.trans s3)
      exact k H3 v3 (Out.of_same s13) (hA.stay s13) (Stb.mono r3 fun b _ q => s1.free (s2.free q))

abbrev sRuns : Stmt := inClass (top 35) 7
theorem sc_Heap_runs : FnScope ["self", "fewest"] ["self"] (defScope sRuns) := ⟨rfl, rfl, rfl, by decide +kernel, rfl, by decide +kernel, by decide +kernel⟩
abbrev spRuns (C : Addr) : Sp := spCall C fun as c => as = [] ∧ c = .runs
theorem ok_Heap_runs {f C : Addr} {fd : FuncData} (F : Fun K "runs" "Heap.runs" sRuns f fd) (T : Txt K mg) (TC : TxtC K C) (c_fewest_gaps : Cal P w K mg base 3 "fewest_gaps" ["leaves"] spFewestGaps) (c_leaves_and_ways : Cal P w K mg base 1 "leaves_and_ways" ["row"] spLeavesAndWays) :
    FnOk P w K mg base CX0 4 f fd ["self"] (spRuns C) := by
  refine F.ok sc_Heap_runs (fun vs H Q E h => ?_) (fun cdv A outer s H vs Q E hr h => ?_)
  · obtain ⟨S, p, ls, as, c, rfl, ⟨rfl, rfl⟩, _⟩ := h
    rfl
  · obtain ⟨S, p, ls, as, c, rfl, ⟨rfl, rfl⟩, hA, k⟩ := h
    obtain ⟨dx, a, hp, hr'⟩ := hA.rep
    have big : sizeLine = 16777216 := rfl
    have few := hA.few
    refine ⟨_, (pss_cons (ps_set (i := 1) sc_Heap_runs.nd rfl (Or.inl rfl) (pe_cal c_fewest_gaps (hr.mono (by decide)) rfl (pa_cons (pe_fld (pv 0) rfl) pa_nil)))
      (pss_cons (ps_if (pt_cmp (pc_isN (pv 1))) (pss_one (ps_ret (pe_lst (pa_cons (pe_con T.c_NO_ROW rfl) pa_nil)))) pss_nil)
      (pss_one (ps_ret (pe_op op_cat (pe_lst (pa_cons (pe_ix (r := rIx K) ix_seq (pv 1) pe_int (fun _ _ => rfl)) pa_nil)) (pe_cal c_leaves_and_ways (hr.mono (by decide)) rfl (pa_cons (pe_ix (r := rIx K) ix_seq (pv 1) pe_int (fun _ _ => rfl)) pa_nil))))))), ?_⟩
    refine ⟨_, rfl, p, C, dx, _, _, rfl, hp, TC.cl, TC.nL, hf_get a, S, _, _, rfl, hr', few_ways hA.few, fun e H1 s1 => ?_, fun H1 u c s1 mc hmin ru => ?_⟩
    · rw [placesOf_all, List.length_map] at e
      have ef := fewest_empty e
      have st : Si45.step ls .runs = (ls, Si45.ok (-6)) := by unfold Si45.step; simp [ef]
      rw [st] at k
      refine ⟨_, rfl, _, rfl, ifD (fun _ => ?_) (fun z => absurd rfl z)⟩
      refine ⟨(by show 1 ≤ sizeLine; decide), fun q hq => ?_⟩
      have s2 := s1.trans (same_upd_self (o := .lst [.int (-6)]) hq)
      exact k _ _ (Out.of_same s2) (hA.stay s2) (one_new (fun b n => s1.free n) hq)
    · rw [placesOf_all, List.length_map] at mc hmin
      have ef := fewest_least mc hmin
      have st : Si45.step ls .runs = (ls, ⟨(c.1 : Int), Si45.rowOut c.2⟩) := by unfold Si45.step; simp [ef]
      rw [st] at k
      have cl : c.2.length = ls.length := growC_row mc
      obtain ⟨t, rv, rfl, nt, ht, hrow⟩ := ru
      refine ⟨_, rfl, _, rfl, ifD (fun z => nomatch z) (fun _ => ?_)⟩
      refine ⟨_, rfl, .inr (.inl ⟨t, _, _, _, rfl, rfl, SqT.of ht, rfl, (by show 1 ≤ sizeLine; decide), fun q hq => ?_⟩)⟩
      have s2 := same_upd_self (o := .lst [.int (c.1 : Nat)]) hq
      refine ⟨_, rfl, .inr (.inl ⟨t, _, _, _, rfl, rfl, SqT.of (s2 _ _ ht), rfl, _, rv, c.2, rfl, Stb.same hrow s2, (by omega), fun H3 v3 s3 r3 => ?_⟩)⟩
      obtain ⟨b, ws, rfl, nb0, hb, pb⟩ := r3
      have ews := ints_rep.mp pb
      subst ews
      have rl := rowOut_len c.2
      refine ⟨q, b, _, _, rfl, rfl, s3 _ _ upd_same, hb, (by show 1 + _ ≤ sizeLine; rw [List.length_map]; omega), fun r hr2 => ?_⟩
      have s4 := same_upd_self (o := .lst ([.int (c.1 : Nat)] ++ (Si45.rowOut c.2).map V.int)) hr2
      have s14 := s1.trans (s2.trans (s3.trans s4))
      refine k _ _ (Out.of_same s14) (hA.stay s14) ⟨r, _, rfl, s1.free (s2.free (s3.free hr2)), upd_same, ints_rep.mpr ?_⟩
      rfl

theorem pairOut_len (l : List (Nat × Nat)) : (l.flatMap fun x => Si45.ints [x.1, x.2]).length = 2 * l.length := by
  induction l with
  | nil => rfl
  | cons x r ih => rw [List.flatMap_cons, List.length_append, ih, List.length_cons]; show 2 + _ = _; omega
abbrev sSure : Stmt := inClass (top 35) 8
theorem sc_Heap_sure : FnScope ["self", "pairs", "answered", "pair"] ["self"] (defScope sSure) := ⟨rfl, rfl, rfl, by decide +kernel, rfl, by decide +kernel, by decide +kernel⟩
abbrev spSure (C : Addr) : Sp := spCall C fun as c => as = [] ∧ c = .sure
theorem ok_Heap_sure {f C : Addr} {fd : FuncData} (F : Fun K "sure" "Heap.sure" sSure f fd) (T : Txt K mg) (TC : TxtC K C) (c_orders_of : Cal P w K mg base 3 "orders_of" ["leaves"] spOrdersOf) (c_sure_pairs : Cal P w K mg base 3 "sure_pairs" ["orders"] spSurePairs) :
    FnOk P w K mg base CX0 4 f fd ["self"] (spSure C) := by
  refine F.ok sc_Heap_sure (fun vs H Q E h => ?_) (fun cdv A outer s H vs Q E hr h => ?_)
  · obtain ⟨S, p, ls, as, c, rfl, ⟨rfl, rfl⟩, _⟩ := h
    rfl
  · obtain ⟨S, p, ls, as, c, rfl, ⟨rfl, rfl⟩, hA, k⟩ := h
    obtain ⟨dx, a, hp, hr'⟩ := hA.rep
    have big : sizeLine = 16777216 := rfl
    have few := hA.few
    refine ⟨_, (pss_cons (ps_set (i := 1) sc_Heap_sure.nd rfl (Or.inl rfl) (pe_cal c_sure_pairs (hr.mono (by decide)) rfl (pa_cons (pe_cal c_orders_of (hr.mono (by decide)) rfl (pa_cons (pe_fld (pv 0) rfl) pa_nil)) pa_nil)))
      (pss_cons (ps_set (i := 2) sc_Heap_sure.nd rfl (Or.inl rfl) (pe_lst (pa_cons (pe_callB (r := rLen K) call_len_seq rfl T.b_len rfl (pa_cons (pv 1) pa_nil)) pa_nil)))
      (pss_cons (ps_for PassesOwn.never rfl (pi_list (pv 1)) (pg_name (i := 3) sc_Heap_sure.nd rfl (Or.inl rfl)) (pss_one (ps_expr (pe_bm PySem.F.plainAttrs_list PySem.F.slot_list_extend PySem.F.type_list_extend mt_extend (pv 2) (pa_cons (pe_lst (pa_cons (pe_ix (r := rIx K) ix_seq (pv 3) pe_int (fun _ _ => rfl)) (pa_cons (pe_ix (r := rIx K) ix_seq (pv 3) pe_int (fun _ _ => rfl)) pa_nil))) pa_nil)))))
      (pss_one (ps_ret (pv 2)))))), ?_⟩
    refine ⟨_, rfl, p, C, dx, _, _, rfl, hp, TC.cl, TC.nL, hf_get a, S, _, _, rfl, hr', few_ways hA.few, fun H1 v1 s1 r1 => ?_⟩
    have oe := orders_eq ls
    rw [List.length_map, ← oe] at r1
    refine ⟨_, v1, _, rfl, r1, fun r m => ?_, fun H2 v2 qs s2 pq so r2 => ?_⟩
    · have := (orders_mem m).2.2
      omega
    obtain rfl := sure_is pq so
    have ql : (Si45.sure ls).length ≤ 36 := by
      have := flatMap_len (f := fun i => ((List.range ls.length).filter fun j => !(Si45.orders ls).isEmpty && (Si45.orders ls).all (Si45.beside i j)).map fun j => (i, j)) (k := 6) (l := List.range ls.length) fun i _ => by
        rw [List.length_map]
        have := List.length_filter_le (fun j => !(Si45.orders ls).isEmpty && (Si45.orders ls).all (Si45.beside i j)) (List.range ls.length)
        rw [List.length_range] at this
        omega
      rw [List.length_range] at this
      have e : (Si45.sure ls).length ≤ 6 * ls.length := this
      omega
    obtain ⟨b, bs, rfl, nb0, hb, pb⟩ := r2
    have lbs := pb.length
    -- answered = [len(pairs)]
    refine ⟨_, rfl, b, bs, rfl, .inl (SqL.of hb), (by show 1 ≤ sizeLine; decide), fun l hl => ?_⟩
    have A0 : Acc repI H2 (upd H2 l (.lst [.int bs.length])) (fun _ => False) l [((Si45.sure ls).length : Int)] := Acc.begin (Same.refl H2) hl (.cons (by rw [lbs]; rfl) .nil)
    refine ⟨_, rfl, b, rfl, ⟨_, SqL.of (A0.same _ _ hb)⟩, for_rep (K := K) (R := repPair) (S := fun b => H1 b = none) (H1 := H2) (vs := bs) (ds := Si45.sure ls)
      (fun pre σ H' => (∃ z : Option V, σ = [some (.ref p), some (.ref b), some (.ref l), z]) ∧ Acc repI H2 H' (fun _ => False) l (((Si45.sure ls).length : Int) :: pre.flatMap fun x => Si45.ints [x.1, x.2])) hb pb ⟨⟨none, rfl⟩, A0⟩ (fun pre σ H' q => q.2.same _ _ hb) ?_ ?_⟩
    · rintro pre d post x σ H3 hd ⟨t, rfl, st, ht0⟩ ⟨⟨z, rfl⟩, A1⟩
      have pl : pre.length < (Si45.sure ls).length := by rw [hd]; simp
      have rl := pairOut_len pre
      obtain ⟨va, hva, _⟩ := A1.lst
      have ht := SqT.of (K := K) (A1.same _ _ ht0)
      refine ⟨_, rfl, .inl ⟨rfl, _, SqL.of hva⟩, _, rfl, .inr (.inl ⟨t, _, _, _, rfl, rfl, ht, rfl, _, rfl, .inr (.inl ⟨t, _, _, _, rfl, rfl, ht, rfl, (by show 2 ≤ sizeLine; decide), fun q hq => ?_⟩)⟩)⟩
      have A2 := A1.more (same_upd_self (o := .lst (pairV d)) hq)
      have hva2 := same_upd_self (o := .lst (pairV d)) hq _ _ hva
      refine ⟨l, q, va, _, rfl, rfl, hva2, upd_same, ?_, ⟨_, rfl⟩, ?_⟩
      · show va.length + 2 ≤ sizeLine
        rw [A1.len hva, List.length_cons]; omega
      · rw [List.flatMap_append, List.flatMap_singleton]
        exact A2.pushAll hva2 (ints_rep.mpr rfl)
    · rintro σ H3 ⟨⟨z, rfl⟩, A1⟩
      have s13 := s1.trans (s2.trans A1.same)
      exact ⟨_, rfl, k H3 _ (Out.of_same s13) (hA.stay s13) (Stb.mono A1.rep fun b _ q => q.elim False.elim fun q => s1.free (s2.free q))⟩

abbrev sBehind : Stmt := inClass (top 35) 9
theorem sc_Heap_behind : FnScope ["self", "first", "second"] ["self", "first", "second"] (defScope sBehind) := ⟨rfl, rfl, rfl, by decide +kernel, rfl, by decide +kernel, by decide +kernel⟩
abbrev spBehind (C : Addr) : Sp := spCall C fun as c => ∃ i j : Nat, as = [.int (i : Nat), .int (j : Nat)] ∧ c = .behind i j
theorem ok_Heap_behind {f C : Addr} {fd : FuncData} (F : Fun K "behind" "Heap.behind" sBehind f fd) (T : Txt K mg) (TC : TxtC K C) (c_orders_of : Cal P w K mg base 3 "orders_of" ["leaves"] spOrdersOf) (c_orders_with : Cal P w K mg base 3 "orders_with" ["pair", "orders"] spOrdersWith) :
    FnOk P w K mg base CX0 4 f fd ["self", "first", "second"] (spBehind C) := by
  refine F.ok sc_Heap_behind (fun vs H Q E h => ?_) (fun cdv A outer s H vs Q E hr h => ?_)
  · obtain ⟨S, p, ls, as, c, rfl, ⟨i, j, rfl, rfl⟩, _⟩ := h
    rfl
  · obtain ⟨S, p, ls, as, c, rfl, ⟨i, j, rfl, rfl⟩, hA, k⟩ := h
    obtain ⟨dx, a, hp, hr'⟩ := hA.rep
    have big : sizeLine = 16777216 := rfl
    have few := hA.few
    have of := orders_few hA.few
    obtain ⟨a', us, ea, sa, ha, pr⟩ := hr'
    cases ea
    have hlen : us.length = ls.length := by rw [pr.length, List.length_map]
    refine ⟨_, (pss_cons (ps_if (pt_cmpR op_ge (pe_callB (call_max2 rfl) rfl T.b_max rfl (pa_cons (pv 1) (pa_cons (pv 2) pa_nil))) (pe_callB (r := rLen K) call_len_seq rfl T.b_len rfl (pa_cons (pe_fld (pv 0) rfl) pa_nil)) (nomark _)) (pss_one (ps_ret (pe_lst (pa_cons (pe_con T.c_NO_SUCH_LEAF rfl) pa_nil)))) pss_nil)
      (pss_one (ps_ret (pe_lst (pa_cons (pe_callB (r := rLen K) call_len_seq rfl T.b_len rfl (pa_cons (pe_cal c_orders_with (hr.mono (by decide)) rfl (pa_cons (pe_tup (pa_cons (pv 1) (pa_cons (pv 2) pa_nil))) (pa_cons (pe_cal c_orders_of (hr.mono (by decide)) rfl (pa_cons (pe_fld (pv 0) rfl) pa_nil)) pa_nil))) pa_nil)) pa_nil))))), ?_⟩
    refine ⟨_, rfl, _, rfl, _, _, rfl, _, rfl, p, C, dx, _, _, rfl, hp, TC.cl, TC.nL, hf_get a, a, us, rfl, .inl (SqL.of ha), _, _, rfl, rfl, _, rfl, ifD (fun e => ?_) (fun e => ?_)⟩
    · have e : ls.length ≤ i ∨ ls.length ≤ j := by
        rw [hlen] at e
        split at e <;> omega
      have st : Si45.step ls (.behind i j) = (ls, Si45.ok (-2)) := by unfold Si45.step; simp [e]
      rw [st] at k
      refine ⟨(by show 1 ≤ sizeLine; decide), fun q hq => ?_⟩
      exact k _ _ (Out.of_same (same_upd_self hq)) (hA.stay (same_upd_self hq)) (one_new (fun b n => n) hq)
    · have e : ¬ (ls.length ≤ i ∨ ls.length ≤ j) := by
        rw [hlen] at e
        split at e <;> omega
      have st : Si45.step ls (.behind i j) = (ls, Si45.ok ((((Si45.orders ls).filter (Si45.beside i j)).length : Nat) : Int)) := by unfold Si45.step; simp [e]
      rw [st] at k
      refine ⟨_, rfl, _, rfl, (by show 2 ≤ sizeLine; decide), fun t ht => ?_⟩
      have s1 := same_upd_self (o := .tup [.int (i : Nat), .int (j : Nat)]) ht
      refine ⟨_, rfl, p, C, dx, _, _, rfl, s1 _ _ hp, TC.cl, TC.nL, hf_get a, S, _, _, rfl, Stb.same (R := repL (repL repWay)) ⟨a, us, rfl, sa, ha, pr⟩ s1, few_ways hA.few, fun H2 v2 s2 r2 => ?_⟩
      have oe := orders_eq ls
      rw [List.length_map, ← oe] at r2
      refine ⟨fun b => b = t ∨ upd H t (.tup [.int (i : Nat), .int (j : Nat)]) b = none, .ref t, v2, (i, j), _, rfl, ⟨t, rfl, .inl rfl, s2 _ _ upd_same⟩, Stb.mono r2 fun b _ q => .inr q, (by omega), fun r m => ?_, fun H3 v3 s3 r3 => ?_⟩
      · have := (orders_mem m).2.2
        omega
      · obtain ⟨b, bs, rfl, nb0, hb, pb⟩ := r3
        have lbs := pb.length
        refine ⟨b, bs, rfl, .inl (SqL.of hb), (by show 1 ≤ sizeLine; decide), fun q hq => ?_⟩
        have s13 := s1.trans (s2.trans (s3.trans (same_upd_self (o := .lst [.int bs.length]) hq)))
        have en : (bs.length : Int) = ((((Si45.orders ls).filter (Si45.beside i j)).length : Nat) : Int) := by
          rw [lbs]
          rw [show Si45.beside i j = withP (i, j) from funext fun r => beside_nb i j r]
        rw [en] at s13 ⊢
        exact k _ _ (Out.of_same s13) (hA.stay s13) (one_new (fun b n => s1.free (s2.free (s3.free n))) hq)

abbrev sLeast : Stmt := inClass (top 35) 10
theorem sc_Heap_least : FnScope ["self", "found"] ["self"] (defScope sLeast) := ⟨rfl, rfl, rfl, by decide +kernel, rfl, by decide +kernel, by decide +kernel⟩
abbrev spLeast (C : Addr) : Sp := spCall C fun as c => as = [] ∧ c = .least
theorem ok_Heap_least {f C : Addr} {fd : FuncData} (F : Fun K "least" "Heap.least" sLeast f fd) (T : Txt K mg) (TC : TxtC K C) (c_least_runs : Cal P w K mg base 3 "least_runs" ["ways"] spLeastRuns) :
    FnOk P w K mg base CX0 4 f fd ["self"] (spLeast C) := by
  refine F.ok sc_Heap_least (fun vs H Q E h => ?_) (fun cdv A outer s H vs Q E hr h => ?_)
  · obtain ⟨S, p, ls, as, c, rfl, ⟨rfl, rfl⟩, _⟩ := h
    rfl
  · obtain ⟨S, p, ls, as, c, rfl, ⟨rfl, rfl⟩, hA, k⟩ := h
    obtain ⟨dx, a, hp, hr'⟩ := hA.rep
    have big : sizeLine = 16777216 := rfl
    have few := hA.few
    obtain ⟨a', us, ea, sa, ha, pr⟩ := hr'
    cases ea
    refine ⟨_, (pss_cons (ps_for PassesOwn.never rfl (pi_list (pe_fld (pv 0) rfl)) (pg_name (i := 1) sc_Heap_least.nd rfl (Or.inl rfl)) (pss_one (ps_if (pt_cmpR op_ne (pe_callB (r := rLen K) call_len_seq rfl T.b_len rfl (pa_cons (pv 1) pa_nil)) pe_int (nomark _)) (pss_one (ps_ret (pe_lst (pa_cons (pe_con T.c_NOT_JUST_ONE_WAY rfl) pa_nil)))) pss_nil)))
      (pss_one (ps_ret (pe_cal c_least_runs (hr.mono (by decide)) rfl (pa_cons (pe_lc (own := [("found", 1)]) rfl sc_Heap_least.nd (pi_list (pe_fld (pv 0) rfl)) (blkOk_by rfl) (fun _ _ _ _ _ => (pg_name (i := 1) sc_Heap_least.nd rfl (Or.inl rfl))) (fun _ _ _ _ _ => pts_nil) (fun _ _ _ _ _ => (pe_ix (r := rIx K) ix_seq (pv 1) pe_int (fun _ _ => rfl)))) pa_nil))))), ?_⟩
    refine ⟨_, rfl, p, C, dx, _, _, rfl, hp, TC.cl, TC.nL, hf_get a, a, rfl, ⟨_, SqL.of ha⟩, for_rep (K := K) (R := repL repWay) (S := S) (H1 := H) (vs := us) (ds := ls.map (waysOf 0))
      (fun pre σ H' => (∃ z : Option V, σ = [some (.ref p), z]) ∧ H' = H ∧ ∀ ws ∈ pre, ws.length = 1) ha pr ⟨⟨none, rfl⟩, rfl, fun _ m => nomatch m⟩ (fun pre σ H' ⟨_, e, _⟩ => by rw [e]; exact ha) ?_ ?_⟩
    · rintro pre d post x σ H1 hd ⟨b, ws, rfl, sb, hb, pb⟩ ⟨⟨z, rfl⟩, rfl, hpre⟩
      have lb := pb.length
      refine ⟨_, rfl, b, ws, rfl, .inl (SqL.of hb), rfl, _, rfl, ?_⟩
      by_cases e : d.length = 1
      · have e1 : decide (V.int (ws.length : Int) = V.int 1) = true := by rw [lb, e]; rfl
        rw [e1]
        refine ite2 (fun z => absurd (show false = true from z) (by decide)) fun _ => ?_
        refine ⟨⟨_, rfl⟩, rfl, fun ws m => ?_⟩
        rcases List.mem_append.mp m with m | m
        · exact hpre ws m
        · rw [List.mem_singleton.mp m]; exact e
      · have e1 : decide (V.int (ws.length : Int) = V.int 1) = false := decide_eq_false fun z => e (by injection z with z; omega)
        rw [e1]
        refine ite2 (fun _ => ?_) fun z => absurd (show true = true from rfl) z
        have sg : Si45.single ls = false := by
          rw [Bool.eq_false_iff]
          intro z
          exact e (single_ways.mp z d (by rw [hd]; simp))
        have st : Si45.step ls .least = (ls, Si45.ok (-4)) := by unfold Si45.step; simp [sg]
        rw [st] at k
        refine ⟨(by show 1 ≤ sizeLine; decide), fun q hq => ?_⟩
        exact k _ _ (Out.of_same (same_upd_self hq)) (hA.stay (same_upd_self hq)) (one_new (fun b n => n) hq)
    · rintro σ H1 ⟨⟨z, rfl⟩, rfl, hall⟩
      have sg : Si45.single ls = true := single_ways.mpr hall
      have st : Si45.step ls .least = (ls, ⟨(Si45.least (Si45.allWays ls) : Int), Si45.ints ((Si45.parts (Si45.allWays ls)).length :: (Si45.parts (Si45.allWays ls)).flatMap fun p => [p.headD 0, p.length, Si45.total (p.map (Si45.over (Si45.allWays ls)))])⟩) := by unfold Si45.step; simp [sg]
      rw [st] at k
      refine ⟨_, rfl, p, C, dx, _, _, rfl, hp, TC.cl, TC.nL, hf_get a, a, rfl, ⟨_, SqL.of ha⟩, fun D hD => ?_⟩
      refine lc_rep (K := K) (R := repL repWay) (S := S) (H0 := H1) (vs := us) (ds := ls.map (waysOf 0)) (fun pre H' => Acc repWay H1 H' S D (pre.map headW)) pr (Acc.start (Same.refl H1) hD) (fun pre H' A1 => A1.same _ _ ha) ?_ ?_
      · rintro pre d post x H2 hd ⟨b, ws, rfl, sb, hb, pb⟩ A1
        have pl : pre.length < (ls.map (waysOf 0)).length := by rw [hd]; simp
        rw [List.length_map] at pl
        have d1 := hall d (by rw [hd]; simp)
        obtain ⟨d0, ed⟩ : ∃ d0, d = [d0] := by
          match d, d1 with
          | [d0], _ => exact ⟨d0, rfl⟩
        subst ed
        cases pb with
        | @cons u0 _ us0 _ h0 pb' =>
        obtain ⟨acc, hacc, _⟩ := A1.lst
        refine ⟨rfl, _, rfl, .inl ⟨b, _, _, _, rfl, rfl, SqL.of (A1.same _ _ hb), atI_nat (j := 0) rfl, acc, hacc, (by rw [A1.len hacc, List.length_map]; omega), ?_⟩⟩
        rw [List.map_append]
        exact A1.push hacc (A1.old h0)
      · intro H2 A1
        obtain ⟨fs, hfs, pfs⟩ := A1.lst
        have ra : repL repWay H2 (Or2 S H1) (.ref D) (Si45.allWays ls) := by
          obtain ⟨D', vs', e1, e2, e3, e4⟩ := A1.rep
          exact ⟨D', vs', e1, e2, e3, rep_wayV e4 (single_all hall).symm⟩
        have al : (Si45.allWays ls).length ≤ 6 := by
          have := congrArg List.length (single_all hall)
          rw [List.length_map, List.length_map, List.length_map, List.length_map] at this
          omega
        refine ⟨_, _, _, rfl, ra, by omega, fun H3 v3 s3 r3 => ?_⟩
        rw [least_told] at r3
        have s13 := A1.same.trans s3
        exact k H3 _ (Out.of_same s13) (hA.stay s13) (Stb.mono r3 fun b _ q => A1.same.free q)
end
end LL

set_option Elab.async false
set_option linter.all false
set_option maxRecDepth 100000
set_option maxHeartbeats 4000000
namespace LL
open PySem PySem.Spec PyProof.Rows L2
open Si45 (Lies Leaf waysOf)
section
variable {P : Program} {w : World} {K : PySem.W.Frag} {mg : Str → Option Value} {base : Heap}

/-! ### answer -/
abbrev sAnswer : Stmt := top 47
theorem sc_answer : FnScope ["heap", "call", "given"] ["heap", "call", "given"] (defScope sAnswer) := ⟨rfl, rfl, rfl, by decide +kernel, rfl, by decide +kernel, by decide +kernel⟩
def spAnswer (C : Addr) : Sp := fun vs H Q _ => ∃ (S : Addr → Prop) (p : Addr) (ls : List Leaf) (k : Nat) (g : Addr) (ys : List Nat) (q : Si45.Call), vs = [.ref p, natV k, .ref g] ∧ HeapAt C H S p ls ∧ H g = some (.lst (ys.map natV)) ∧ IsCall k ys q ∧ (∀ y ∈ ys, y < 2 ^ 32) ∧
  ∀ H' v', Out H H' S → HeapAt C H' (Or2 S H) p (Si45.step ls q).1 → repL repI H' (fun b => H b = none) v' (ansOf ls q) → Q v' H'
theorem ok_answer {f C : Addr} {fd : FuncData} (F : Fun K "answer" "answer" sAnswer f fd) (T : Txt K mg)
    (m_Heap_begins : MCal P w K mg base 1 C "begins" ["self"] (spBegins C))
    (m_Heap_leaf : MCal P w K mg base 2 C "leaf" ["self", "first", "caught", "second", "caught2"] (spLeaf C))
    (m_Heap_drop : MCal P w K mg base 1 C "drop" ["self", "number"] (spDrop C))
    (m_Heap_ways : MCal P w K mg base 1 C "ways" ["self", "number"] (spWays C))
    (m_Heap_orders : MCal P w K mg base 4 C "orders" ["self"] (spOrders C))
    (m_Heap_from_word : MCal P w K mg base 4 C "from_word" ["self", "word"] (spFromWord C))
    (m_Heap_runs : MCal P w K mg base 4 C "runs" ["self"] (spRuns C))
    (m_Heap_sure : MCal P w K mg base 4 C "sure" ["self"] (spSure C))
    (m_Heap_behind : MCal P w K mg base 4 C "behind" ["self", "first", "second"] (spBehind C))
    (m_Heap_least : MCal P w K mg base 4 C "least" ["self"] (spLeast C)) :
    FnOk P w K mg base CX0 5 f fd ["heap", "call", "given"] (spAnswer C) := by
  refine F.ok sc_answer (fun vs H Q E h => ?_) (fun cdv A outer s H vs Q E hr h => ?_)
  · obtain ⟨S, p, ls, k, g, ys, q, rfl, _⟩ := h
    rfl
  · obtain ⟨S, p, ls, n, g, ys, q, rfl, hA, hg, hc, hy, k⟩ := h
    obtain ⟨dx, a, us, sp, sa, hp, ha, pr⟩ := hA.ex
    have hg' := SqL.of (K := K) hg
    refine ⟨_, (pss_cons (ps_if (pt_cmpR op_eq (pv 1) (pe_con T.c_BEGINS rfl) (nomark _)) (pss_one (ps_ret (pe_mcal0 m_Heap_begins (hr.mono (by decide)) (pv 0)))) pss_nil)
      (pss_cons (ps_if (pt_cmpR op_eq (pv 1) (pe_con T.c_LEAF rfl) (nomark _)) (pss_one (ps_ret (pe_mcal m_Heap_leaf (hr.mono (by decide)) (pv 0) (pa_cons (pe_ix (r := rIx K) ix_seq (pv 2) pe_int (fun _ _ => rfl)) (pa_cons (pe_ix (r := rIx K) ix_seq (pv 2) pe_int (fun _ _ => rfl)) (pa_cons (pe_ix (r := rIx K) ix_seq (pv 2) pe_int (fun _ _ => rfl)) (pa_cons (pe_ix (r := rIx K) ix_seq (pv 2) pe_int (fun _ _ => rfl)) pa_nil))))))) pss_nil)
      (pss_cons (ps_if (pt_cmpR op_eq (pv 1) (pe_con T.c_DROP rfl) (nomark _)) (pss_one (ps_ret (pe_mcal m_Heap_drop (hr.mono (by decide)) (pv 0) (pa_cons (pe_ix (r := rIx K) ix_seq (pv 2) pe_int (fun _ _ => rfl)) pa_nil)))) pss_nil)
      (pss_cons (ps_if (pt_cmpR op_eq (pv 1) (pe_con T.c_WAYS rfl) (nomark _)) (pss_one (ps_ret (pe_mcal m_Heap_ways (hr.mono (by decide)) (pv 0) (pa_cons (pe_ix (r := rIx K) ix_seq (pv 2) pe_int (fun _ _ => rfl)) pa_nil)))) pss_nil)
      (pss_cons (ps_if (pt_cmpR op_eq (pv 1) (pe_con T.c_ORDERS rfl) (nomark _)) (pss_one (ps_ret (pe_mcal0 m_Heap_orders (hr.mono (by decide)) (pv 0)))) pss_nil)
      (pss_cons (ps_if (pt_cmpR op_eq (pv 1) (pe_con T.c_FROM_WORD rfl) (nomark _)) (pss_one (ps_ret (pe_mcal m_Heap_from_word (hr.mono (by decide)) (pv 0) (pa_cons (pe_ix (r := rIx K) ix_seq (pv 2) pe_int (fun _ _ => rfl)) pa_nil)))) pss_nil)
      (pss_cons (ps_if (pt_cmpR op_eq (pv 1) (pe_con T.c_RUNS rfl) (nomark _)) (pss_one (ps_ret (pe_mcal0 m_Heap_runs (hr.mono (by decide)) (pv 0)))) pss_nil)
      (pss_cons (ps_if (pt_cmpR op_eq (pv 1) (pe_con T.c_SURE rfl) (nomark _)) (pss_one (ps_ret (pe_mcal0 m_Heap_sure (hr.mono (by decide)) (pv 0)))) pss_nil)
      (pss_cons (ps_if (pt_cmpR op_eq (pv 1) (pe_con T.c_BEHIND rfl) (nomark _)) (pss_one (ps_ret (pe_mcal m_Heap_behind (hr.mono (by decide)) (pv 0) (pa_cons (pe_ix (r := rIx K) ix_seq (pv 2) pe_int (fun _ _ => rfl)) (pa_cons (pe_ix (r := rIx K) ix_seq (pv 2) pe_int (fun _ _ => rfl)) pa_nil))))) pss_nil)
      (pss_one (ps_ret (pe_mcal0 m_Heap_least (hr.mono (by decide)) (pv 0))))))))))))), ?_⟩
    refine ⟨_, rfl, rfl, _, rfl, ifI (fun e => ?_) (fun e0 => ?_)⟩
    · have e : n = 0 := by omega
      subst e
      cases hc with
      | begins =>
      exact ⟨_, rfl, p, dx, _, rfl, hp, hf_no a (by decide +kernel), S, p, ls, [], _, rfl, ⟨rfl, rfl⟩, hA, k⟩
    refine ⟨_, rfl, rfl, _, rfl, ifI (fun e => ?_) (fun e1 => ?_)⟩
    · have e : n = 1 := by omega
      subst e
      cases hc with
      | leaf x =>
      refine ⟨_, rfl, p, dx, _, rfl, hp, hf_no a (by decide +kernel), ?_⟩
      refine ⟨_, rfl, .inl ⟨g, _, _, _, rfl, rfl, hg', rfl, ?_⟩⟩
      refine ⟨_, rfl, .inl ⟨g, _, _, _, rfl, rfl, hg', rfl, ?_⟩⟩
      refine ⟨_, rfl, .inl ⟨g, _, _, _, rfl, rfl, hg', rfl, ?_⟩⟩
      refine ⟨_, rfl, .inl ⟨g, _, _, _, rfl, rfl, hg', rfl, ?_⟩⟩
      exact ⟨S, p, ls, _, _, rfl, ⟨x, rfl, rfl⟩, hA, k⟩
    refine ⟨_, rfl, rfl, _, rfl, ifI (fun e => ?_) (fun e2 => ?_)⟩
    · have e : n = 2 := by omega
      subst e
      cases hc with
      | drop i =>
      refine ⟨_, rfl, p, dx, _, rfl, hp, hf_no a (by decide +kernel), ?_⟩
      refine ⟨_, rfl, .inl ⟨g, _, _, _, rfl, rfl, hg', rfl, ?_⟩⟩
      exact ⟨S, p, ls, _, _, rfl, ⟨i, hy i (by simp), rfl, rfl⟩, hA, k⟩
    refine ⟨_, rfl, rfl, _, rfl, ifI (fun e => ?_) (fun e3 => ?_)⟩
    · have e : n = 3 := by omega
      subst e
      cases hc with
      | ways i =>
      refine ⟨_, rfl, p, dx, _, rfl, hp, hf_no a (by decide +kernel), ?_⟩
      refine ⟨_, rfl, .inl ⟨g, _, _, _, rfl, rfl, hg', rfl, ?_⟩⟩
      exact ⟨S, p, ls, _, _, rfl, ⟨i, hy i (by simp), rfl, rfl⟩, hA, k⟩
    refine ⟨_, rfl, rfl, _, rfl, ifI (fun e => ?_) (fun e4 => ?_)⟩
    · have e : n = 4 := by omega
      subst e
      cases hc with
      | orders =>
      exact ⟨_, rfl, p, dx, _, rfl, hp, hf_no a (by decide +kernel), S, p, ls, [], _, rfl, ⟨rfl, rfl⟩, hA, k⟩
    refine ⟨_, rfl, rfl, _, rfl, ifI (fun e => ?_) (fun e5 => ?_)⟩
    · have e : n = 5 := by omega
      subst e
      cases hc with
      | from_ i =>
      refine ⟨_, rfl, p, dx, _, rfl, hp, hf_no a (by decide +kernel), ?_⟩
      refine ⟨_, rfl, .inl ⟨g, _, _, _, rfl, rfl, hg', rfl, ?_⟩⟩
      exact ⟨S, p, ls, _, _, rfl, ⟨i, rfl, rfl⟩, hA, k⟩
    refine ⟨_, rfl, rfl, _, rfl, ifI (fun e => ?_) (fun e6 => ?_)⟩
    · have e : n = 6 := by omega
      subst e
      cases hc with
      | runs =>
      exact ⟨_, rfl, p, dx, _, rfl, hp, hf_no a (by decide +kernel), S, p, ls, [], _, rfl, ⟨rfl, rfl⟩, hA, k⟩
    refine ⟨_, rfl, rfl, _, rfl, ifI (fun e => ?_) (fun e7 => ?_)⟩
    · have e : n = 7 := by omega
      subst e
      cases hc with
      | sure =>
      exact ⟨_, rfl, p, dx, _, rfl, hp, hf_no a (by decide +kernel), S, p, ls, [], _, rfl, ⟨rfl, rfl⟩, hA, k⟩
    refine ⟨_, rfl, rfl, _, rfl, ifI (fun e => ?_) (fun e8 => ?_)⟩
    · have e : n = 8 := by omega
      subst e
      cases hc with
      | behind i j =>
      refine ⟨_, rfl, p, dx, _, rfl, hp, hf_no a (by decide +kernel), ?_⟩
      refine ⟨_, rfl, .inl ⟨g, _, _, _, rfl, rfl, hg', rfl, ?_⟩⟩
      refine ⟨_, rfl, .inl ⟨g, _, _, _, rfl, rfl, hg', rfl, ?_⟩⟩
      exact ⟨S, p, ls, _, _, rfl, ⟨i, j, rfl, rfl⟩, hA, k⟩
    · have e : n = 9 := by
        have : n < 10 := by cases hc <;> decide
        omega
      subst e
      cases hc with
      | least =>
      exact ⟨_, rfl, p, dx, _, rfl, hp, hf_no a (by decide +kernel), S, p, ls, [], _, rfl, ⟨rfl, rfl⟩, hA, k⟩

/-! ### answers -/
theorem cut_calls (l : List Int) {i k : Nat} (h : i + 1 + k ≤ l.length) : cutV (l.map V.int) (some ((i : Int) + 1)) (some ((i : Int) + 1 + (k : Int))) = ((l.drop (i + 1)).take k).map V.int := by
  have e1 : ((i : Int) + 1) = ((i + 1 : Nat) : Int) := by omega
  have e2 : ((i : Int) + 1 + (k : Int)) = ((i + 1 + k : Nat) : Int) := by omega
  unfold cutV
  rw [e1, show (((i + 1 : Nat) : Int) + (k : Int)) = ((i + 1 + k : Nat) : Int) by omega, HT.sIx_nat, HT.sIx_nat, List.length_map, Nat.min_eq_left (by omega), Nat.min_eq_left (by omega), ← List.map_drop, ← List.map_take]
  congr 2
  omega
theorem nat_list {xs : List Int} (h : ∀ z ∈ xs, 0 ≤ z) : xs.map V.int = (xs.map Int.toNat).map natV := by
  rw [List.map_map]
  refine List.map_congr_left fun z hz => ?_
  show V.int z = V.int ((z.toNat : Nat) : Int)
  rw [Int.toNat_of_nonneg (h z hz)]
theorem size_of {p : Int} {k : Nat} (h : PySi45.shape p = some (k, 0)) : atI (([0, 4, 1, 1, 0, 1, 0, 0, 2, 0] : List Int).map V.int) p = some (V.int (k : Nat)) := by
  obtain ⟨_, h⟩ := shape_cases h
  rcases h with ⟨rfl, rfl⟩ | ⟨rfl, rfl⟩ | ⟨rfl, rfl⟩ | ⟨rfl, rfl⟩ | ⟨rfl, rfl⟩ | ⟨rfl, rfl⟩ | ⟨rfl, rfl⟩ | ⟨rfl, rfl⟩ | ⟨rfl, rfl⟩ | ⟨rfl, rfl⟩
  all_goals rfl
abbrev sAnswers : Stmt := top 48
theorem sc_answers : FnScope ["calls", "heap", "told", "at", "end", "answered"] ["calls"] (defScope sAnswers) := ⟨rfl, rfl, rfl, by decide +kernel, rfl, by decide +kernel, by decide +kernel⟩
/-- answers': a list of numbers is handed in, the specification's list comes out -/
def spAnswers (K : PySem.W.Frag) : Sp := fun vs H Q _ => ∃ (a : Addr) (l : List Int), vs = [.ref a] ∧ SqL K H a (l.map V.int) ∧ l.length ≤ 400 ∧ PySi45.answers_asked l = true ∧ ∀ (H' : Hp) (p : Addr), H' p = some (.lst ((PySi45.answers l).map V.int)) → Q (.ref p) H'
theorem ok_answers {f C : Addr} {fd : FuncData} (F : Fun K "answers" "answers" sAnswers f fd) (T : Txt K mg) (m_Heap : KCal P w K mg base 1 C "Heap" ["self"] (spInit C)) (c_answer : Cal P w K mg base 5 "answer" ["heap", "call", "given"] (spAnswer C)) :
    FnOk P w K mg base CX0 6 f fd ["calls"] (spAnswers K) := by
  refine F.ok sc_answers (fun vs H Q E h => ?_) (fun cdv A outer s H vs Q E hr h => ?_)
  · obtain ⟨a, l, rfl, _⟩ := h
    rfl
  · obtain ⟨a, l, rfl, hS, hlen, hask, k⟩ := h
    obtain ⟨sz, hc_SIZES, hszT⟩ := T.c_SIZES
    obtain ⟨cs0, L0, h60, hans⟩ := asked_line hask
    refine ⟨_, (pss_cons (ps_set (i := 1) sc_answers.nd rfl (Or.inl rfl) (pe_mk0 m_Heap (hr.mono (by decide)) rfl))
      (pss_cons (ps_set (i := 2) sc_answers.nd rfl (Or.inl rfl) (pe_lst pa_nil))
      (pss_cons (ps_set (i := 3) sc_answers.nd rfl (Or.inl rfl) pe_int)
      (pss_cons (ps_while PassesOwn.never (pt_cmpR op_lt (pv 3) (pe_callB (r := rLen K) call_len_seq rfl T.b_len rfl (pa_cons (pv 0) pa_nil)) (nomark _)) (pss_cons (ps_set (i := 4) sc_answers.nd rfl (Or.inl rfl) (pe_op op_add (pe_op op_add (pv 3) pe_int) (pe_ix (r := rIx K) ix_seq (pe_ref hc_SIZES rfl) (pe_ix (r := rIx K) ix_seq (pv 0) (pv 3) (fun _ _ => rfl)) (fun _ _ => rfl))))
      (pss_cons (ps_set (i := 5) sc_answers.nd rfl (Or.inl rfl) (pe_cal c_answer (hr.mono (by decide)) rfl (pa_cons (pv 1) (pa_cons (pe_ix (r := rIx K) ix_seq (pv 0) (pv 3) (fun _ _ => rfl)) (pa_cons (pe_slice (r := rSlL K) sl_list (pv 0) (po_some (pe_op op_add (pv 3) pe_int)) (po_some (pv 4))) pa_nil)))))
      (pss_cons (ps_expr (pe_bm PySem.F.plainAttrs_list PySem.F.slot_list_append PySem.F.type_list_append mt_append (pv 2) (pa_cons (pe_callB (r := rLen K) call_len_seq rfl T.b_len rfl (pa_cons (pv 5) pa_nil)) pa_nil)))
      (pss_cons (ps_expr (pe_bm PySem.F.plainAttrs_list PySem.F.slot_list_extend PySem.F.type_list_extend mt_extend (pv 2) (pa_cons (pv 5) pa_nil)))
      (pss_one (ps_set (i := 3) sc_answers.nd rfl (Or.inl rfl) (pv 4))))))))
      (pss_one (ps_ret (pv 2))))))), ?_⟩
    intro x dx nx nd ne
    refine ⟨x, dx, rfl, upd_same, fun H1 k1 hA => ⟨rfl, ?_⟩⟩
    have s1 : Same H H1 := Same.made nx nd k1
    refine ⟨Nat.zero_le _, fun t ht => ?_⟩
    have s2 : Same H1 (upd H1 t (.lst [])) := same_upd_self ht
    have tn : H t = none := s1.free ht
    have hA2 : HeapAt C (upd H1 t (.lst [])) (fun b => H b = none ∧ b ≠ t) x [] := hA.keep fun b o sb e => ⟨⟨?_, ne_of_none e ht⟩, s2 b o e⟩
    case refine_1 =>
      rcases sb with rfl | sb
      · exact nx
      · exact (upd_none (upd_none sb).2).2
    refine ⟨fun m σ H' => ∃ (i : Nat) (S : Addr → Prop) (ls : List Leaf) (tl : List Int) (cs : List (List (List Int))) (n : Nat) (e an : Option V), m = l.length - i ∧ i ≤ l.length ∧ σ = [some (.ref a), some (.ref x), some (.ref t), some (natV i), e, an] ∧ Same H H' ∧
      (∀ b, S b → H b = none ∧ b ≠ t) ∧ HeapAt C H' S x ls ∧ H' t = some (.lst (tl.map V.int)) ∧ Line (l.drop i) ls n cs ∧ tl.length + n + cs.length ≤ 1000059 ∧ PySi45.answers l = tl ++ rest ls cs, ⟨l.length, 0, _, [], [], cs0, 999999, none, none, rfl, Nat.zero_le _, rfl, s1.trans s2, fun b q => q, hA2, upd_same, L0, by simp; omega, hans⟩, ?_⟩
    rintro m σ H' ⟨i, S, ls, tl, cs, n, e0, an0, rfl, hi, rfl, s3, hSt, hA3, hT, L, hb, hrest⟩
    have hS3 := s3.seq hS
    refine ⟨_, rfl, _, rfl, a, _, rfl, .inl hS3, _, _, rfl, rfl, _, rfl, ifD (fun e => ?_) (fun e => ?_)⟩
    · rw [List.length_map] at e
      have il : i < l.length := by omega
      obtain ⟨z, hz⟩ : ∃ z, l[i]? = some z := ⟨l[i], List.getElem?_eq_getElem il⟩
      have hdr : l.drop i = z :: l.drop (i + 1) := by
        obtain ⟨h1, h2⟩ := List.getElem?_eq_some_iff.mp hz
        rw [← h2]; exact List.drop_eq_getElem_cons h1
      rw [hdr] at L
      obtain ⟨kk, q, cs', hsh, hkl, rfl, hcall, hnat, hstep, hle, L'⟩ := L.cons
      rw [List.length_drop] at hkl
      have hatz : atI (l.map V.int) (i : Int) = some (V.int z) := atI_nat (by rw [List.getElem?_map, hz]; rfl)
      have z0 := (hnat z (by simp)).1
      have hys : ((l.drop (i + 1)).take kk).map V.int = (((l.drop (i + 1)).take kk).map Int.toNat).map natV := nat_list fun y hy => (hnat y (by simp [hy])).1
      have hzv : V.int z = natV z.toNat := by show V.int z = V.int ((z.toNat : Nat) : Int); rw [Int.toNat_of_nonneg z0]
      refine ⟨_, fun σ' H'' q => q, ?_⟩
      -- end = at + 1 + SIZES[calls[at]]
      refine ⟨_, rfl, _, _, rfl, rfl, _, rfl, _, rfl, .inl ⟨a, _, _, _, rfl, rfl, hS3, hatz, .inr (.inl ⟨sz, _, _, _, rfl, rfl, hszT H', size_of hsh, _, _, rfl, rfl, ?_⟩)⟩⟩
      -- answered = answer(heap, calls[at], calls[at + 1:end])
      refine ⟨_, rfl, _, rfl, _, rfl, .inl ⟨a, _, _, _, rfl, rfl, hS3, hatz, ?_⟩⟩
      refine ⟨_, rfl, _, rfl, _, _, rfl, rfl, _, rfl, _, rfl, _, rfl, a, _, rfl, hS3, fun g hg => ?_⟩
      dsimp only
      rw [cut_calls l (by omega), hys]
      have sg := same_upd_self (o := .lst ((((l.drop (i + 1)).take kk).map Int.toNat).map natV)) hg
      refine ⟨fun b => S b ∧ H' b ≠ none, x, ls, z.toNat, g, _, q, by rw [hzv]; rfl, hA3.keep fun b o sb e => ⟨⟨sb, by rw [e]; simp⟩, sg b o e⟩, upd_same, callOf_is hcall, ?_, fun H3 v3 out hA4 r3 => ?_⟩
      · intro y hy
        obtain ⟨y', hy', rfl⟩ := List.mem_map.mp hy
        have := hnat y' (by simp [hy'])
        omega
      obtain ⟨b3, vs3, rfl, n3, hb3, p3⟩ := r3
      obtain rfl := ints_rep.mp p3
      have hT3 : H3 t = some (.lst (tl.map V.int)) := out t _ (sg _ _ hT) fun q => (hSt t q.1).2 rfl
      have hbt : b3 ≠ t := fun e => by rw [e, sg _ _ hT] at n3; cases n3
      have big : sizeLine = 16777216 := rfl
      -- told.append(len(answered))
      refine ⟨_, rfl, .inl ⟨rfl, _, SqL.of hT3⟩, _, rfl, b3, _, rfl, .inl (SqL.of hb3), t, _, _, rfl, rfl, hT3, ?_, ?_⟩
      · rw [List.length_map]; omega
      -- told.extend(answered)
      refine ⟨_, rfl, .inl ⟨rfl, _, SqL.of upd_same⟩, _, rfl, t, b3, _, _, rfl, rfl, upd_same, by rw [upd_ne hbt]; exact hb3, ?_, ?_⟩
      · rw [List.length_append, List.length_map, List.length_map, List.length_singleton]; omega
      -- at = end
      refine ⟨_, rfl, l.length - (i + 1 + kk), by omega, i + 1 + kk, fun b => (S b ∧ H' b ≠ none) ∨ upd H' g (.lst ((((l.drop (i + 1)).take kk).map Int.toNat).map natV)) b = none, (Si45.step ls q).1, tl ++ ((ansOf ls q).length : Int) :: ansOf ls q, cs', n - (ansOf ls q).length, some (.int ((i : Int) + 1 + (kk : Int))), some (.ref b3), rfl, by omega, ?_, ?_, ?_, ?_, ?_, ?_, ?_, ?_⟩
      · have e9 : V.int ((i : Int) + 1 + (kk : Int)) = natV (i + 1 + kk) := by show _ = V.int ((i + 1 + kk : Nat) : Int); congr 1
        rw [← e9]
        rfl
      · intro b o e
        rw [upd_ne (ne_of_none e tn), upd_ne (ne_of_none e tn)]
        exact out b o (sg _ _ (s3 _ _ e)) fun q => by rw [(hSt b q.1).1] at e; cases e
      · rintro b (q | q)
        · exact hSt b q.1
        · exact ⟨s3.free (upd_none q).2, fun e => by rw [e, sg _ _ hT] at q; cases q⟩
      · refine hA4.keep fun b o sb e => ⟨sb, ?_⟩
        have hbt : b ≠ t := by
          rcases sb with sb | sb
          · exact (hSt b sb.1).2
          · exact fun e => by rw [e, sg _ _ hT] at sb; cases sb
        rw [upd_ne hbt, upd_ne hbt]
        exact e
      · rw [upd_same, List.length_map, List.map_append, List.map_cons, List.append_assoc]
        rfl
      · rw [List.drop_drop] at L'
        exact L'
      · rw [List.length_append, List.length_cons]
        rw [List.length_cons] at hb
        omega
      · rw [hrest, rest_cons hstep, List.append_assoc]
    · rw [List.length_map] at e
      have ei : i = l.length := by omega
      subst ei
      rw [List.drop_length] at L
      have ec := L.nil
      subst ec
      rw [rest_nil, List.append_nil] at hrest
      refine ⟨_, rfl, k H' t ?_⟩
      rw [hrest]; exact hT
end
end LL

set_option Elab.async false
set_option linter.all false
set_option maxRecDepth 100000
set_option maxHeartbeats 4000000
namespace LL
open PySem PySem.Spec PyProof.Rows L2
open PySem.W (Codec)
/-! ### what the top has written -/
structure HasFn (K : PySem.W.Frag) (x qual : Str) (st : Stmt) : Prop where
  ex : ∃ f fd, PySem.W.nsIn K mainGlobals x = some (some (.ref f)) ∧ Fun K x qual st f fd
structure HasMt (K : PySem.W.Frag) (C : Addr) (x qual : Str) (st : Stmt) : Prop where
  ex : ∃ f fd, Meth K C x f ∧ Fun K x qual st f fd
theorem fn_mk {K : PySem.W.Frag} {x qual : Str} {st : Stmt} {f : Addr} {oc : Value} {od an : Option Addr} {osl : Array (Option Value)} {kV doc pm cdv ct : Value} (a : PySem.W.nsIn K mainGlobals x = some (some (.ref f)))
    (l : K.lookup f = some ⟨oc, od, .func (PySem.W.fnOf x qual (defArgs st) (defBody st) (defScope st) .none kV doc pm an cdv ct), osl⟩) (c : PySem.W.codeIn K cdv qual = true) (k : PySem.W.keepIn K (.ref f) = true) : HasFn K x qual st :=
  ⟨f, _, a, fun_mk l c k⟩
theorem mt_mk {K : PySem.W.Frag} {C : Addr} {x qual : Str} {st : Stmt} {f : Addr} {oc : Value} {od an : Option Addr} {osl : Array (Option Value)} {kV doc pm cdv ct : Value} (a : PySem.W.findIn K (.ref C) x = some (some (.ref f))) (i : PySem.W.isFn K (.ref f) = true)
    (l : K.lookup f = some ⟨oc, od, .func (PySem.W.fnOf x qual (defArgs st) (defBody st) (defScope st) .none kV doc pm an cdv ct), osl⟩) (c : PySem.W.codeIn K cdv qual = true) (k : PySem.W.keepIn K (.ref f) = true) : HasMt K C x qual st :=
  ⟨f, _, ⟨a, i, k⟩, fun_mk l c k⟩
theorem HasFn.cal {P : Program} {w : World} {K : PySem.W.Frag} {mg : Str → Option Value} {base h : Heap} {x qual : Str} {st : Stmt} {ps : List Str} {k : Nat} {sp : Sp} (F : HasFn K x qual st) (X : K.In h) (G : h.Ns mainGlobals mg)
    (ok : ∀ {f : Addr} {fd : FuncData}, Fun K x qual st f fd → FnOk P w K mg base CX0 k f fd ps sp)
    (b : ∀ (kV doc pm : Value) (an : Option Addr) (cdv ct : Value) (us : List Value), us.length = ps.length → bindArgs (PySem.W.fnOf x qual (defArgs st) (defBody st) (defScope st) .none kV doc pm an cdv ct) ⟨us, []⟩ = pure (ps.zip us)) : Cal P w K mg base k x ps sp := by
  obtain ⟨f, fd, a, F⟩ := F.ex
  exact ⟨f, fd, ok F, PySem.W.mg_of X G a, F.kp, F.binds b⟩
theorem HasMt.cal {P : Program} {w : World} {K : PySem.W.Frag} {mg : Str → Option Value} {base : Heap} {C : Addr} {x qual : Str} {st : Stmt} {ps : List Str} {k : Nat} {sp : Sp} (F : HasMt K C x qual st) (cl : Cls K C)
    (ok : ∀ {f : Addr} {fd : FuncData}, Fun K x qual st f fd → FnOk P w K mg base CX0 k f fd ps sp)
    (b : ∀ (kV doc pm : Value) (an : Option Addr) (cdv ct : Value) (us : List Value), us.length = ps.length → bindArgs (PySem.W.fnOf x qual (defArgs st) (defBody st) (defScope st) .none kV doc pm an cdv ct) ⟨us, []⟩ = pure (ps.zip us)) : MCal P w K mg base k C x ps sp := by
  obtain ⟨f, fd, m, F⟩ := F.ex
  exact ⟨f, fd, ok F, cl, m, F.binds b⟩
structure HasCls (K : PySem.W.Frag) (C : Addr) : Prop where
  at_ : PySem.W.nsIn K mainGlobals "Heap" = some (some (.ref C))
  pg : PySem.W.plainGet K C Str.empty = true
  hd : PySem.W.hasDictIn K C = true
  po : PySem.W.plainOver K C = true
  sa : PySem.W.findIn K (.ref C) "__setattr__" = some (some (.builtin "object.__setattr__"))
  mks : PySem.W.makesIn K C = true
  kc : PySem.W.keepIn K (.ref C) = true
  nL : PySem.W.findIn K (.ref C) "leaves" = some none
  init : HasMt K C "__init__" "Heap.__init__" sInit
  begins : HasMt K C "begins" "Heap.begins" sBegins
  leaf : HasMt K C "leaf" "Heap.leaf" sLeaf
  drop : HasMt K C "drop" "Heap.drop" sDrop
  ways : HasMt K C "ways" "Heap.ways" sWays
  orders : HasMt K C "orders" "Heap.orders" sOrders
  from_word : HasMt K C "from_word" "Heap.from_word" sFromWord
  runs : HasMt K C "runs" "Heap.runs" sRuns
  sure : HasMt K C "sure" "Heap.sure" sSure
  behind : HasMt K C "behind" "Heap.behind" sBehind
  least : HasMt K C "least" "Heap.least" sLeast
def IntC (K : PySem.W.Frag) (x : Str) (i : Int) : Prop := ∃ t, PySem.W.nsIn K mainGlobals x = some (some (.int i t))
theorem int_mk {K : PySem.W.Frag} {x : Str} {i : Int} {t : Tok} (a : PySem.W.nsIn K mainGlobals x = some (some (.int i t))) : IntC K x i := ⟨t, a⟩
def SizesC (K : PySem.W.Frag) : Prop := ∃ (a : Addr) (od : Option Addr) (its : Array Value) (n : Nat) (sl : Array (Option Value)), PySem.W.nsIn K mainGlobals "SIZES" = some (some (.ref a)) ∧ K.lookup a = some ⟨.type "tuple", od, .seq its n, sl⟩ ∧ its.size ≤ sizeLine ∧ Vals ([0, 4, 1, 1, 0, 1, 0, 0, 2, 0].map V.int) its.toList
theorem sizes_mk {K : PySem.W.Frag} {a : Addr} {od : Option Addr} {n : Nat} {sl : Array (Option Value)} {t0 t1 t2 t3 t4 t5 t6 t7 t8 t9 : Tok} (h1 : PySem.W.nsIn K mainGlobals "SIZES" = some (some (.ref a))) (h2 : K.lookup a = some ⟨.type "tuple", od, .seq #[.int 0 t0, .int 4 t1, .int 1 t2, .int 1 t3, .int 0 t4, .int 1 t5, .int 0 t6, .int 0 t7, .int 2 t8, .int 0 t9] n, sl⟩) : SizesC K :=
  ⟨a, od, _, n, sl, h1, h2, (by show 10 ≤ sizeLine; decide), .cons ⟨_, rfl⟩ (.cons ⟨_, rfl⟩ (.cons ⟨_, rfl⟩ (.cons ⟨_, rfl⟩ (.cons ⟨_, rfl⟩ (.cons ⟨_, rfl⟩ (.cons ⟨_, rfl⟩ (.cons ⟨_, rfl⟩ (.cons ⟨_, rfl⟩ (.cons ⟨_, rfl⟩ .nil)))))))))⟩
structure HasAll (K : PySem.W.Frag) (C : Addr) : Prop where
  AS_TOLD : IntC K "AS_TOLD" 0
  TURNED : IntC K "TURNED" 1
  MOST_LEAVES : IntC K "MOST_LEAVES" 6
  HIGHEST_WORD : IntC K "HIGHEST_WORD" 9999
  BAD_WORD : IntC K "BAD_WORD" (-1)
  NO_SUCH_LEAF : IntC K "NO_SUCH_LEAF" (-2)
  NOT_JUST_ONE_WAY : IntC K "NOT_JUST_ONE_WAY" (-4)
  HEAP_IS_FULL : IntC K "HEAP_IS_FULL" (-5)
  NO_ROW : IntC K "NO_ROW" (-6)
  BEGINS : IntC K "BEGINS" 0
  LEAF : IntC K "LEAF" 1
  DROP : IntC K "DROP" 2
  WAYS : IntC K "WAYS" 3
  ORDERS : IntC K "ORDERS" 4
  FROM_WORD : IntC K "FROM_WORD" 5
  RUNS : IntC K "RUNS" 6
  SURE : IntC K "SURE" 7
  BEHIND : IntC K "BEHIND" 8
  SIZES : SizesC K
  b_len : PySem.W.nsIn K mainGlobals "len" = some none
  b_range : PySem.W.nsIn K mainGlobals "range" = some none
  b_enumerate : PySem.W.nsIn K mainGlobals "enumerate" = some none
  b_max : PySem.W.nsIn K mainGlobals "max" = some none
  b_min : PySem.W.nsIn K mainGlobals "min" = some none
  b_list : PySem.W.nsIn K mainGlobals "list" = some none
  b_zip : PySem.W.nsIn K mainGlobals "zip" = some none
  b_sorted : PySem.W.nsIn K mainGlobals "sorted" = some none
  b_sum : PySem.W.nsIn K mainGlobals "sum" = some none
  b_tuple : PySem.W.nsIn K mainGlobals "tuple" = some none
  ways_of : HasFn K "ways_of" "ways_of" sWaysOf
  places_of : HasFn K "places_of" "places_of" sPlacesOf
  numbers_in : HasFn K "numbers_in" "numbers_in" sNumbersIn
  made_longer : HasFn K "made_longer" "made_longer" sMadeLonger
  orders_of : HasFn K "orders_of" "orders_of" sOrdersOf
  orders_from : HasFn K "orders_from" "orders_from" sOrdersFrom
  neighbours_in : HasFn K "neighbours_in" "neighbours_in" sNeighboursIn
  orders_with : HasFn K "orders_with" "orders_with" sOrdersWith
  sure_pairs : HasFn K "sure_pairs" "sure_pairs" sSurePairs
  gaps_between : HasFn K "gaps_between" "gaps_between" sGapsBetween
  made_longer_by_each : HasFn K "made_longer_by_each" "made_longer_by_each" sMadeLongerByEach
  best_by_ending : HasFn K "best_by_ending" "best_by_ending" sBestByEnding
  fewest_gaps : HasFn K "fewest_gaps" "fewest_gaps" sFewestGaps
  words_of : HasFn K "words_of" "words_of" sWordsOf
  joined : HasFn K "joined" "joined" sJoined
  parts_of : HasFn K "parts_of" "parts_of" sPartsOf
  too_many_at : HasFn K "too_many_at" "too_many_at" sTooManyAt
  too_many_in : HasFn K "too_many_in" "too_many_in" sTooManyIn
  least_runs : HasFn K "least_runs" "least_runs" sLeastRuns
  are_words : HasFn K "are_words" "are_words" sAreWords
  leaves_and_ways : HasFn K "leaves_and_ways" "leaves_and_ways" sLeavesAndWays
  count_and_first : HasFn K "count_and_first" "count_and_first" sCountAndFirst
  cls : HasCls K C
  answer : HasFn K "answer" "answer" sAnswer
  answers : HasFn K "answers" "answers" sAnswers
theorem IntC.mg {K : PySem.W.Frag} {mg : Str → Option Value} {h : Heap} {x : Str} {i : Int} (c : IntC K x i) (X : K.In h) (G : h.Ns mainGlobals mg) : ∃ t, mg x = some (.int i t) := by
  obtain ⟨t, a⟩ := c
  exact ⟨t, PySem.W.mg_of X G a⟩
theorem HasAll.txt {K : PySem.W.Frag} {C : Addr} {mg : Str → Option Value} {h : Heap} (A : HasAll K C) (X : K.In h) (G : h.Ns mainGlobals mg) : Txt K mg where
  c_AS_TOLD := A.AS_TOLD.mg X G
  c_TURNED := A.TURNED.mg X G
  c_MOST_LEAVES := A.MOST_LEAVES.mg X G
  c_HIGHEST_WORD := A.HIGHEST_WORD.mg X G
  c_BAD_WORD := A.BAD_WORD.mg X G
  c_NO_SUCH_LEAF := A.NO_SUCH_LEAF.mg X G
  c_NOT_JUST_ONE_WAY := A.NOT_JUST_ONE_WAY.mg X G
  c_HEAP_IS_FULL := A.HEAP_IS_FULL.mg X G
  c_NO_ROW := A.NO_ROW.mg X G
  c_BEGINS := A.BEGINS.mg X G
  c_LEAF := A.LEAF.mg X G
  c_DROP := A.DROP.mg X G
  c_WAYS := A.WAYS.mg X G
  c_ORDERS := A.ORDERS.mg X G
  c_FROM_WORD := A.FROM_WORD.mg X G
  c_RUNS := A.RUNS.mg X G
  c_SURE := A.SURE.mg X G
  c_BEHIND := A.BEHIND.mg X G
  c_SIZES := by
    obtain ⟨a, od, its, n, sl, h1, h2, h5, h6⟩ := A.SIZES
    exact ⟨a, PySem.W.mg_of X G h1, fun H => .inr ⟨_, its, n, h2, rfl, rfl, h5, h6⟩⟩
  b_len := PySem.W.mg_none_of X G A.b_len
  b_range := PySem.W.mg_none_of X G A.b_range
  b_enumerate := PySem.W.mg_none_of X G A.b_enumerate
  b_max := PySem.W.mg_none_of X G A.b_max
  b_min := PySem.W.mg_none_of X G A.b_min
  b_list := PySem.W.mg_none_of X G A.b_list
  b_zip := PySem.W.mg_none_of X G A.b_zip
  b_sorted := PySem.W.mg_none_of X G A.b_sorted
  b_sum := PySem.W.mg_none_of X G A.b_sum
  b_tuple := PySem.W.mg_none_of X G A.b_tuple
theorem all_mk {P : Program} {w : World} {K : PySem.W.Frag} {h : Heap} {mg : Str → Option Value} {fa C : Addr} (X : K.In h) (G : h.Ns mainGlobals mg) (hfa : mg "answers" = some (.ref fa)) (A : HasAll K C) :
    ∃ fd : FuncData, (∀ (s : Shared) (us : List Value), us.length = (["calls"] : List Str).length → BindsTo s fd ⟨us, []⟩ ((["calls"] : List Str).zip us)) ∧ ∀ base : Heap, K.In base → base.Ns mainGlobals mg → FnOk P w K mg base CX0 6 fa fd ["calls"] (spAnswers K) := by
  have T := A.txt X G
  have cl : Cls K C := ⟨A.cls.pg, A.cls.hd, A.cls.po, A.cls.sa⟩
  have TC : TxtC K C := ⟨cl, A.cls.nL⟩
  obtain ⟨f, fd, a, F⟩ := A.answers.ex
  have e := hfa.symm.trans (PySem.W.mg_of X G a)
  cases e
  have hb : ∀ (s : Shared) (us : List Value), us.length = (["calls"] : List Str).length → BindsTo s fd ⟨us, []⟩ ((["calls"] : List Str).zip us) := by
    obtain ⟨oc, od, kV, doc, pm, an, cdv, ct, osl, rfl, lk, hcd⟩ := F.ex
    exact fun s us hu => match us, hu with | [_], _ => .of_eq rfl
  refine ⟨fd, hb, fun base kb nb => ?_⟩
  have f_ways_of := A.ways_of.cal (P := P) (w := w) (base := base) (k := 1) (ps := ["first", "caught", "second", "caught2"]) (sp := spWaysOf) X G (fun F => ok_ways_of F T) fun _ _ _ _ _ _ us hl => match us, hl with | [_, _, _, _], _ => rfl
  have f_places_of := A.places_of.cal (P := P) (w := w) (base := base) (k := 1) (ps := ["leaves"]) (sp := spPlacesOf) X G (fun F => ok_places_of F T) fun _ _ _ _ _ _ us hl => match us, hl with | [_], _ => rfl
  have f_numbers_in := A.numbers_in.cal (P := P) (w := w) (base := base) (k := 1) (ps := ["row"]) (sp := spNumbersIn) X G (fun F => ok_numbers_in F T) fun _ _ _ _ _ _ us hl => match us, hl with | [_], _ => rfl
  have f_made_longer := A.made_longer.cal (P := P) (w := w) (base := base) (k := 2) (ps := ["row", "places"]) (sp := spMadeLonger) X G (fun F => ok_made_longer F T f_numbers_in) fun _ _ _ _ _ _ us hl => match us, hl with | [_, _], _ => rfl
  have f_orders_of := A.orders_of.cal (P := P) (w := w) (base := base) (k := 3) (ps := ["leaves"]) (sp := spOrdersOf) X G (fun F => ok_orders_of F T f_places_of f_made_longer) fun _ _ _ _ _ _ us hl => match us, hl with | [_], _ => rfl
  have f_orders_from := A.orders_from.cal (P := P) (w := w) (base := base) (k := 1) (ps := ["word", "orders"]) (sp := spOrdersFrom) X G (fun F => ok_orders_from F T) fun _ _ _ _ _ _ us hl => match us, hl with | [_, _], _ => rfl
  have f_neighbours_in := A.neighbours_in.cal (P := P) (w := w) (base := base) (k := 2) (ps := ["row"]) (sp := spNeighboursIn) X G (fun F => ok_neighbours_in F T f_numbers_in) fun _ _ _ _ _ _ us hl => match us, hl with | [_], _ => rfl
  have f_orders_with := A.orders_with.cal (P := P) (w := w) (base := base) (k := 3) (ps := ["pair", "orders"]) (sp := spOrdersWith) X G (fun F => ok_orders_with F T f_neighbours_in) fun _ _ _ _ _ _ us hl => match us, hl with | [_, _], _ => rfl
  have f_sure_pairs := A.sure_pairs.cal (P := P) (w := w) (base := base) (k := 3) (ps := ["orders"]) (sp := spSurePairs) X G (fun F => ok_sure_pairs F T f_neighbours_in) fun _ _ _ _ _ _ us hl => match us, hl with | [_], _ => rfl
  have f_gaps_between := A.gaps_between.cal (P := P) (w := w) (base := base) (k := 1) (ps := ["row", "place"]) (sp := spGapsBetween) X G (fun F => ok_gaps_between F T) fun _ _ _ _ _ _ us hl => match us, hl with | [_, _], _ => rfl
  have f_made_longer_by_each := A.made_longer_by_each.cal (P := P) (w := w) (base := base) (k := 2) (ps := ["counted", "places"]) (sp := spMadeLongerByEach) X G (fun F => ok_made_longer_by_each F T f_numbers_in f_gaps_between) fun _ _ _ _ _ _ us hl => match us, hl with | [_, _], _ => rfl
  have f_best_by_ending := A.best_by_ending.cal (P := P) (w := w) (base := base) (k := 2) (ps := ["found"]) (sp := spBestByEnding) X G (fun F => ok_best_by_ending F T f_numbers_in) fun _ _ _ _ _ _ us hl => match us, hl with | [_], _ => rfl
  have f_fewest_gaps := A.fewest_gaps.cal (P := P) (w := w) (base := base) (k := 3) (ps := ["leaves"]) (sp := spFewestGaps) X G (fun F => ok_fewest_gaps F T f_places_of f_made_longer_by_each f_best_by_ending) fun _ _ _ _ _ _ us hl => match us, hl with | [_], _ => rfl
  have f_words_of := A.words_of.cal (P := P) (w := w) (base := base) (k := 1) (ps := ["ways"]) (sp := spWordsOf) X G (fun F => ok_words_of F T) fun _ _ _ _ _ _ us hl => match us, hl with | [_], _ => rfl
  have f_joined := A.joined.cal (P := P) (w := w) (base := base) (k := 1) (ps := ["parts", "begin", "lead"]) (sp := spJoined) X G (fun F => ok_joined F T) fun _ _ _ _ _ _ us hl => match us, hl with | [_, _, _], _ => rfl
  have f_parts_of := A.parts_of.cal (P := P) (w := w) (base := base) (k := 2) (ps := ["ways"]) (sp := spPartsOf) X G (fun F => ok_parts_of F T f_words_of f_joined) fun _ _ _ _ _ _ us hl => match us, hl with | [_], _ => rfl
  have f_too_many_at := A.too_many_at.cal (P := P) (w := w) (base := base) (k := 1) (ps := ["word", "ways"]) (sp := spTooManyAt) X G (fun F => ok_too_many_at F T) fun _ _ _ _ _ _ us hl => match us, hl with | [_, _], _ => rfl
  have f_too_many_in := A.too_many_in.cal (P := P) (w := w) (base := base) (k := 2) (ps := ["part", "ways"]) (sp := spTooManyIn) X G (fun F => ok_too_many_in F T f_too_many_at) fun _ _ _ _ _ _ us hl => match us, hl with | [_, _], _ => rfl
  have f_least_runs := A.least_runs.cal (P := P) (w := w) (base := base) (k := 3) (ps := ["ways"]) (sp := spLeastRuns) X G (fun F => ok_least_runs F T f_parts_of f_too_many_in) fun _ _ _ _ _ _ us hl => match us, hl with | [_], _ => rfl
  have f_are_words := A.are_words.cal (P := P) (w := w) (base := base) (k := 1) (ps := ["first", "caught", "second", "caught2"]) (sp := spAreWords) X G (fun F => ok_are_words F T) fun _ _ _ _ _ _ us hl => match us, hl with | [_, _, _, _], _ => rfl
  have f_leaves_and_ways := A.leaves_and_ways.cal (P := P) (w := w) (base := base) (k := 1) (ps := ["row"]) (sp := spLeavesAndWays) X G (fun F => ok_leaves_and_ways F T) fun _ _ _ _ _ _ us hl => match us, hl with | [_], _ => rfl
  have f_count_and_first := A.count_and_first.cal (P := P) (w := w) (base := base) (k := 2) (ps := ["orders"]) (sp := spCountAndFirst) X G (fun F => ok_count_and_first F T f_leaves_and_ways) fun _ _ _ _ _ _ us hl => match us, hl with | [_], _ => rfl
  have m_begins := A.cls.begins.cal (P := P) (w := w) (mg := mg) (base := base) (k := 1) (ps := ["self"]) (sp := spBegins C) cl (fun F => ok_Heap_begins F TC) fun _ _ _ _ _ _ us hl => match us, hl with | [_], _ => rfl
  have m_leaf := A.cls.leaf.cal (P := P) (w := w) (mg := mg) (base := base) (k := 2) (ps := ["self", "first", "caught", "second", "caught2"]) (sp := spLeaf C) cl (fun F => ok_Heap_leaf F T TC f_are_words f_ways_of) fun _ _ _ _ _ _ us hl => match us, hl with | [_, _, _, _, _], _ => rfl
  have m_drop := A.cls.drop.cal (P := P) (w := w) (mg := mg) (base := base) (k := 1) (ps := ["self", "number"]) (sp := spDrop C) cl (fun F => ok_Heap_drop F T TC) fun _ _ _ _ _ _ us hl => match us, hl with | [_, _], _ => rfl
  have m_ways := A.cls.ways.cal (P := P) (w := w) (mg := mg) (base := base) (k := 1) (ps := ["self", "number"]) (sp := spWays C) cl (fun F => ok_Heap_ways F T TC) fun _ _ _ _ _ _ us hl => match us, hl with | [_, _], _ => rfl
  have m_orders := A.cls.orders.cal (P := P) (w := w) (mg := mg) (base := base) (k := 4) (ps := ["self"]) (sp := spOrders C) cl (fun F => ok_Heap_orders F T TC f_orders_of f_count_and_first) fun _ _ _ _ _ _ us hl => match us, hl with | [_], _ => rfl
  have m_from_word := A.cls.from_word.cal (P := P) (w := w) (mg := mg) (base := base) (k := 4) (ps := ["self", "word"]) (sp := spFromWord C) cl (fun F => ok_Heap_from_word F T TC f_orders_of f_orders_from f_count_and_first) fun _ _ _ _ _ _ us hl => match us, hl with | [_, _], _ => rfl
  have m_runs := A.cls.runs.cal (P := P) (w := w) (mg := mg) (base := base) (k := 4) (ps := ["self"]) (sp := spRuns C) cl (fun F => ok_Heap_runs F T TC f_fewest_gaps f_leaves_and_ways) fun _ _ _ _ _ _ us hl => match us, hl with | [_], _ => rfl
  have m_sure := A.cls.sure.cal (P := P) (w := w) (mg := mg) (base := base) (k := 4) (ps := ["self"]) (sp := spSure C) cl (fun F => ok_Heap_sure F T TC f_orders_of f_sure_pairs) fun _ _ _ _ _ _ us hl => match us, hl with | [_], _ => rfl
  have m_behind := A.cls.behind.cal (P := P) (w := w) (mg := mg) (base := base) (k := 4) (ps := ["self", "first", "second"]) (sp := spBehind C) cl (fun F => ok_Heap_behind F T TC f_orders_of f_orders_with) fun _ _ _ _ _ _ us hl => match us, hl with | [_, _, _], _ => rfl
  have m_least := A.cls.least.cal (P := P) (w := w) (mg := mg) (base := base) (k := 4) (ps := ["self"]) (sp := spLeast C) cl (fun F => ok_Heap_least F T TC f_least_runs) fun _ _ _ _ _ _ us hl => match us, hl with | [_], _ => rfl
  have c1 := A.answer.cal (P := P) (w := w) (base := base) (k := 5) (ps := ["heap", "call", "given"]) (sp := spAnswer C) X G (fun F => ok_answer F T m_begins m_leaf m_drop m_ways m_orders m_from_word m_runs m_sure m_behind m_least) fun _ _ _ _ _ _ us hl => match us, hl with | [_, _, _], _ => rfl
  have mk : KCal P w K mg base 1 C "Heap" ["self"] (spInit C) := by
    obtain ⟨f, fd, m, F⟩ := A.cls.init.ex
    exact ⟨f, fd, ok_Heap_init F TC, ⟨A.cls.mks, m.at_, m.fn, A.cls.kc⟩, PySem.W.mg_of X G A.cls.at_, F.binds fun _ _ _ _ _ _ us hl => match us, hl with | [_], _ => rfl⟩
  exact ok_answers F T mk c1
end LL
open PySem PySem.W PyProof.Rows
set_option maxRecDepth 100000 in
set_option maxHeartbeats 0 in
theorem PySem.Challenge.cw_looseleaves_s01_answers_holds : PySem.Challenge.rw_looseleaves_s01_answers.Holds := by
  w_on; k_headS; (case hw => exact ⟨[.list [.int 0]], by decide +kernel, by decide +kernel⟩)
  k_fillS
  refine L2.walk_specK (r := PySem.Challenge.rw_looseleaves_s01_answers) (k := 6) (CX := L2.CX0) (ps := ["calls"]) (sp := LL.spAnswers) (by decide +kernel) rfl rfl ⟨rfl, by decide, by decide⟩ (fun w h Y => PySem.W.kIn_of Y) ?F ?S (fun _ _ _ _ z => z)
  case F =>
    intro w mg fa h Y KX G hmg
    refine' LL.all_mk KX G hmg { AS_TOLD := LL.int_mk ?c_AS_TOLD, TURNED := LL.int_mk ?c_TURNED, MOST_LEAVES := LL.int_mk ?c_MOST_LEAVES, HIGHEST_WORD := LL.int_mk ?c_HIGHEST_WORD, BAD_WORD := LL.int_mk ?c_BAD_WORD, NO_SUCH_LEAF := LL.int_mk ?c_NO_SUCH_LEAF, NOT_JUST_ONE_WAY := LL.int_mk ?c_NOT_JUST_ONE_WAY, HEAP_IS_FULL := LL.int_mk ?c_HEAP_IS_FULL, NO_ROW := LL.int_mk ?c_NO_ROW, BEGINS := LL.int_mk ?c_BEGINS, LEAF := LL.int_mk ?c_LEAF, DROP := LL.int_mk ?c_DROP, WAYS := LL.int_mk ?c_WAYS, ORDERS := LL.int_mk ?c_ORDERS, FROM_WORD := LL.int_mk ?c_FROM_WORD, RUNS := LL.int_mk ?c_RUNS, SURE := LL.int_mk ?c_SURE, BEHIND := LL.int_mk ?c_BEHIND, SIZES := LL.sizes_mk ?s1 ?s2, b_len := ?b_len, b_range := ?b_range, b_enumerate := ?b_enumerate, b_max := ?b_max, b_min := ?b_min, b_list := ?b_list, b_zip := ?b_zip, b_sorted := ?b_sorted, b_sum := ?b_sum, b_tuple := ?b_tuple, ways_of := LL.fn_mk ?a_ways_of ?l_ways_of ?o_ways_of ?k_ways_of, places_of := LL.fn_mk ?a_places_of ?l_places_of ?o_places_of ?k_places_of, numbers_in := LL.fn_mk ?a_numbers_in ?l_numbers_in ?o_numbers_in ?k_numbers_in, made_longer := LL.fn_mk ?a_made_longer ?l_made_longer ?o_made_longer ?k_made_longer, orders_of := LL.fn_mk ?a_orders_of ?l_orders_of ?o_orders_of ?k_orders_of, orders_from := LL.fn_mk ?a_orders_from ?l_orders_from ?o_orders_from ?k_orders_from, neighbours_in := LL.fn_mk ?a_neighbours_in ?l_neighbours_in ?o_neighbours_in ?k_neighbours_in, orders_with := LL.fn_mk ?a_orders_with ?l_orders_with ?o_orders_with ?k_orders_with, sure_pairs := LL.fn_mk ?a_sure_pairs ?l_sure_pairs ?o_sure_pairs ?k_sure_pairs, gaps_between := LL.fn_mk ?a_gaps_between ?l_gaps_between ?o_gaps_between ?k_gaps_between, made_longer_by_each := LL.fn_mk ?a_made_longer_by_each ?l_made_longer_by_each ?o_made_longer_by_each ?k_made_longer_by_each, best_by_ending := LL.fn_mk ?a_best_by_ending ?l_best_by_ending ?o_best_by_ending ?k_best_by_ending, fewest_gaps := LL.fn_mk ?a_fewest_gaps ?l_fewest_gaps ?o_fewest_gaps ?k_fewest_gaps, words_of := LL.fn_mk ?a_words_of ?l_words_of ?o_words_of ?k_words_of, joined := LL.fn_mk ?a_joined ?l_joined ?o_joined ?k_joined, parts_of := LL.fn_mk ?a_parts_of ?l_parts_of ?o_parts_of ?k_parts_of, too_many_at := LL.fn_mk ?a_too_many_at ?l_too_many_at ?o_too_many_at ?k_too_many_at, too_many_in := LL.fn_mk ?a_too_many_in ?l_too_many_in ?o_too_many_in ?k_too_many_in, least_runs := LL.fn_mk ?a_least_runs ?l_least_runs ?o_least_runs ?k_least_runs, are_words := LL.fn_mk ?a_are_words ?l_are_words ?o_are_words ?k_are_words, leaves_and_ways := LL.fn_mk ?a_leaves_and_ways ?l_leaves_and_ways ?o_leaves_and_ways ?k_leaves_and_ways, count_and_first := LL.fn_mk ?a_count_and_first ?l_count_and_first ?o_count_and_first ?k_count_and_first, answer := LL.fn_mk ?a_answer ?l_answer ?o_answer ?k_answer, answers := LL.fn_mk ?a_answers ?l_answers ?o_answers ?k_answers, cls := { at_ := ?cl_at, pg := ?cl_pg, hd := ?cl_hd, po := ?cl_po, sa := ?cl_sa, mks := ?cl_mks, kc := ?cl_kc, nL := ?cl_nL, init := LL.mt_mk ?ma_init ?mi_init ?ml_init ?mo_init ?mk_init, begins := LL.mt_mk ?ma_begins ?mi_begins ?ml_begins ?mo_begins ?mk_begins, leaf := LL.mt_mk ?ma_leaf ?mi_leaf ?ml_leaf ?mo_leaf ?mk_leaf, drop := LL.mt_mk ?ma_drop ?mi_drop ?ml_drop ?mo_drop ?mk_drop, ways := LL.mt_mk ?ma_ways ?mi_ways ?ml_ways ?mo_ways ?mk_ways, orders := LL.mt_mk ?ma_orders ?mi_orders ?ml_orders ?mo_orders ?mk_orders, from_word := LL.mt_mk ?ma_from_word ?mi_from_word ?ml_from_word ?mo_from_word ?mk_from_word, runs := LL.mt_mk ?ma_runs ?mi_runs ?ml_runs ?mo_runs ?mk_runs, sure := LL.mt_mk ?ma_sure ?mi_sure ?ml_sure ?mo_sure ?mk_sure, behind := LL.mt_mk ?ma_behind ?mi_behind ?ml_behind ?mo_behind ?mk_behind, least := LL.mt_mk ?ma_least ?mi_least ?ml_least ?mo_least ?mk_least } }
    (case cl_at => k_is)
    (case cl_pg => k_is)
    (case cl_hd => k_is)
    (case cl_po => k_is)
    (case cl_sa => k_is)
    (case cl_mks => k_is)
    (case cl_kc => k_is)
    (case cl_nL => k_is)
    (case ma_init => k_is)
    (case mi_init => k_is)
    (case ml_init => k_is)
    (case mo_init => k_is)
    (case mk_init => k_is)
    (case ma_begins => k_is)
    (case mi_begins => k_is)
    (case ml_begins => k_is)
    (case mo_begins => k_is)
    (case mk_begins => k_is)
    (case ma_leaf => k_is)
    (case mi_leaf => k_is)
    (case ml_leaf => k_is)
    (case mo_leaf => k_is)
    (case mk_leaf => k_is)
    (case ma_drop => k_is)
    (case mi_drop => k_is)
    (case ml_drop => k_is)
    (case mo_drop => k_is)
    (case mk_drop => k_is)
    (case ma_ways => k_is)
    (case mi_ways => k_is)
    (case ml_ways => k_is)
    (case mo_ways => k_is)
    (case mk_ways => k_is)
    (case ma_orders => k_is)
    (case mi_orders => k_is)
    (case ml_orders => k_is)
    (case mo_orders => k_is)
    (case mk_orders => k_is)
    (case ma_from_word => k_is)
    (case mi_from_word => k_is)
    (case ml_from_word => k_is)
    (case mo_from_word => k_is)
    (case mk_from_word => k_is)
    (case ma_runs => k_is)
    (case mi_runs => k_is)
    (case ml_runs => k_is)
    (case mo_runs => k_is)
    (case mk_runs => k_is)
    (case ma_sure => k_is)
    (case mi_sure => k_is)
    (case ml_sure => k_is)
    (case mo_sure => k_is)
    (case mk_sure => k_is)
    (case ma_behind => k_is)
    (case mi_behind => k_is)
    (case ml_behind => k_is)
    (case mo_behind => k_is)
    (case mk_behind => k_is)
    (case ma_least => k_is)
    (case mi_least => k_is)
    (case ml_least => k_is)
    (case mo_least => k_is)
    (case mk_least => k_is)
    (case c_AS_TOLD => k_is)
    (case c_TURNED => k_is)
    (case c_MOST_LEAVES => k_is)
    (case c_HIGHEST_WORD => k_is)
    (case c_BAD_WORD => k_is)
    (case c_NO_SUCH_LEAF => k_is)
    (case c_NOT_JUST_ONE_WAY => k_is)
    (case c_HEAP_IS_FULL => k_is)
    (case c_NO_ROW => k_is)
    (case c_BEGINS => k_is)
    (case c_LEAF => k_is)
    (case c_DROP => k_is)
    (case c_WAYS => k_is)
    (case c_ORDERS => k_is)
    (case c_FROM_WORD => k_is)
    (case c_RUNS => k_is)
    (case c_SURE => k_is)
    (case c_BEHIND => k_is)
    (case b_len => k_is)
    (case b_range => k_is)
    (case b_enumerate => k_is)
    (case b_max => k_is)
    (case b_min => k_is)
    (case b_list => k_is)
    (case b_zip => k_is)
    (case b_sorted => k_is)
    (case b_sum => k_is)
    (case b_tuple => k_is)
    (case a_ways_of => k_is)
    (case l_ways_of => k_is)
    (case o_ways_of => k_is)
    (case k_ways_of => k_is)
    (case a_places_of => k_is)
    (case l_places_of => k_is)
    (case o_places_of => k_is)
    (case k_places_of => k_is)
    (case a_numbers_in => k_is)
    (case l_numbers_in => k_is)
    (case o_numbers_in => k_is)
    (case k_numbers_in => k_is)
    (case a_made_longer => k_is)
    (case l_made_longer => k_is)
    (case o_made_longer => k_is)
    (case k_made_longer => k_is)
    (case a_orders_of => k_is)
    (case l_orders_of => k_is)
    (case o_orders_of => k_is)
    (case k_orders_of => k_is)
    (case a_orders_from => k_is)
    (case l_orders_from => k_is)
    (case o_orders_from => k_is)
    (case k_orders_from => k_is)
    (case a_neighbours_in => k_is)
    (case l_neighbours_in => k_is)
    (case o_neighbours_in => k_is)
    (case k_neighbours_in => k_is)
    (case a_orders_with => k_is)
    (case l_orders_with => k_is)
    (case o_orders_with => k_is)
    (case k_orders_with => k_is)
    (case a_sure_pairs => k_is)
    (case l_sure_pairs => k_is)
    (case o_sure_pairs => k_is)
    (case k_sure_pairs => k_is)
    (case a_gaps_between => k_is)
    (case l_gaps_between => k_is)
    (case o_gaps_between => k_is)
    (case k_gaps_between => k_is)
    (case a_made_longer_by_each => k_is)
    (case l_made_longer_by_each => k_is)
    (case o_made_longer_by_each => k_is)
    (case k_made_longer_by_each => k_is)
    (case a_best_by_ending => k_is)
    (case l_best_by_ending => k_is)
    (case o_best_by_ending => k_is)
    (case k_best_by_ending => k_is)
    (case a_fewest_gaps => k_is)
    (case l_fewest_gaps => k_is)
    (case o_fewest_gaps => k_is)
    (case k_fewest_gaps => k_is)
    (case a_words_of => k_is)
    (case l_words_of => k_is)
    (case o_words_of => k_is)
    (case k_words_of => k_is)
    (case a_joined => k_is)
    (case l_joined => k_is)
    (case o_joined => k_is)
    (case k_joined => k_is)
    (case a_parts_of => k_is)
    (case l_parts_of => k_is)
    (case o_parts_of => k_is)
    (case k_parts_of => k_is)
    (case a_too_many_at => k_is)
    (case l_too_many_at => k_is)
    (case o_too_many_at => k_is)
    (case k_too_many_at => k_is)
    (case a_too_many_in => k_is)
    (case l_too_many_in => k_is)
    (case o_too_many_in => k_is)
    (case k_too_many_in => k_is)
    (case a_least_runs => k_is)
    (case l_least_runs => k_is)
    (case o_least_runs => k_is)
    (case k_least_runs => k_is)
    (case a_are_words => k_is)
    (case l_are_words => k_is)
    (case o_are_words => k_is)
    (case k_are_words => k_is)
    (case a_leaves_and_ways => k_is)
    (case l_leaves_and_ways => k_is)
    (case o_leaves_and_ways => k_is)
    (case k_leaves_and_ways => k_is)
    (case a_count_and_first => k_is)
    (case l_count_and_first => k_is)
    (case o_count_and_first => k_is)
    (case k_count_and_first => k_is)
    (case a_answer => k_is)
    (case l_answer => k_is)
    (case o_answer => k_is)
    (case k_answer => k_is)
    (case a_answers => k_is)
    (case l_answers => k_is)
    (case o_answers => k_is)
    (case k_answers => k_is)
    (case s1 => k_is)
    (case s2 => k_is)
  case S =>
    intro K H xs a hO hwi hask hx
    cases hx with
    | cons h1 h2 =>
      cases h2
      cases h1 with
      | lst hs ha =>
        have e := L2.ints_dw a.1 _ ha
        subst e
        have q : ((Codec.inLen 0 400 a.1 && a.1.all (Codec.inInt 0 4294967295)) && true) = true := hwi
        rw [Bool.and_eq_true, Bool.and_eq_true] at q
        exact ⟨_, a.1, rfl, hs, (Codec.inNat_iff.mp q.1.1).2, hask, fun H' p hp => .lst (L2.SqL.of hp) (L2.dw_ints _)⟩

