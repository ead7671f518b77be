import PyProof.Rows.All
import Wide.All
import OpenK.AllK
import Wide.FinOn
import PyProof.EqAt
import PyProof.EqKinds
import PyProof.TupleCall
import KE.BitLaws
import Kg33Spec
import PySem.Builtin.Int.W1All
import PyKg33
import KE.KDictSum
import KE.KTops
import KE.KMinKey
import KE.KLam
import Open.SpecLaws
import KE.OsHead
import KE.OsGo
import KE.KNest
import PySem.Challenge.RW_sixtymines_s01_answers
section
set_option Elab.async false
set_option linter.all false
set_option maxRecDepth 100000
/-! THE HAND LAYER, for ints, bools, texts, own classes, lists, tuples, dicts, comprehensions, walks over dicts, enumerate, zip, reversed, texts, calls, loops. Paste it whole ahead of your own text; what your proof does not reach may be deleted. -/
namespace L2
open PySem PySem.Spec PyProof.Rows

/-- a key: an int or a str -/
abbrev Key := Sum Int Str
def keyIs : Key → Value → Bool
  | .inl k, v => Value.isInt k v
  | .inr x, v => Value.isStrOf x v
def keyH (w : World) : Key → Int
  | .inl k => hashInt k
  | .inr x => hashStr w x
theorem keyIs_shape : ∀ {k : Key} {v : Value}, keyIs k v = true → (∃ i t, k = Sum.inl i ∧ v = Value.int i t) ∨ (∃ x t, k = Sum.inr x ∧ v = Value.str x t)
  | .inl i, v, h => by
    obtain ⟨t, e⟩ := Value.isInt_shape (k := i) (v := v) h
    exact .inl ⟨i, t, rfl, e⟩
  | .inr x, v, h => by
    obtain ⟨t, e⟩ := Value.isStrOf_shape (x := x) (v := v) h
    exact .inr ⟨x, t, rfl, e⟩
theorem keyIs_int (i : Int) (t : Tok) : keyIs (.inl i) (.int i t) = true := by simp [keyIs, Value.isInt]
theorem keyIs_str (x : Str) (t : Tok) : keyIs (.inr x) (.str x t) = true := by simp [keyIs, Value.isStrOf]
theorem key_ll (a b : Int) : decide ((Sum.inl a : Key) = Sum.inl b) = (a == b) := by
  by_cases e : a = b
  · subst e; simp
  · have h : ¬ (Sum.inl a : Key) = Sum.inl b := fun q => e (Sum.inl.inj q)
    rw [decide_eq_false h]
    exact (beq_eq_false_iff_ne.mpr e).symm
theorem key_rr (a b : Str) : decide ((Sum.inr a : Key) = Sum.inr b) = decide (a = b) := by
  by_cases e : a = b
  · subst e; simp
  · have h : ¬ (Sum.inr a : Key) = Sum.inr b := fun q => e (Sum.inr.inj q)
    rw [decide_eq_false h, decide_eq_false e]
theorem key_lr (a : Int) (b : Str) : decide ((Sum.inl a : Key) = Sum.inr b) = false := decide_eq_false (fun q => nomatch q)
theorem key_rl (a : Str) (b : Int) : decide ((Sum.inr a : Key) = Sum.inl b) = false := decide_eq_false (fun q => nomatch q)

def mixKind (prog : Program) (w : World) : PySem.KeyKind prog w Key where
  is := keyIs
  hash := keyH w
  inj := fun v a b ha hb => by
    rcases keyIs_shape ha with ⟨i, t, rfl, rfl⟩ | ⟨x, t, rfl, rfl⟩
    · rcases keyIs_shape hb with ⟨j, u, rfl, e⟩ | ⟨y, u, rfl, e⟩
      · injection e with e1 _; rw [e1]
      · exact nomatch e
    · rcases keyIs_shape hb with ⟨j, u, rfl, e⟩ | ⟨y, u, rfl, e⟩
      · exact nomatch e
      · injection e with e1 _; rw [e1]
  byValue := fun k v h => by
    rcases keyIs_shape h with ⟨i, t, rfl, rfl⟩ | ⟨x, t, rfl, rfl⟩ <;> rfl
  pyHash := fun hv h => by
    rcases keyIs_shape hv with ⟨i, t, rfl, rfl⟩ | ⟨x, t, rfl, rfl⟩
    · exact wpAny_pyHash_int h
    · exact wpAny_pyHash_str h
  eqBool := fun hu hv h => by
    rcases keyIs_shape hu with ⟨i, t, rfl, rfl⟩ | ⟨x, t, rfl, rfl⟩
    · rcases keyIs_shape hv with ⟨j, u, rfl, rfl⟩ | ⟨y, u, rfl, rfl⟩
      · rw [key_ll] at h; exact wpAny_eqBool_int h
      · rw [key_lr] at h; exact SeqAt.EqAt.int_str i t y u _ _ _ _ h
    · rcases keyIs_shape hv with ⟨j, u, rfl, rfl⟩ | ⟨y, u, rfl, rfl⟩
      · rw [key_rl] at h; exact SeqAt.EqAt.str_int x t j u _ _ _ _ h
      · rw [key_rr] at h; exact wpAny_eqBool_str h
  «strs» := fun k x t v h => by
    rcases keyIs_shape h with ⟨i, u, rfl, e⟩ | ⟨y, u, rfl, e⟩
    · exact nomatch e
    · injection e with e1 _
      subst e1
      cases v <;> rfl

theorem mixKind_int (prog : Program) (w : World) (i : Int) (t : Tok) : (mixKind prog w).is (.inl i) (.int i t) = true := keyIs_int i t
theorem mixKind_str (prog : Program) (w : World) (x : Str) (t : Tok) : (mixKind prog w).is (.inr x) (.str x t) = true := keyIs_str x t
end L2

namespace L2
open PySem PySem.Spec PyProof.Rows

/-- a value, without the heap -/
inductive V where
  | non | bl (b : Bool) | int (i : Int) | str (x : Str) | byt (b : Array UInt8) | flt (b : UInt64) | ref (a : Addr) | ty (n : String)
  deriving DecidableEq

def RelV : V → Value → Prop
  | .non, u => u = Value.none
  | .bl b, u => u = Value.bool b
  | .int i, u => ∃ t, u = Value.int i t
  | .str x, u => ∃ t, u = Value.str x t
  | .byt b, u => ∃ t, u = Value.bytes b t
  | .flt b, u => ∃ t, u = Value.float b t
  | .ref a, u => u = Value.ref a
  | .ty n, u => u = Value.type n

abbrev Vals : List V → List Value → Prop := Paired RelV
theorem Vals.length {xs : List V} {us : List Value} (r : Vals xs us) : xs.length = us.length := Paired.length r
theorem Vals.get : ∀ {xs : List V} {us : List Value} {i : Nat} {x : V}, Vals xs us → xs[i]? = some x → ∃ u, us[i]? = some u ∧ RelV x u
  | _, _, _, _, .nil, e => by simp at e
  | _, _, 0, _, .cons r _, e => by simp at e; subst e; exact ⟨_, rfl, r⟩
  | _, _, i + 1, x, .cons _ t, e => by
    obtain ⟨u, h1, h2⟩ := Vals.get (i := i) (x := x) t (by simpa using e)
    exact ⟨u, by simpa using h1, h2⟩
theorem Vals.set {x : V} {u : Value} (r : RelV x u) : ∀ {xs : List V} {us : List Value} (i : Nat), Vals xs us → Vals (xs.set i x) (us.set i u)
  | _, _, _, .nil => .nil
  | _, _, 0, .cons _ t => .cons r t
  | _, _, i + 1, .cons q t => .cons q (Vals.set r i t)
theorem Vals.append : ∀ {xs ys : List V} {us ws : List Value}, Vals xs us → Vals ys ws → Vals (xs ++ ys) (us ++ ws)
  | _, _, _, _, .nil, s => s
  | _, _, _, _, .cons r t, s => .cons r (Vals.append t s)
theorem Vals.take : ∀ {xs : List V} {us : List Value} (n : Nat), Vals xs us → Vals (xs.take n) (us.take n)
  | _, _, 0, _ => .nil
  | _, _, _ + 1, .nil => .nil
  | _, _, n + 1, .cons r t => .cons r (Vals.take n t)
theorem Vals.drop : ∀ {xs : List V} {us : List Value} (n : Nat), Vals xs us → Vals (xs.drop n) (us.drop n)
  | _, _, 0, r => r
  | _, _, _ + 1, .nil => .nil
  | _, _, n + 1, .cons _ t => Vals.drop n t

def RelO : Option V → Option Value → Prop
  | some v, some u => RelV v u
  | none, none => True
  | _, _ => False
def KV {κ : Type} : List (κ × V) → List (κ × Value) → Prop := Paired fun (p : κ × V) (q : κ × Value) => p.1 = q.1 ∧ RelV p.2 q.2

/-- a key of a dict (00_mix): an int or a text -/
def kV : Key → V
  | .inl i => .int i
  | .inr x => .str x

/-- what stands at a tracked address -/
inductive HO where
  /-- a list -/
  | lst (xs : List V)
  /-- a tuple (never changes) -/
  | tup (xs : List V)
  /-- a dict whose keys are ints and texts; one whose keys are tuples of ints and texts (the empty one is both) -/
  | dK (kvs : List (Key × V)) | dT (kvs : List (List Key × V))
  /-- a set of ints: its members, its size -/
  | set (S : Int → Bool) (n : Nat)
  /-- an instance of the class at C, its dict at dx, its attributes -/
  | ins (C dx : Addr) (fs : List (Str × V))
  /-- the dict of the instance at x -/
  | own (x : Addr)
  /-- the dict of an exception -/
  | xd (fs : List (Str × V))
  /-- a bound method, f of x -/
  | met (f x : Addr)
  /-- a range object lo, lo + 1, .. below hi -/
  | rng (lo hi : Int)
  /-- a thing that is known to the object (the script; a dict while a loop walks it): read, never written while it is so -/
  | frz (o : Obj) (u : HO)
  /-- a code object's table -/
  | tbl (ps : Array Value)
  /-- any other thing, by what is true of its one object (a def of one's own: SetO a S n := HO.ext fun h => ..) -/
  | ext (φ : Heap → Prop)

abbrev Hp := Addr → Option HO
def upd (H : Hp) (a : Addr) (o : HO) : Hp := fun b => if b = a then some o else H b
theorem upd_same {H : Hp} {a : Addr} {o : HO} : upd H a o a = some o := by unfold upd; rw [if_pos rfl]
theorem upd_ne {H : Hp} {a b : Addr} {o : HO} (h : b ≠ a) : upd H a o b = H b := by unfold upd; rw [if_neg h]
/-- two objects of different content stand apart -/
theorem ne_of {H : Hp} {a b : Addr} {o u : HO} (h : H a = some o) (h' : H b = some u) (d : o ≠ u) : a ≠ b := by
  intro e; subst e; rw [h] at h'; exact d (Option.some.inj h')
theorem ne_of_none {H : Hp} {a b : Addr} {o : HO} (h : H a = some o) (h' : H b = none) : a ≠ b := by
  intro e; subst e; rw [h] at h'; cases h'

section
variable (P : Program) (w : World)
def ObjOk (H : Hp) (h : Heap) (a : Addr) : HO → Prop
  | .lst xs => xs.length ≤ sizeLine ∧ ∃ (its : List Value) (n : Nat), Vals xs its ∧ h.get? a = some { cls := .type "list", data := .seq its.toArray n }
  | .tup xs => xs.length ≤ sizeLine ∧ ∃ its : List Value, Vals xs its ∧ IsTup h a its.toArray
  | .dK kvs => kvs.length ≤ sizeLine ∧ (a == sysModules) = false ∧ ∃ vs, KV kvs vs ∧ h.DictOf (mixKind P w) a vs
  | .dT kvs => kvs.length ≤ sizeLine ∧ (a == sysModules) = false ∧ ∃ xs : List (List Key × Addr × Value),
      Paired (fun (p : List Key × V) (q : List Key × Addr × Value) => p.1 = q.1 ∧ H q.2.1 = some (.tup (p.1.map kV)) ∧ RelV p.2 q.2.2) kvs xs ∧
      ∃ o es ep, h.get? a = some o ∧ o.ExactDict ∧ o.data = .dict es ep ∧ es.toList = xs.map (entryOfKey (tupleKind (mixKind P w))) ∧ (xs.map (·.1)).Nodup
  | .set S n => h.SetOf (intKind P w) a S n
  | .ins C dx fs => H dx = some (.own a) ∧ fs.length ≤ 1000 ∧ dx ≠ a ∧ h.get? a = some (PySem.W.instObj C dx) ∧
      ∃ mA, h.Ns1 dx mA ∧ (∀ f, RelO (fs.lookup f) (mA f)) ∧ PySem.Within mA (fs.map (·.1))
  | .own _ => ∃ o, h.get? a = some o
  | .xd fs => ∃ mA, h.Ns1 a mA ∧ ∀ f, RelO (fs.lookup f) (mA f)
  | .rng lo hi => ∃ t u v, h.get? a = some { cls := .type "range", data := .fields #[.int lo t, .int hi u, .int 1 v] }
  | .frz o u => h.get? a = some o ∧ ObjOk H h a u
  | .tbl ps => h.get? a = some { cls := .none, data := .fields ps }
  | .met f x => h.get? a = some (PySem.W.methodObj (.ref f) (.ref x))
  | .ext φ => φ h ∧ (∃ o, h.get? a = some o) ∧ ∀ h1 h2 : Heap, φ h1 → (∀ o, h1.get? a = some o → h2.get? a = some o) → φ h2
/-- the abstract heap is held -/
def HOk (H : Hp) (h : Heap) : Prop := ∀ a o, H a = some o → ObjOk P w H h a o
end

section
variable {P : Program} {w : World} {H H' : Hp} {h h' : Heap} {a : Addr} {o : HO}
theorem ObjOk.lt (x : ObjOk P w H h a o) : a < h.objs.size := by
  cases o with
  | lst xs => obtain ⟨_, _, _, _, e⟩ := x; exact Heap.lt_size e
  | tup xs => obtain ⟨_, _, _, p⟩ := x; exact p.lt
  | dK kvs => obtain ⟨_, _, _, _, o, _, _, e, _⟩ := x; exact Heap.lt_size e
  | dT kvs => obtain ⟨_, _, _, _, o, _, _, e, _⟩ := x; exact Heap.lt_size e
  | set S n => obtain ⟨o, _, _, _, e, _⟩ := x; exact Heap.lt_size e
  | ins C dx fs => obtain ⟨_, _, _, e, _⟩ := x; exact Heap.lt_size e
  | own y => obtain ⟨_, e⟩ := x; exact Heap.lt_size e
  | xd fs => obtain ⟨_, ⟨_, _, _, e, _⟩, _⟩ := x; exact Heap.lt_size e
  | rng lo hi => obtain ⟨_, _, _, e⟩ := x; exact Heap.lt_size e
  | frz ob u => obtain ⟨e, _⟩ := x; exact Heap.lt_size e
  | tbl ps => exact Heap.lt_size (show h.get? a = some _ from x)
  | met f y => exact Heap.lt_size (show h.get? a = some _ from x)
  | ext φ => obtain ⟨_, ⟨_, e⟩, _⟩ := x; exact Heap.lt_size e
theorem Paired.mapP {α β : Type} {F G : α → β → Prop} : ∀ {l₁ : List α} {l₂ : List β}, Paired F l₁ l₂ → (∀ a b, F a b → G a b) → Paired G l₁ l₂
  | _, _, .nil, _ => .nil
  | _, _, .cons r t, f => .cons (f _ _ r) (Paired.mapP t f)
/-- what an object's description leans on: its own object, its own dict, the tuples -/
theorem ObjOk.stay (x : ObjOk P w H h a o) (k : ∀ b u, (b = a ∨ H b = some (.own a)) → h.get? b = some u → h'.get? b = some u)
    (ho : ∀ b, H b = some (.own a) → H' b = some (.own a)) (ht : ∀ b xs, H b = some (.tup xs) → H' b = some (.tup xs)) : ObjOk P w H' h' a o := by
  induction o with
  | lst xs => obtain ⟨z, its, n, r, e⟩ := x; exact ⟨z, its, n, r, k _ _ (.inl rfl) e⟩
  | tup xs => obtain ⟨z, its, r, ob, e, c⟩ := x; exact ⟨z, its, r, ob, k _ _ (.inl rfl) e, c⟩
  | dK kvs => obtain ⟨z, y, vs, r, ob, es, ep, e, c⟩ := x; exact ⟨z, y, vs, r, ob, es, ep, k _ _ (.inl rfl) e, c⟩
  | dT kvs =>
    obtain ⟨z, y, xs, r, ob, es, ep, e, c⟩ := x
    exact ⟨z, y, xs, Paired.mapP r fun p q z => ⟨z.1, ht _ _ z.2.1, z.2.2⟩, ob, es, ep, k _ _ (.inl rfl) e, c⟩
  | set S n => obtain ⟨ob, es, ep, t, e, c⟩ := x; exact ⟨ob, es, ep, t, k _ _ (.inl rfl) e, c⟩
  | ins C dx fs =>
    obtain ⟨d, z, ne, e, mA, ⟨od, es, ep, e2, c⟩, r⟩ := x
    exact ⟨ho _ d, z, ne, k _ _ (.inl rfl) e, mA, ⟨od, es, ep, k _ _ (.inr d) e2, c⟩, r⟩
  | own y => obtain ⟨ob, e⟩ := x; exact ⟨ob, k _ _ (.inl rfl) e⟩
  | xd fs => obtain ⟨mA, ⟨od, es, ep, e, c⟩, r⟩ := x; exact ⟨mA, ⟨od, es, ep, k _ _ (.inl rfl) e, c⟩, r⟩
  | rng lo hi => obtain ⟨t, u, v, e⟩ := x; exact ⟨t, u, v, k _ _ (.inl rfl) e⟩
  | frz ob u ih => obtain ⟨e, q⟩ := x; exact ⟨k _ _ (.inl rfl) e, ih q⟩
  | tbl ps =>
    have e : h.get? a = some { cls := .none, data := .fields ps } := x
    show h'.get? a = some { cls := .none, data := .fields ps }
    exact k a _ (.inl rfl) e
  | met f y =>
    have e : h.get? a = some (PySem.W.methodObj (.ref f) (.ref y)) := x
    show h'.get? a = some (PySem.W.methodObj (.ref f) (.ref y))
    exact k a _ (.inl rfl) e
  | ext φ => obtain ⟨p, ⟨o, e⟩, st⟩ := x; exact ⟨st _ _ p fun o q => k _ _ (.inl rfl) q, ⟨o, k _ _ (.inl rfl) e⟩, st⟩
theorem HOk.lt (x : HOk P w H h) (e : H a = some o) : a < h.objs.size := (x a o e).lt
theorem HOk.fresh (x : HOk P w H h) (e : h.objs.size ≤ a) : H a = none := by
  cases q : H a with
  | none => rfl
  | some u => exact absurd (Nat.lt_of_lt_of_le (x.lt q) e) (Nat.lt_irrefl _)
/-- every object of the heap is kept -/
theorem HOk.kept (x : HOk P w H h) (k : ∀ b u, h.get? b = some u → h'.get? b = some u) : HOk P w H h' := fun a o e =>
  (x a o e).stay (fun b u _ q => k b u q) (fun _ q => q) fun _ _ q => q
/-- a new object is laid and tracked -/
theorem HOk.laid (x : HOk P w H h) (k : ∀ b u, h.get? b = some u → h'.get? b = some u) (hp : h.objs.size ≤ a) (new : ObjOk P w (upd H a o) h' a o) : HOk P w (upd H a o) h' := fun b u e => by
  have hn := x.fresh hp
  by_cases hb : b = a
  · subst hb; rw [upd_same] at e; cases e; exact new
  · rw [upd_ne hb] at e
    exact (x b u e).stay (fun c v _ q => k c v q) (fun c q => by rw [upd_ne (ne_of_none q hn)]; exact q) fun c xs q => by rw [upd_ne (ne_of_none q hn)]; exact q
end

/-- what may be read as u: it is u, or a known u -/
def Rd (H : Hp) (a : Addr) (u : HO) : Prop := H a = some u ∨ ∃ o, H a = some (.frz o u)
theorem Rd.ok {P : Program} {w : World} {H : Hp} {h : Heap} {a : Addr} {u : HO} (r : Rd H a u) (x : HOk P w H h) : ObjOk P w H h a u := by
  rcases r with r | ⟨o, r⟩
  · exact x a u r
  · obtain ⟨_, q⟩ := x a _ r
    exact q
/-- what may be written -/
def Mut : Option HO → Prop
  | some (.lst _) => True
  | some (.dK _) => True
  | some (.dT _) => True
  | some (.set _ _) => True
  | some (.ins _ _ _) => True
  | some (.ext _) => True
  | _ => False
section
variable {P : Program} {w : World} {H : Hp} {h h' : Heap} {x e : Addr} {o' : HO}
/-- the object at e is changed: x itself, or the dict of the instance x -/
theorem HOk.write (ok : HOk P w H h) (mu : Mut (H x)) (he : e = x ∨ H e = some (.own x)) (k : ∀ b u, b ≠ e → h.get? b = some u → h'.get? b = some u) (heo : ∃ u, h'.get? e = some u)
    (new : ObjOk P w (upd H x o') h' x o') : HOk P w (upd H x o') h' := fun b u q => by
  have nown : ∀ c y, H c = some (.own y) → c ≠ x := fun c y r z => by subst z; rw [r] at mu; exact mu
  have ntup : ∀ c xs, H c = some (.tup xs) → c ≠ x := fun c xs r z => by subst z; rw [r] at mu; exact mu
  by_cases hb : b = x
  · subst hb; rw [upd_same] at q; cases q; exact new
  · rw [upd_ne hb] at q
    by_cases hbe : b = e
    · have q' : H b = some (.own x) := by
        rcases he with z | z
        · exact absurd (hbe.trans z) hb
        · rw [hbe]; exact z
      rw [q] at q'; cases q'
      obtain ⟨v, hv⟩ := heo
      exact ⟨v, by rw [hbe]; exact hv⟩
    · refine (ok b u q).stay (fun c v hc r => k c v ?_ r) (fun c r => by rw [upd_ne (nown c b r)]; exact r) fun c xs r => by rw [upd_ne (ntup c xs r)]; exact r
      rcases hc with rfl | hc
      · exact hbe
      · rintro rfl
        rcases he with z | z
        · exact nown c b hc z
        · rw [hc] at z; cases z; exact hb rfl
end

/-! ### kept unless tracked; of the frames at fs (the callers') the slots may change (an exception that passes writes there); of the records at ex (iterators) nothing is said -/
structure Un (fs ex : List Addr) (H H' : Hp) (h h' : Heap) : Prop where
  keep : ∀ b o, h.get? b = some o → H b = none → b ∉ fs → b ∉ ex → h'.get? b = some o
  slot : ∀ b o, h.get? b = some o → H b = none → b ∈ fs → b ∉ ex → ∃ sl, h'.get? b = some { o with slots := sl }
  free : ∀ b o, h.get? b = some o → H b = none → b ∉ ex → H' b = none
  there : ∀ b o, h.get? b = some o → b ∉ ex → ∃ o', h'.get? b = some o'
  tups : ∀ b xs, H b = some (.tup xs) → H' b = some (.tup xs)
  frzs : ∀ b o u, H b = some (.frz o u) → H' b = some (.frz o u)
  tbls : ∀ b ps, H b = some (.tbl ps) → ∃ more, H' b = some (.tbl (ps ++ more))
section
variable {fs fs' ex ex' : List Addr} {H H1 H2 : Hp} {h h1 h2 h' : Heap} {a x e : Addr} {o : HO}
theorem Un.any (u : Un fs ex H H1 h h1) {b : Addr} {ob : Obj} (q : h.get? b = some ob) (n : H b = none) (hx : b ∉ ex) : ∃ sl, h1.get? b = some { ob with slots := sl } := by
  by_cases hb : b ∈ fs
  · exact u.slot b ob q n hb hx
  · exact ⟨ob.slots, u.keep b ob q n hb hx⟩
theorem Un.kept (k : ∀ b u, h.get? b = some u → h'.get? b = some u) : Un fs ex H H h h' :=
  ⟨fun b ob q _ _ _ => k b ob q, fun b ob q _ _ _ => ⟨ob.slots, k b ob q⟩, fun _ _ _ n _ => n, fun b ob q _ => ⟨ob, k b ob q⟩, fun _ _ q => q, fun _ _ _ q => q, fun _ ps q => ⟨#[], by rw [q]; simp⟩⟩
theorem Un.refl : Un fs ex H H h h := Un.kept fun _ _ q => q
theorem Un.laid (k : ∀ b u, h.get? b = some u → h'.get? b = some u) (hp : h.objs.size ≤ a) (hn : H a = none) : Un fs ex H (upd H a o) h h' where
  keep := fun b u q _ _ _ => k b u q
  slot := fun b u q _ _ _ => ⟨u.slots, k b u q⟩
  free := fun b u q n _ => by rw [upd_ne (Nat.ne_of_lt (Nat.lt_of_lt_of_le (Heap.lt_size q) hp))]; exact n
  there := fun b u q _ => ⟨u, k b u q⟩
  tups := fun b xs q => by rw [upd_ne (ne_of_none q hn)]; exact q
  frzs := fun b u xs q => by rw [upd_ne (ne_of_none q hn)]; exact q
  tbls := fun b ps q => ⟨#[], by rw [upd_ne (ne_of_none q hn), q]; simp⟩
theorem Un.write (mu : Mut (H x)) (he : e = x ∨ H e = some (.own x)) (k : ∀ b u, b ≠ e → h.get? b = some u → h'.get? b = some u) (heo : ∃ u, h'.get? e = some u) : Un fs ex H (upd H x o) h h' := by
  have hx : ∀ b, H b = none → b ≠ x := fun b n z => by subst z; rw [n] at mu; exact mu
  have hb : ∀ b, H b = none → b ≠ e := fun b n z => by
    subst z
    rcases he with r | r
    · exact hx b n r
    · rw [n] at r; cases r
  have hm : ∀ b u, H b = some u → ¬ Mut (some u) → b ≠ x := fun b u q nm z => by subst z; rw [q] at mu; exact nm mu
  refine ⟨fun b u q n _ _ => k b u (hb b n) q, fun b u q n _ _ => ⟨u.slots, k b u (hb b n) q⟩, fun b u q n _ => by rw [upd_ne (hx b n)]; exact n, fun b u q _ => ?_,
    fun b xs q => by rw [upd_ne (hm b _ q fun z => z)]; exact q, fun b u xs q => by rw [upd_ne (hm b _ q fun z => z)]; exact q, fun b ps q => ⟨#[], by rw [upd_ne (hm b _ q fun z => z), q]; simp⟩⟩
  by_cases hbe : b = e
  · subst hbe; exact heo
  · exact ⟨u, k b u hbe q⟩
end

/-! ### the heap without what is tracked -/
def trk (h : Heap) (H : Hp) : List Addr := (List.range h.objs.size).filter fun a => (H a).isSome
def hidT (h : Heap) (H : Hp) : Heap := PySem.W.hideAll h (trk h H)
theorem hidT_size (h : Heap) (H : Hp) : (hidT h H).objs.size = h.objs.size := PySem.W.hideAll_size _ _
theorem hidT_get {h : Heap} {H : Hp} {b : Addr} {o : Obj} (e : h.get? b = some o) (n : H b = none) : (hidT h H).get? b = some o :=
  PySem.W.hideAll_get _ e fun hm => by
    have q : (H b).isSome = true := (List.mem_filter.mp hm).2
    rw [n] at q; simp at q
theorem of_hidT {h : Heap} {H : Hp} {b : Addr} {o : Obj} (e : (hidT h H).get? b = some o) : h.get? b = some o ∧ H b = none := by
  have e' : h.get? b = some o := PySem.W.of_hideAll (trk h H) e
  refine ⟨e', ?_⟩
  cases q : H b with
  | none => rfl
  | some x =>
    have hm : b ∈ trk h H := List.mem_filter.mpr ⟨List.mem_range.mpr (Heap.lt_size e'), by simp [q]⟩
    have z : (hidT h H).get? b = none := PySem.W.hideAll_none (trk h H) hm
    rw [z] at e; cases e

/-! ### OpenK's ledger, filled with every new object but one -/
def allNews (g h : Heap) (L : Addr) : List (Addr × Obj) := (List.range h.objs.size).filterMap fun a => if a = L ∨ (g.get? a).isSome = true then none else (h.get? a).map fun o => (a, o)
theorem mem_allNews {g h : Heap} {L a : Addr} {o : Obj} (h1 : a ≠ L) (h2 : g.get? a = none) (h3 : h.get? a = some o) : (a, o) ∈ allNews g h L :=
  List.mem_filterMap.mpr ⟨a, List.mem_range.mpr (Heap.lt_size h3), by simp [h1, h2, h3]⟩
theorem of_mem_allNews {g h : Heap} {L : Addr} {p : Addr × Obj} (hp : p ∈ allNews g h L) : p.1 ≠ L ∧ g.get? p.1 = none ∧ h.get? p.1 = some p.2 := by
  obtain ⟨b, _, e⟩ := List.mem_filterMap.mp hp
  split at e
  · cases e
  · rename_i hn
    cases q : h.get? b with
    | none => rw [q] at e; simp at e
    | some u =>
      rw [q] at e
      simp only [Option.map_some, Option.some.injEq] at e
      subst e
      refine ⟨fun z => hn (.inl z), ?_, q⟩
      show g.get? b = none
      cases r : g.get? b with
      | none => rfl
      | some v => exact (hn (.inr (by simp [r]))).elim
theorem news_all {g h : Heap} {L : Addr} : News g L h (allNews g h L) := fun p hp => let ⟨a, b, c⟩ := of_mem_allNews hp; ⟨c, a, b⟩
end L2

namespace L2
open PySem PySem.Spec PyProof.Rows

/-- the module's facts, over the base: the heap at the law's entry without what is tracked there -/
structure Mod (K : PySem.W.Frag) (mg : Str → Option Value) (base : Heap) : Prop where
  kin : K.In base
  glob : base.Ns mainGlobals mg
  blt : ∃ mb, base.Ns builtinsNs mb ∧ ∀ x : Str, x ≠ "__name__" → mb x = bootBuiltins x
  nolimit : base.NoLimit

/-- the context: a def's body (or a comprehension's block) running. base: fixed through the whole law; s₀, H₀: the entry; outer: the frames whose slots others may change (a def's callers); stack: all frames that run;
   ex: iterators that were made ahead of the entry and are walked here (a comprehension's); fn: the names whose cells were made at the entry (a def: all; a comprehension's block: its own); calm: not within an except suite; pn: pins that every state bears; xe: what is wanted of an exception that leaves the code -/
structure Cx where
  prog : Program
  w : World
  K : PySem.W.Frag
  mg : Str → Option Value
  base : Heap
  A : Around
  N : List Str
  s_0 : Shared
  H_0 : Hp
  env : Env
  outer : List Env
  stack : List Env
  ex : List Addr
  fn : Str → Bool
  calm : Bool
  pn : List (Addr × Obj)
  xe : Value → Shared → Prop
/-- the callers' frames -/
def frs (l : List Env) : List Addr := l.filterMap (·.frame)
abbrev Cx.fs (X : Cx) : List Addr := frs X.outer

def Vis (sc : Scope) (x : Str) : Prop := sc.names.lookup x = some .local ∨ sc.names.lookup x = some .cell ∨ sc.names.lookup x = some .free
def Loc (sc : Scope) (x : Str) : Prop := sc.names.lookup x = some .local ∨ sc.names.lookup x = some .cell
def Look (env : Env) (h : Heap) (m : Str → Option Value) (x : Str) (u : Value) : Prop :=
  (env.kindOf x = some .local ∧ m x = some u) ∨ ((env.kindOf x = some .cell ∨ env.kindOf x = some .free) ∧ ∃ c, env.cells.lookup x = some c ∧ h.IsCell c (some u))

structure Cx.Ok (X : Cx) : Prop where
  mod : Mod X.K X.mg X.base
  kind : X.env.scope.kind = .function
  glob : X.env.globals = mainGlobals
  blt : X.env.builtins = builtinsNs
  above : X.s_0.heap.objs.size ≤ X.env.locals
  inj : ∀ x y c, X.env.cells.lookup x = some c → X.env.cells.lookup y = some c → x = y
  has : ∀ x, (X.env.kindOf x = some .cell ∨ X.env.kindOf x = some .free) → ∃ c, X.env.cells.lookup x = some c
  cab : ∀ x c, X.fn x = true → X.env.cells.lookup x = some c → X.s_0.heap.objs.size ≤ c
  hd : X.calm = true → X.A.handled = none
  frames : X.A.frames = some X.stack
  stk : X.stack = X.outer ∨ (X.stack = X.env :: X.outer ∧ X.env.frame = some X.env.locals)
  exf : ∀ b ∈ X.ex, b ≠ X.env.locals ∧ ∀ x c, X.env.cells.lookup x = some c → c ≠ b
  bs : ∀ b o, X.base.get? b = some o → X.s_0.heap.get? b = some o ∧ X.H_0 b = none
  bsz : X.base.objs.size ≤ X.s_0.heap.objs.size
  noex : ∀ b o, X.base.get? b = some o → b ∉ X.ex
  exfs : ∀ b ∈ X.ex, b ∉ X.fs
  funs : X.s_0.heap.FunFrames X.base X.outer
  frf : ∀ b ∈ X.fs, X.H_0 b = none

structure Inv (X : Cx) (pins : List (Addr × Obj)) (σ : List (Option V)) (H : Hp) (s : Shared) : Prop where
  ok : X.Ok
  os : s.os = X.s_0.os
  bare : AllBare s.gens
  base : Un X.fs X.ex X.H_0 H X.s_0.heap s.heap
  loc : ∃ m, s.heap.Ns X.env.locals m ∧ ∀ (i : Nat) (x : Str) (v : V), X.N[i]? = some x → σ[i]? = some (some v) → Vis X.env.scope x → ∃ u, RelV v u ∧ Look X.env s.heap m x u
  cell : ∀ x c, X.env.cells.lookup x = some c → ∃ v, s.heap.IsCell c v
  free : H X.env.locals = none
  freeC : ∀ x c, X.env.cells.lookup x = some c → H c = none
  pin : ∀ p ∈ X.pn ++ pins, s.heap.get? p.1 = some p.2 ∧ H p.1 = none ∧ p.1 ≠ X.env.locals ∧ p.1 ∉ X.fs ∧ ∀ v, p.2.data ≠ .cell v
  hok : HOk X.prog X.w H s.heap
  len : σ.length = X.N.length

section
variable {X : Cx} {pins : List (Addr × Obj)} {σ : List (Option V)} {H H' : Hp} {s : Shared} {h' : Heap}

theorem Cx.Ok.nofr (ok : X.Ok) {b : Addr} {o : Obj} (e : X.base.get? b = some o) : b ∉ X.fs := fun hb => by
  have := (ok.funs.mem hb).1
  rw [e] at this; cases this
theorem Inv.bs (I : Inv X pins σ H s) : ∀ b o, X.base.get? b = some o → s.heap.get? b = some o ∧ H b = none := fun b o e =>
  ⟨I.base.keep b o (I.ok.bs b o e).1 (I.ok.bs b o e).2 (I.ok.nofr e) (I.ok.noex b o e), I.base.free b o (I.ok.bs b o e).1 (I.ok.bs b o e).2 (I.ok.noex b o e)⟩
theorem Inv.bk (I : Inv X pins σ H s) : ∀ b o, X.base.get? b = some o → s.heap.get? b = some o := fun b o e => (I.bs b o e).1
theorem Inv.mod (I : Inv X pins σ H s) : Mod X.K X.mg X.base := I.ok.mod
theorem Inv.kIn (I : Inv X pins σ H s) : X.K.In s.heap := I.ok.mod.kin.keeps I.bk
theorem Inv.lt (I : Inv X pins σ H s) : X.env.locals < s.heap.objs.size := let ⟨_, hn, _⟩ := I.loc; hn.lt
theorem Inv.sz (I : Inv X pins σ H s) : X.s_0.heap.objs.size ≤ s.heap.objs.size := Nat.le_trans I.ok.above (Nat.le_of_lt I.lt)
theorem Inv.nofs (I : Inv X pins σ H s) {a : Addr} (h : s.heap.objs.size ≤ a) : a ∉ X.fs := fun hb => by
  obtain ⟨_, o, ho, _⟩ := I.ok.funs.mem hb
  exact absurd (Nat.lt_of_lt_of_le (Heap.lt_size ho) (Nat.le_trans I.sz h)) (Nat.lt_irrefl _)
theorem Inv.cne (I : Inv X pins σ H s) : ∀ x c, X.env.cells.lookup x = some c → c ≠ X.env.locals := fun x c e z => by
  obtain ⟨v, o, ho, hd⟩ := I.cell x c e
  obtain ⟨m, ⟨o', es, ep, ho', hd', _⟩, _⟩ := I.loc
  rw [z, ho'] at ho; cases ho; rw [hd'] at hd; cases hd
theorem Inv.funs (I : Inv X pins σ H s) : s.heap.FunFrames X.base X.outer := by
  have all : ∀ (l : List Env), (∀ b ∈ frs l, b ∈ X.fs) → X.s_0.heap.FunFrames X.base l → s.heap.FunFrames X.base l := by
    intro l
    induction l with
    | nil => intro _ _; trivial
    | cons env r ih =>
      intro hs hl
      obtain ⟨hk, ⟨L, o, hf, hn, ho, hd⟩, hr⟩ := hl
      have hL : L ∈ X.fs := hs L (by unfold frs; rw [List.filterMap_cons, hf]; exact List.mem_cons_self)
      obtain ⟨sl, e⟩ := I.base.slot L o ho (I.ok.frf L hL) hL fun z => I.ok.exfs L z hL
      exact ⟨hk, ⟨L, _, hf, hn, e, hd⟩, ih (fun b hb => hs b (by unfold frs; rw [List.filterMap_cons, hf]; exact List.mem_cons_of_mem _ hb)) hr⟩
  exact all X.outer (fun _ hb => hb) I.ok.funs

/-- the frames that run, for a call -/
theorem Inv.stack (I : Inv X pins σ H s) : s.heap.FunFrames X.base X.stack := by
  rcases I.ok.stk with e | ⟨e, hf⟩
  · rw [e]; exact I.funs
  · rw [e]
    obtain ⟨m, hn, _⟩ := I.loc
    refine .cons (by rw [I.ok.kind]; decide) hf hn ?_ I.funs
    exact Heap.get?_none_of_le (Nat.le_trans I.ok.bsz I.ok.above)
theorem Inv.stkSub (I : Inv X pins σ H s) : ∀ b ∈ frs X.stack, b ∈ X.env.locals :: X.fs := fun b hb => by
  rcases I.ok.stk with e | ⟨e, hf⟩
  · rw [e] at hb; exact List.mem_cons_of_mem _ hb
  · rw [e] at hb
    unfold frs at hb
    rw [List.filterMap_cons, hf] at hb
    exact hb
theorem Inv.stkFree (I : Inv X pins σ H s) : ∀ b ∈ frs X.stack, H b = none := fun b hb => by
  rcases List.mem_cons.mp (I.stkSub b hb) with e | hb
  · rw [e]; exact I.free
  · obtain ⟨_, o, ho, _⟩ := I.ok.funs.mem hb
    exact I.base.free b o ho (I.ok.frf b hb) fun z => I.ok.exfs b z hb

/-- THE STEP: the untracked objects but the frame and the records at ch are kept (the callers' frames up to slots), the frame's map is kept, the new abstract heap is held -/
theorem Inv.step {g' : Array GenState} {t' : Nat} {d' : Drawn} {ch : List Addr} (I : Inv X pins σ H s)
    (hch : ∀ b ∈ ch, (b ∈ X.ex ∨ X.s_0.heap.objs.size ≤ b) ∧ b ≠ X.env.locals ∧ (∀ x c, X.env.cells.lookup x = some c → c ≠ b) ∧ ∀ p ∈ X.pn ++ pins, p.1 ≠ b)
    (keep : ∀ b o, b ≠ X.env.locals → b ∉ X.fs → b ∉ ch → s.heap.get? b = some o → H b = none → h'.get? b = some o)
    (slot : ∀ b o, b ≠ X.env.locals → b ∈ X.fs → b ∉ ch → s.heap.get? b = some o → H b = none → ∃ sl, h'.get? b = some { o with slots := sl }) (free : ∀ b o, b ∉ ch → s.heap.get? b = some o → H b = none → H' b = none)
    (there : ∀ b o, b ∉ ch → s.heap.get? b = some o → ∃ o', h'.get? b = some o')
    (tups : ∀ b xs, H b = some (.tup xs) → H' b = some (.tup xs)) (frzs : ∀ b o u, H b = some (.frz o u) → H' b = some (.frz o u)) (tbls : ∀ b ps, H b = some (.tbl ps) → ∃ more, H' b = some (.tbl (ps ++ more)))
    (ns : ∀ m, s.heap.Ns X.env.locals m → h'.Ns X.env.locals m) (hok : HOk X.prog X.w H' h') (hg : AllBare g') :
    Inv X pins σ H' { s with heap := h', gens := g', drawn := d', toks := t' } := by
  have neL : ∀ b o, X.s_0.heap.get? b = some o → b ≠ X.env.locals := fun b o e => Nat.ne_of_lt (Nat.lt_of_lt_of_le (Heap.lt_size e) I.ok.above)
  have neC : ∀ b o, X.s_0.heap.get? b = some o → b ∉ X.ex → b ∉ ch := fun b o e hx hb => by
    rcases (hch b hb).1 with z | z
    · exact hx z
    · exact absurd (Nat.lt_of_lt_of_le (Heap.lt_size e) z) (Nat.lt_irrefl _)
  have cellK : ∀ x c, X.env.cells.lookup x = some c → ∀ v, s.heap.IsCell c v → h'.IsCell c v := fun x c e v ⟨o, ho, hd⟩ => by
    have nch : c ∉ ch := fun z => (hch c z).2.2.1 x c e rfl
    by_cases hc : c ∈ X.fs
    · obtain ⟨sl, q⟩ := slot c o (I.cne x c e) hc nch ho (I.freeC x c e)
      exact ⟨_, q, hd⟩
    · exact ⟨o, keep c o (I.cne x c e) hc nch ho (I.freeC x c e), hd⟩
  refine ⟨I.ok, I.os, hg, ⟨fun b o e n hb hx => ?_, fun b o e n hb hx => ?_, fun b o e n hx => ?_, fun b o e hx => ?_, fun b xs e => tups b xs (I.base.tups b xs e), fun b o xs e => frzs b o xs (I.base.frzs b o xs e), fun b ps e => ?_⟩, ?_, fun x c e => ?_, ?_, fun x c e => ?_, fun p hp => ?_, hok, I.len⟩
  · exact keep b o (neL b o e) hb (neC b o e hx) (I.base.keep b o e n hb hx) (I.base.free b o e n hx)
  · obtain ⟨sl, e1⟩ := I.base.slot b o e n hb hx
    obtain ⟨sl', e2⟩ := slot b _ (neL b o e) hb (neC b o e hx) e1 (I.base.free b o e n hx)
    exact ⟨sl', e2⟩
  · obtain ⟨o', e1⟩ := I.base.there b o e hx
    exact free b o' (neC b o e hx) e1 (I.base.free b o e n hx)
  · obtain ⟨o', e1⟩ := I.base.there b o e hx
    exact there b o' (neC b o e hx) e1
  · obtain ⟨m1, e1⟩ := I.base.tbls b ps e
    obtain ⟨m2, e2⟩ := tbls b _ e1
    exact ⟨m1 ++ m2, by rw [e2, Array.append_assoc]⟩
  · obtain ⟨m, hn, hl⟩ := I.loc
    refine ⟨m, ns m hn, fun i x v e1 e2 e3 => ?_⟩
    obtain ⟨u, r, l⟩ := hl i x v e1 e2 e3
    refine ⟨u, r, ?_⟩
    rcases l with l | ⟨k, c, e, z⟩
    · exact .inl l
    · exact .inr ⟨k, c, e, cellK x c e _ z⟩
  · obtain ⟨v, z⟩ := I.cell x c e
    exact ⟨v, cellK x c e v z⟩
  · obtain ⟨m, ⟨o, _, _, ho, _⟩, _⟩ := I.loc
    exact free _ o (fun z => (hch _ z).2.1 rfl) ho I.free
  · obtain ⟨v, o, ho, hd⟩ := I.cell x c e
    exact free c o (fun z => (hch c z).2.2.1 x c e rfl) ho (I.freeC x c e)
  · obtain ⟨e, n, ne, nf, d⟩ := I.pin p hp
    have nch : p.1 ∉ ch := fun z => (hch p.1 z).2.2.2 p hp rfl
    exact ⟨keep p.1 p.2 ne nf nch e n, free p.1 p.2 nch e n, ne, nf, d⟩
/-- .. where the frame's own object is kept too -/
theorem Inv.un {t' : Nat} (I : Inv X pins σ H s) (u : Un X.fs [] H H' s.heap h') (hok : HOk X.prog X.w H' h') : Inv X pins σ H' { s with heap := h', toks := t' } := by
  obtain ⟨m, ⟨o, es, ep, ho, r⟩, _⟩ := id I.loc
  obtain ⟨sl, hL⟩ := u.any ho I.free (by simp)
  exact I.step (g' := s.gens) (d' := s.drawn) (ch := []) (fun _ z => nomatch z) (fun b o _ hb _ e n => u.keep b o e n hb (by simp)) (fun b o _ hb _ e n => u.slot b o e n hb (by simp)) (fun b o _ e n => u.free b o e n (by simp)) (fun b o _ e => u.there b o e (by simp)) u.tups u.frzs u.tbls (fun m' hm => by
    obtain ⟨o', es', ep', ho', r'⟩ := hm
    rw [ho] at ho'; cases ho'
    exact ⟨_, es', ep', hL, r'⟩) hok I.bare
/-- behind a call (or a comprehension's block): the slots of this frame may have changed too, the records at ch may have turned -/
theorem Inv.call {g' : Array GenState} {t' : Nat} {d' : Drawn} {ch : List Addr} (I : Inv X pins σ H s) (u : Un (frs X.stack) ch H H' s.heap h') (hok : HOk X.prog X.w H' h') (hg : AllBare g')
    (hch : ∀ b ∈ ch, (b ∈ X.ex ∨ X.s_0.heap.objs.size ≤ b) ∧ b ≠ X.env.locals ∧ (∀ x c, X.env.cells.lookup x = some c → c ≠ b) ∧ ∀ p ∈ X.pn ++ pins, p.1 ≠ b) :
    Inv X pins σ H' { s with heap := h', gens := g', drawn := d', toks := t' } := by
  obtain ⟨m, ⟨o, es, ep, ho, r⟩, _⟩ := id I.loc
  obtain ⟨sl, hL⟩ := u.any ho I.free fun z => (hch _ z).2.1 rfl
  exact I.step (ch := ch) hch (fun b o hL hb hc e n => u.keep b o e n (fun z => (List.mem_cons.mp (I.stkSub b z)).elim hL hb) hc) (fun b o _ _ hc e n => u.any e n hc) (fun b o hc e n => u.free b o e n hc) (fun b o hc e => u.there b o e hc) u.tups u.frzs u.tbls (fun m' hm => by
    obtain ⟨o', es', ep', ho', r'⟩ := hm
    rw [ho] at ho'; cases ho'
    exact ⟨_, es', ep', hL, r'⟩) hok hg
/-- an untracked record of ours (an iterator) has turned -/
theorem Inv.turned {t' : Nat} {it : Addr} (I : Inv X pins σ H s) (k : ∀ b o, b ≠ it → s.heap.get? b = some o → h'.get? b = some o) (hn : H it = none) (hL : it ≠ X.env.locals)
    (h1 : it ∈ X.ex ∨ X.s_0.heap.objs.size ≤ it) (h2 : ∀ x c, X.env.cells.lookup x = some c → c ≠ it) (h3 : ∀ p ∈ X.pn ++ pins, p.1 ≠ it) : Inv X pins σ H { s with heap := h', toks := t' } := by
  have nit : ∀ b u, H b = some u → b ≠ it := fun b u e z => by rw [z, hn] at e; cases e
  refine I.step (g' := s.gens) (d' := s.drawn) (ch := [it]) (fun b hb => ?_) (fun b o _ _ hc e _ => k b o (fun z => hc (by simp [z])) e) (fun b o _ _ hc e _ => ⟨o.slots, k b o (fun z => hc (by simp [z])) e⟩) (fun _ _ _ _ n => n)
    (fun b o hc e => ⟨o, k b o (fun z => hc (by simp [z])) e⟩) (fun _ _ e => e) (fun _ _ _ e => e) (fun b ps e => ⟨#[], by rw [e]; simp⟩) (fun m hm => ?_) (fun b u e => ?_) I.bare
  · have e : b = it := by simpa using hb
    subst e
    exact ⟨h1, hL, h2, h3⟩
  · obtain ⟨o, es, ep, ho, r⟩ := hm
    exact ⟨o, es, ep, k _ o (Ne.symm hL) ho, r⟩
  · refine (I.hok b u e).stay (fun c v hc q => k c v ?_ q) (fun _ q => q) fun _ _ q => q
    rcases hc with z | z
    · rw [z]; exact nit b u e
    · exact nit c _ z
theorem Inv.tok (I : Inv X pins σ H s) (t : Nat) : Inv X pins σ H { s with toks := t } := I.un (h' := s.heap) (t' := t) Un.refl I.hok
/-- all objects kept -/
theorem Inv.kept {t' : Nat} (I : Inv X pins σ H s) (k : ∀ b u, s.heap.get? b = some u → h'.get? b = some u) : Inv X pins σ H { s with heap := h', toks := t' } := I.un (Un.kept k) (I.hok.kept k)
/-- a new object laid and tracked -/
theorem Inv.laid {a : Addr} {o : HO} {t' : Nat} (I : Inv X pins σ H s) (k : ∀ b u, s.heap.get? b = some u → h'.get? b = some u) (hp : s.heap.objs.size ≤ a) (new : ObjOk X.prog X.w (upd H a o) h' a o) :
    Inv X pins σ (upd H a o) { s with heap := h', toks := t' } := I.un (Un.laid k hp (I.hok.fresh hp)) (I.hok.laid k hp new)
/-- an object written -/
theorem Inv.write {x e : Addr} {o : HO} {t' : Nat} (I : Inv X pins σ H s) (mu : Mut (H x)) (he : e = x ∨ H e = some (.own x)) (k : ∀ b u, b ≠ e → s.heap.get? b = some u → h'.get? b = some u) (heo : ∃ u, h'.get? e = some u)
    (new : ObjOk X.prog X.w (upd H x o) h' x o) : Inv X pins σ (upd H x o) { s with heap := h', toks := t' } := I.un (Un.write mu he k heo) (I.hok.write mu he k heo new)
/-- forgetting slots, pins -/
theorem Inv.weak {σ' : List (Option V)} (I : Inv X pins σ H s) (hl : σ'.length = σ.length) (w : ∀ (i : Nat) v, σ'[i]? = some (some v) → σ[i]? = some (some v)) : Inv X pins σ' H s :=
  ⟨I.ok, I.os, I.bare, I.base, let ⟨m, hn, hl'⟩ := I.loc; ⟨m, hn, fun i x v e1 e2 e3 => hl' i x v e1 (w i v e2) e3⟩, I.cell, I.free, I.freeC, I.pin, I.hok, hl.trans I.len⟩
theorem Inv.pins_of {pins' : List (Addr × Obj)} (I : Inv X pins σ H s) (h : ∀ p ∈ pins', s.heap.get? p.1 = some p.2 ∧ H p.1 = none ∧ p.1 ≠ X.env.locals ∧ p.1 ∉ X.fs ∧ ∀ v, p.2.data ≠ .cell v) : Inv X pins' σ H s :=
  ⟨I.ok, I.os, I.bare, I.base, I.loc, I.cell, I.free, I.freeC, fun p hp => (List.mem_append.mp hp).elim (fun z => I.pin p (List.mem_append_left _ z)) (h p), I.hok, I.len⟩

theorem nodup_ix {N : List Str} (hN : N.Nodup) {i j : Nat} {x : Str} (a : N[i]? = some x) (b : N[j]? = some x) : i = j := by
  obtain ⟨h1, e1⟩ := List.getElem?_eq_some_iff.mp a
  obtain ⟨h2, e2⟩ := List.getElem?_eq_some_iff.mp b
  exact (List.getElem_inj hN).mp (e1.trans e2.symm)

/-- a name is stored; what changed -/
theorem store_ok2 {M : Model} {A : Around} {E : Value → Shared → Prop} {i : Nat} {x : Str} {v : V} {u : Value} {Q : Unit → Shared → Prop} (I : Inv X pins σ H s) (hN : X.N.Nodup) (hi : X.N[i]? = some x) (hx : Loc X.env.scope x) (r : RelV v u)
    (h : ∀ s', Inv X pins (σ.set i (some v)) H s' → (∃ a, Heap.SameBut a s.heap s'.heap ∧ (a = X.env.locals ∨ X.env.cells.lookup x = some a)) → Q () s') (hf : X.fn x = true ∨ X.env.scope.names.lookup x = some .local := by first | exact .inl rfl | exact .inr rfl | assumption) : wpAny M A (storeName X.env x u) Q E s := by
  obtain ⟨m, hn, hl⟩ := id I.loc
  have hcls : (X.env.scope.kind == .class || (X.env.scope.kind == .module && X.env.locals != X.env.globals)) = false := by rw [I.ok.kind]; rfl
  have hiσ : i < σ.length := by rw [I.len]; exact (List.getElem?_eq_some_iff.mp hi).1
  have cne := I.cne
  have tracked : ∀ {a : Addr} {h' : Heap}, (∃ o, s.heap.get? a = some o ∧ H a = none) → Heap.SameBut a s.heap h' → HOk X.prog X.w H h' := fun {a h'} ha hs b ob e => by
    obtain ⟨_, _, hfree⟩ := ha
    refine (I.hok b ob e).stay (fun c w' hc q => (hs.2 c ?_).trans q) (fun _ q => q) fun _ _ q => q
    rintro rfl
    rcases hc with rfl | hc
    · rw [hfree] at e; cases e
    · rw [hfree] at hc; cases hc
  rcases hx with hk | hk
  · refine wpAny_storeName_local hk hn (fun h' hn' hs => ?_) hcls
    obtain ⟨oL, _, _, hoL, _⟩ := id hn
    refine h _ ⟨I.ok, I.os, I.bare, ⟨fun b o e n hb hx => ?_, fun b o e n hb hx => ?_, I.base.free, fun b o e hx => ?_, I.base.tups, I.base.frzs, I.base.tbls⟩, ⟨_, hn', fun j y v' e1 e2 e3 => ?_⟩, fun y c e => ?_, I.free, I.freeC, fun p hp => ?_, tracked ⟨oL, hoL, I.free⟩ hs, by simpa using I.len⟩ ⟨_, hs, .inl rfl⟩
    · exact (hs.2 b (Nat.ne_of_lt (Nat.lt_of_lt_of_le (Heap.lt_size e) I.ok.above))).trans (I.base.keep b o e n hb hx)
    · obtain ⟨sl, e1⟩ := I.base.slot b o e n hb hx
      exact ⟨sl, (hs.2 b (Nat.ne_of_lt (Nat.lt_of_lt_of_le (Heap.lt_size e) I.ok.above))).trans e1⟩
    · obtain ⟨o', e1⟩ := I.base.there b o e hx
      exact ⟨o', (hs.2 b (Nat.ne_of_lt (Nat.lt_of_lt_of_le (Heap.lt_size e) I.ok.above))).trans e1⟩
    · by_cases hj : j = i
      · subst hj
        rw [hi] at e1; cases e1
        rw [List.getElem?_set_self hiσ] at e2
        cases e2
        exact ⟨u, r, .inl ⟨hk, by simp⟩⟩
      · rw [List.getElem?_set_ne (Ne.symm hj)] at e2
        obtain ⟨u', r', q⟩ := hl j y v' e1 e2 e3
        refine ⟨u', r', ?_⟩
        rcases q with ⟨k, e⟩ | ⟨k, c, e, z⟩
        · refine .inl ⟨k, ?_⟩
          have : y ≠ x := fun e => hj (nodup_ix hN e1 (e ▸ hi))
          simp [this, e]
        · exact .inr ⟨k, c, e, z.sameBut hs (cne y c e)⟩
    · obtain ⟨w', z⟩ := I.cell y c e
      exact ⟨w', z.sameBut hs (cne y c e)⟩
    · obtain ⟨e, n, ne, nf, d⟩ := I.pin p hp
      exact ⟨(hs.2 p.1 ne).trans e, n, ne, nf, d⟩
  · have hfn : X.fn x = true := by
      rcases hf with z | z
      · exact z
      · rw [z] at hk; cases hk
    obtain ⟨c, hc⟩ := I.ok.has x (.inl hk)
    obtain ⟨w', z⟩ := I.cell x c hc
    refine wpAny_storeName_cell I.ok.kind hk hc z (fun h' hc' hs => ?_)
    obtain ⟨oc, hoc, hocd⟩ := id z
    refine h { s with heap := h' } ⟨I.ok, I.os, I.bare, ⟨fun b o e n hb hx => ?_, fun b o e n hb hx => ?_, I.base.free, fun b o e hx => ?_, I.base.tups, I.base.frzs, I.base.tbls⟩, ⟨m, hn.sameBut hs (Ne.symm (cne x c hc)), fun j y v' e1 e2 e3 => ?_⟩, fun y c' e => ?_, I.free, I.freeC, fun p hp => ?_, tracked ⟨oc, hoc, I.freeC x c hc⟩ hs, by simpa using I.len⟩ ⟨c, hs, .inr hc⟩
    · exact (hs.2 b (Nat.ne_of_lt (Nat.lt_of_lt_of_le (Heap.lt_size e) (I.ok.cab x c hfn hc)))).trans (I.base.keep b o e n hb hx)
    · obtain ⟨sl, e1⟩ := I.base.slot b o e n hb hx
      exact ⟨sl, (hs.2 b (Nat.ne_of_lt (Nat.lt_of_lt_of_le (Heap.lt_size e) (I.ok.cab x c hfn hc)))).trans e1⟩
    · obtain ⟨o', e1⟩ := I.base.there b o e hx
      exact ⟨o', (hs.2 b (Nat.ne_of_lt (Nat.lt_of_lt_of_le (Heap.lt_size e) (I.ok.cab x c hfn hc)))).trans e1⟩
    · by_cases hj : j = i
      · subst hj
        rw [hi] at e1; cases e1
        rw [List.getElem?_set_self hiσ] at e2
        cases e2
        exact ⟨u, r, .inr ⟨.inl hk, c, hc, hc'⟩⟩
      · rw [List.getElem?_set_ne (Ne.symm hj)] at e2
        obtain ⟨u', r', q⟩ := hl j y v' e1 e2 e3
        refine ⟨u', r', ?_⟩
        rcases q with q | ⟨k, c', e, z'⟩
        · exact .inl q
        · refine .inr ⟨k, c', e, z'.sameBut hs ?_⟩
          rintro rfl
          exact hj (nodup_ix hN e1 (I.ok.inj _ _ _ e hc ▸ hi))
    · by_cases hcc : c' = c
      · subst hcc; exact ⟨_, hc'⟩
      · obtain ⟨w2, z2⟩ := I.cell y c' e
        exact ⟨w2, z2.sameBut hs hcc⟩
    · obtain ⟨e, n, ne, nf, d⟩ := I.pin p hp
      refine ⟨(hs.2 p.1 ?_).trans e, n, ne, nf, d⟩
      intro q
      rw [q, hoc] at e
      have q' : oc = p.2 := Option.some.inj e
      exact d w' (by rw [← q']; exact hocd)
theorem store_ok {M : Model} {A : Around} {E : Value → Shared → Prop} {i : Nat} {x : Str} {v : V} {u : Value} {Q : Unit → Shared → Prop} (I : Inv X pins σ H s) (hN : X.N.Nodup) (hi : X.N[i]? = some x) (hx : Loc X.env.scope x) (r : RelV v u)
    (h : ∀ s', Inv X pins (σ.set i (some v)) H s' → Q () s') (hf : X.fn x = true ∨ X.env.scope.names.lookup x = some .local := by first | exact .inl rfl | exact .inr rfl | assumption) : wpAny M A (storeName X.env x u) Q E s :=
  store_ok2 I hN hi hx r (fun s' I' _ => h s' I') hf
/-- behind a call or a block, the state as it is -/
theorem Inv.call' {s' : Shared} {ch : List Addr} (I : Inv X pins σ H s) (ho : s'.os = s.os) (u : Un (frs X.stack) ch H H' s.heap s'.heap) (hok : HOk X.prog X.w H' s'.heap) (hg : AllBare s'.gens)
    (hch : ∀ b ∈ ch, (b ∈ X.ex ∨ X.s_0.heap.objs.size ≤ b) ∧ b ≠ X.env.locals ∧ (∀ x c, X.env.cells.lookup x = some c → c ≠ b) ∧ ∀ p ∈ X.pn ++ pins, p.1 ≠ b) : Inv X pins σ H' s' := by
  obtain ⟨h', g', d', t', o'⟩ := s'
  have e : o' = s.os := ho
  subst e
  exact I.call (g' := g') (t' := t') (d' := d') u hok hg hch
end

/-! ### the judgements -/
/-- an exception: its class, its own dict's address (where it has one), the abstract heap behind it -/
abbrev XK := Value → Option Addr → Hp → Prop
abbrev St := List (Option V)
abbrev VK := V → Hp → Prop
/-- an expression's reading; a test's; an argument list's -/
abbrev TE := St → Hp → VK → Prop
abbrev TT := St → Hp → (Bool → Hp → Prop) → Prop
abbrev TA := St → Hp → (List V → Hp → Prop) → Prop
/-- what is wanted behind a statement -/
structure Ends where
  nx : St → Hp → Prop
  rt : VK
  bk : St → Hp → Prop := fun _ _ => False
  ct : St → Hp → Prop := fun _ _ => False
abbrev TS := Ends → St → Hp → Prop

def EP (X : Cx) (pins : List (Addr × Obj)) (σ : St) (Q : VK) (u : Value) (s' : Shared) : Prop := ∃ v H', Inv X pins σ H' s' ∧ RelV v u ∧ Q v H'
def TP (X : Cx) (pins : List (Addr × Obj)) (σ : St) (Q : Bool → Hp → Prop) (b : Bool) (s' : Shared) : Prop := ∃ H', Inv X pins σ H' s' ∧ Q b H'
def AP (X : Cx) (pins : List (Addr × Obj)) (σ : St) (Q : List V → Hp → Prop) (us : List Value) (s' : Shared) : Prop := ∃ vs H', Inv X pins σ H' s' ∧ Vals vs us ∧ Q vs H'
def SP (X : Cx) (pins : List (Addr × Obj)) (D : Ends) (f : Flow) (s' : Shared) : Prop :=
  match f with
  | .next => ∃ σ' H', Inv X pins σ' H' s' ∧ D.nx σ' H'
  | .brk => ∃ σ' H', Inv X pins σ' H' s' ∧ D.bk σ' H'
  | .cont => ∃ σ' H', Inv X pins σ' H' s' ∧ D.ct σ' H'
  | .ret u => ∃ v σ' H', Inv X pins σ' H' s' ∧ RelV v u ∧ D.rt v H'

def PE (X : Cx) (e : Expr) (t : TE) : Prop :=
  ∀ (pins : List (Addr × Obj)) (s : Shared) (σ : St) (H : Hp) (Q : VK), Inv X pins σ H s → t σ H Q → wpAny (model X.prog X.w) X.A (eval e X.env) (EP X pins σ Q) X.xe s
def PT (X : Cx) (e : Expr) (t : TT) : Prop :=
  ∀ (pins : List (Addr × Obj)) (s : Shared) (σ : St) (H : Hp) (Q : Bool → Hp → Prop), Inv X pins σ H s → t σ H Q → wpAny (model X.prog X.w) X.A (isTrue e X.env (eval e X.env)) (TP X pins σ Q) X.xe s
/-- a test whatever its 'whole' is (and, or) -/
def PW (X : Cx) (e : Expr) (t : TT) : Prop :=
  ∀ (whole : Sem Value) (pins : List (Addr × Obj)) (s : Shared) (σ : St) (H : Hp) (Q : Bool → Hp → Prop), Inv X pins σ H s → t σ H Q → wpAny (model X.prog X.w) X.A (isTrue e X.env whole) (TP X pins σ Q) X.xe s
theorem PW.pt {X : Cx} {e : Expr} {t : TT} (h : PW X e t) : PT X e t := h _
/-- an argument list (no star), from the left -/
def PA (X : Cx) (es : List Expr) (t : TA) : Prop :=
  ∀ (pos : Pos) (pins : List (Addr × Obj)) (s : Shared) (σ : St) (H : Hp) (Q : List V → Hp → Prop), Inv X pins σ H s → t σ H Q → wpAny (model X.prog X.w) X.A (spliced (backTo pos (starEach es X.env))) (AP X pins σ Q) X.xe s
def PS (X : Cx) (st : Stmt) (t : TS) : Prop :=
  ∀ (pins : List (Addr × Obj)) (s : Shared) (σ : St) (H : Hp) (D : Ends), Inv X pins σ H s → t D σ H → wpAny (model X.prog X.w) X.A (exec st X.env) (SP X pins D) X.xe s
def PSs (X : Cx) (st : List Stmt) (t : TS) : Prop :=
  ∀ (pins : List (Addr × Obj)) (s : Shared) (σ : St) (H : Hp) (D : Ends), Inv X pins σ H s → t D σ H → wpAny (model X.prog X.w) X.A (execs st X.env) (SP X pins D) X.xe s
/-- weaken the end -/
theorem thn {α : Type} {t : Sem α} {Q Q' : α → Shared → Prop} {M : Model} {A : Around} {E : Value → Shared → Prop} {s : Shared} (h : wpAny M A t Q E s) (hQ : ∀ a s, Q a s → Q' a s) : wpAny M A t Q' E s := wpAny_mono h hQ fun _ _ x => x
end L2

namespace L2
open PySem PySem.Spec PyProof.Rows
section
variable {X : Cx}

/-! ### names and constants -/
def tVar (i : Nat) : TE := fun σ H Q => ∃ v, σ[i]? = some (some v) ∧ Q v H
def tC (v : V) : TE := fun _ H Q => Q v H
theorem pe_var {i : Nat} {x : Str} {pos : Pos} (hN : X.N[i]? = some x) (hv : Vis X.env.scope x) (hd : (x == ("__debug__" : Str)) = false := by decide) (hcd : (x == ("__classdict__" : Str)) = false := by decide) : PE X (.Name x pos) (tVar i) := by
  intro pins s σ H Q I h
  obtain ⟨v, e, h⟩ := h
  obtain ⟨m, hn, hl⟩ := I.loc
  obtain ⟨u, r, l⟩ := hl i x v hN e hv
  have fin : EP X pins σ Q u s := ⟨v, H, I, r, h⟩
  rcases l with ⟨hk, hm⟩ | ⟨hk, c, hc, hcell⟩
  · exact wpAny_Name (wpAny_loadName_local I.ok.kind hk hn hm fin) hd
  · rcases hk with hk | hk
    · exact wpAny_Name (wpAny_loadName_cell I.ok.kind hk hc hcell fin) hd
    · exact wpAny_Name (wpAny_loadName_free I.ok.kind hk hc hcell fin hcd) hd
theorem pe_int {i j pos} : PE X (.Constant (.int i) j pos) (tC (.int i)) := fun _ _ _ H _ I h => wpAny_Constant_int ⟨.int i, H, I.tok _, ⟨_, rfl⟩, h⟩
theorem pe_bl {b j pos} : PE X (.Constant (.bool b) j pos) (tC (.bl b)) := fun _ _ _ H _ I h => Constant_bool ⟨.bl b, H, I, rfl, h⟩

/-- a global name of the def -/
def Gl (X : Cx) (x : Str) : Prop := X.env.kindOf x = some .globalImplicit
theorem ld_glob {E : Value → Shared → Prop} {pins : List (Addr × Obj)} {s : Shared} {σ : St} {H : Hp} {x : Str} {u : Value} {pos : Pos} {Q : Value → Shared → Prop} (I : Inv X pins σ H s) (hg : Gl X x) (hm : X.mg x = some u) (h : Q u s)
    (hd : (x == ("__debug__" : Str)) = false := by decide) : wpAny (model X.prog X.w) X.A (eval (.Name x pos) X.env) Q E s :=
  Calls.Name_function_global I.ok.kind hg (Calls.loadGlobal_global (by rw [I.ok.glob]; exact I.mod.glob.keeps I.bk) hm h) hd
theorem ld_blt {E : Value → Shared → Prop} {pins : List (Addr × Obj)} {s : Shared} {σ : St} {H : Hp} {x : Str} {u : Value} {pos : Pos} {Q : Value → Shared → Prop} (I : Inv X pins σ H s) (hg : Gl X x) (hm : X.mg x = none) (hv : bootBuiltins x = some u) (h : Q u s)
    (hn : x ≠ "__name__" := by decide) (hd : (x == ("__debug__" : Str)) = false := by decide) : wpAny (model X.prog X.w) X.A (eval (.Name x pos) X.env) Q E s := by
  obtain ⟨mb, h1, h2⟩ := I.mod.blt
  exact Calls.Name_function_global I.ok.kind hg (Calls.loadGlobal_builtin (by rw [I.ok.glob]; exact I.mod.glob.keeps I.bk) hm (by rw [I.ok.blt]; exact h1.keeps I.bk) ((h2 x hn).trans hv) h) hd
/-- a module's constant, a class, a function, as a value -/
theorem pe_glob {x : Str} {v : V} {u : Value} {pos : Pos} (hg : Gl X x) (hm : X.mg x = some u) (r : RelV v u) (hd : (x == ("__debug__" : Str)) = false := by decide) : PE X (.Name x pos) (tC v) :=
  fun _ _ _ H _ I h => ld_glob I hg hm ⟨v, H, I, r, h⟩ hd

/-! ### arithmetic -/
variable {a b : Expr} {ta tb : TE} {pos : Pos}

/-! ### comparisons -/
/-- a comparison as a value, as a test -/
def tB (t : TE) : TT := fun σ H Q => t σ H fun x H1 => ∃ c, x = .bl c ∧ Q c H1
/-- an expression whose value is a bool, as a test -/
theorem pt_val {e : Expr} {t : TE} (h : PE X e t) (he : ∀ whole, isTrue e X.env whole = (do let v ← whole; standAt e.pos; holding [v] (truthy v)) := by intro _; rfl) : PT X e (tB t) := by
  intro pins s σ H Q I hw
  refine isTrue_plain (thn (h pins s σ H _ I hw) fun v s1 ⟨x, H1, I1, r1, q1⟩ => ?_) (he _)
  obtain ⟨d, rfl, q⟩ := q1
  cases r1
  exact wpAny_truthy_bool ⟨H1, I1, q⟩

/-! ### and, or, not -/
variable {tA tB' : TT} {rest : List Expr}
def tAnd (t u : TT) : TT := fun σ H Q => t σ H fun c H1 => if c = true then u σ H1 Q else Q false H1
def tOr (t u : TT) : TT := fun σ H Q => t σ H fun c H1 => if c = true then Q true H1 else u σ H1 Q
def tNot (t : TT) : TT := fun σ H Q => t σ H fun c H1 => Q (!c) H1
theorem pw_and1 (ha : PT X a tA) : PW X (.BoolOp .And [a] pos) tA := by
  intro wh pins s σ H Q I h
  refine isTrue_and (thn (ha pins s σ H Q I h) fun c s1 e => ?_)
  cases c with
  | true => exact isTrue_and_nil e
  | false => exact e
theorem pw_or1 (ha : PT X a tA) : PW X (.BoolOp .Or [a] pos) tA := by
  intro wh pins s σ H Q I h
  refine isTrue_or (thn (ha pins s σ H Q I h) fun c s1 e => ?_)
  cases c with
  | false => exact isTrue_or_nil e
  | true => exact e
theorem pw_and (ha : PT X a tA) (hb : PW X (.BoolOp .And (b :: rest) pos) tB') : PW X (.BoolOp .And (a :: b :: rest) pos) (tAnd tA tB') := by
  intro wh pins s σ H Q I h
  refine isTrue_and (thn (ha pins s σ H _ I h) fun c s1 ⟨H1, I1, q1⟩ => ?_)
  cases c with
  | true => exact hb wh pins s1 σ H1 Q I1 q1
  | false => exact ⟨H1, I1, q1⟩
theorem pw_or (ha : PT X a tA) (hb : PW X (.BoolOp .Or (b :: rest) pos) tB') : PW X (.BoolOp .Or (a :: b :: rest) pos) (tOr tA tB') := by
  intro wh pins s σ H Q I h
  refine isTrue_or (thn (ha pins s σ H _ I h) fun c s1 ⟨H1, I1, q1⟩ => ?_)
  cases c with
  | true => exact ⟨H1, I1, q1⟩
  | false => exact hb wh pins s1 σ H1 Q I1 q1
theorem pt_not (ha : PT X a tA) : PT X (.UnaryOp .Not a pos) (tNot tA) := by
  intro pins s σ H Q I h
  exact isTrue_not (ha pins s σ H (fun c H1 => Q (!c) H1) I h)
/-- .. as values (bools) -/
def tAndV (ta tb : TE) : TE := fun σ H Q => ta σ H fun x H1 => ∃ c, x = .bl c ∧ if c = true then tb σ H1 Q else Q (.bl false) H1
theorem pe_one {op} {t : TE} (h : PE X a t) : PE X (.BoolOp op [a] pos) t := fun pins s σ H Q I hw => BoolOp_one (h pins s σ H Q I hw)
theorem pe_and (ha : PE X a ta) (hb : PE X (.BoolOp .And (b :: rest) pos) tb) : PE X (.BoolOp .And (a :: b :: rest) pos) (tAndV ta tb) := by
  intro pins s σ H Q I h
  refine BoolOp_and (thn (ha pins s σ H _ I h) fun v s1 ⟨x, H1, I1, r1, q1⟩ => ?_)
  obtain ⟨c, rfl, q1⟩ := q1
  cases r1
  refine wpAny_truthy_bool ?_
  cases c with
  | true => exact hb pins s1 σ H1 Q I1 q1
  | false => exact ⟨.bl false, H1, I1, rfl, q1⟩
/-- a if t else b -/
def tIf (t : TT) (ta tb : TE) : TE := fun σ H Q => t σ H fun c H1 => if c = true then ta σ H1 Q else tb σ H1 Q
theorem pe_ifExp {c : Expr} (hc : PT X c tA) (ha : PE X a ta) (hb : PE X b tb) : PE X (.IfExp c a b pos) (tIf tA ta tb) := by
  intro pins s σ H Q I h
  refine wpAny_IfExp (thn (hc pins s σ H _ I h) fun d s1 ⟨H1, I1, q1⟩ => ?_)
  cases d with
  | true => exact ha pins s1 σ H1 Q I1 q1
  | false => exact hb pins s1 σ H1 Q I1 q1
end
end L2

namespace L2
open PySem PySem.Spec PyProof.Rows

/-! ### a list, a tuple that is read: tracked, frozen, or an object of the module -/
def SqL (K : PySem.W.Frag) (H : Hp) (a : Addr) (xs : List V) : Prop :=
  Rd H a (.lst xs) ∨
    ∃ (o : Obj) (its : Array Value) (n : Nat), K.lookup a = some o ∧ o.cls = .type "list" ∧ o.dict = none ∧ o.data = .seq its n ∧ its.size ≤ sizeLine ∧ Vals xs its.toList
def SqT (K : PySem.W.Frag) (H : Hp) (a : Addr) (xs : List V) : Prop :=
  Rd H a (.tup xs) ∨
    ∃ (o : Obj) (its : Array Value) (n : Nat), K.lookup a = some o ∧ o.cls = .type "tuple" ∧ o.data = .seq its n ∧ its.size ≤ sizeLine ∧ Vals xs its.toList
def absV : Value → Option V
  | .none => some .non
  | .bool b => some (.bl b)
  | .int i _ => some (.int i)
  | .str x _ => some (.str x)
  | .bytes b _ => some (.byt b)
  | .float b _ => some (.flt b)
  | .ref a => some (.ref a)
  | .type n => some (.ty n)
  | _ => none
theorem RelV.abs {x : V} {u : Value} (r : RelV x u) : absV u = some x := by
  cases x with
  | non => cases r; rfl
  | bl _ => cases r; rfl
  | int _ => obtain ⟨t, rfl⟩ := r; rfl
  | str _ => obtain ⟨t, rfl⟩ := r; rfl
  | byt _ => obtain ⟨t, rfl⟩ := r; rfl
  | flt _ => obtain ⟨t, rfl⟩ := r; rfl
  | ref _ => cases r; rfl
  | ty _ => cases r; rfl
theorem RelV.inj {x y : V} {u : Value} (r : RelV x u) (q : RelV y u) : x = y := Option.some.inj (r.abs.symm.trans q.abs)
theorem Vals.inj : ∀ {xs ys : List V} {us : List Value}, Vals xs us → Vals ys us → xs = ys
  | _, _, _, .nil, .nil => rfl
  | _, _, _, .cons r t, .cons r' t' => by rw [r.inj r', Vals.inj t t']
section
variable {X : Cx} {pins : List (Addr × Obj)} {σ : St} {H : Hp} {s : Shared} {a : Addr} {xs ys : List V}
theorem SqL.of {K : PySem.W.Frag} (h : H a = some (.lst xs)) : SqL K H a xs := .inl (.inl h)
theorem SqT.of {K : PySem.W.Frag} (h : H a = some (.tup xs)) : SqT K H a xs := .inl (.inl h)
theorem Inv.list (I : Inv X pins σ H s) (h : SqL X.K H a xs) : ∃ its : List Value, Vals xs its ∧ PlainL s.heap a its.toArray ∧ xs.length ≤ sizeLine := by
  rcases h with h | ⟨o, its, n, hk, hc, hd, hs, hz, r⟩
  · obtain ⟨z, its, n, r, e⟩ := h.ok I.hok
    exact ⟨its, r, ⟨_, n, e, rfl, rfl, rfl⟩, z⟩
  · refine ⟨its.toList, r, ⟨o, n, I.kIn a o hk, hc, hd, by simpa using hs⟩, ?_⟩
    have e := r.length
    simp only [Array.length_toList] at e
    omega
theorem Inv.tuple (I : Inv X pins σ H s) (h : SqT X.K H a xs) : ∃ its : List Value, Vals xs its ∧ IsTup s.heap a its.toArray ∧ xs.length ≤ sizeLine := by
  rcases h with h | ⟨o, its, n, hk, hc, hs, hz, r⟩
  · obtain ⟨z, its, r, p⟩ := h.ok I.hok
    exact ⟨its, r, p, z⟩
  · refine ⟨its.toList, r, ⟨o, I.kIn a o hk, hc, n, by simpa using hs⟩, ?_⟩
    have e := r.length
    simp only [Array.length_toList] at e
    omega
theorem Inv.list_inj (I : Inv X pins σ H s) (h : SqL X.K H a xs) (h' : SqL X.K H a ys) : xs = ys := by
  obtain ⟨its, r, ⟨o, n, e, _, _, d⟩, _⟩ := I.list h
  obtain ⟨its', r', ⟨o', n', e', _, _, d'⟩, _⟩ := I.list h'
  rw [e] at e'; cases e'
  rw [d] at d'
  injection d' with d1 _
  have : its = its' := by simpa using congrArg Array.toList d1
  subst this
  exact r.inj r'
end

/-! ### another wish about exceptions -/
abbrev Cx.wish (X : Cx) (E : Value → Shared → Prop) : Cx := { X with xe := E }
/-- no exception leaves -/
abbrev Cx.nox (X : Cx) : Cx := X.wish fun _ _ => False
theorem Cx.Ok.wish {X : Cx} (ok : X.Ok) (E : Value → Shared → Prop) : (X.wish E).Ok :=
  ⟨ok.mod, ok.kind, ok.glob, ok.blt, ok.above, ok.inj, ok.has, ok.cab, ok.hd, ok.frames, ok.stk, ok.exf, ok.bs, ok.bsz, ok.noex, ok.exfs, ok.funs, ok.frf⟩
theorem Cx.Ok.unwish {X : Cx} {E : Value → Shared → Prop} (ok : (X.wish E).Ok) : X.Ok :=
  ⟨ok.mod, ok.kind, ok.glob, ok.blt, ok.above, ok.inj, ok.has, ok.cab, ok.hd, ok.frames, ok.stk, ok.exf, ok.bs, ok.bsz, ok.noex, ok.exfs, ok.funs, ok.frf⟩
section
variable {X : Cx} {pins : List (Addr × Obj)} {σ : St} {H : Hp} {s : Shared} {E : Value → Shared → Prop}
theorem Inv.wish (I : Inv X pins σ H s) (E : Value → Shared → Prop) : Inv (X.wish E) pins σ H s := ⟨I.ok.wish E, I.os, I.bare, I.base, I.loc, I.cell, I.free, I.freeC, I.pin, I.hok, I.len⟩
theorem Inv.unwish (I : Inv (X.wish E) pins σ H s) : Inv X pins σ H s := ⟨I.ok.unwish, I.os, I.bare, I.base, I.loc, I.cell, I.free, I.freeC, I.pin, I.hok, I.len⟩
theorem SP.unwish {D : Ends} {f : Flow} {s' : Shared} (h : SP (X.wish E) pins D f s') : SP X pins D f s' := by
  cases f with
  | next => obtain ⟨σ', H', I, q⟩ := h; exact ⟨σ', H', I.unwish, q⟩
  | brk => obtain ⟨σ', H', I, q⟩ := h; exact ⟨σ', H', I.unwish, q⟩
  | cont => obtain ⟨σ', H', I, q⟩ := h; exact ⟨σ', H', I.unwish, q⟩
  | ret u => obtain ⟨v, σ', H', I, r, q⟩ := h; exact ⟨v, σ', H', I.unwish, r, q⟩
theorem PSs.nox {st : List Stmt} {t : TS} (h : PSs X.nox st t) : PSs X st t := fun pins s σ H D I hw =>
  wpAny_mono (h pins s σ H D (I.wish _) hw) (fun _ _ q => q.unwish) fun _ _ z => False.elim z
end

/-! ### blocks and small statements -/
section
variable {X : Cx} {st : Stmt} {rest : List Stmt} {t u : TS} {e : Expr} {te : TE} {pos : Pos}
def tNext : TS := fun D σ H => D.nx σ H
def tSeq (t u : TS) : TS := fun D σ H => t { D with nx := u D } σ H
theorem pss_nil : PSs X [] tNext := fun _ _ σ H _ I h => wpAny_execs_nil ⟨σ, H, I, h⟩
theorem pss_cons (h1 : PS X st t) (h2 : PSs X rest u) : PSs X (st :: rest) (tSeq t u) := by
  intro pins s σ H D I h
  refine wpAny_execs_cons (thn (h1 pins s σ H { D with nx := u D } I h) fun f s1 q => ?_)
  cases f with
  | next =>
    obtain ⟨σ', H', I', q⟩ := q
    exact h2 pins s1 σ' H' D I' q
  | ret v => exact q
  | brk => exact q
  | cont => exact q
theorem pss_one (h1 : PS X st t) : PSs X [st] t := by
  intro pins s σ H D I h
  refine wpAny_execs_cons (thn (h1 pins s σ H D I h) fun f s1 q => ?_)
  cases f with
  | next => exact wpAny_execs_nil q
  | ret v => exact q
  | brk => exact q
  | cont => exact q
/-- in a def's body nothing is shown -/
theorem Inv.quiet {pins : List (Addr × Obj)} {σ : St} {H : Hp} {s : Shared} (I : Inv X pins σ H s) : interactive X.env = false := by simp [interactive, I.ok.kind]
/-- an expression whose value is dropped -/
def tDrop (te : TE) : TS := fun D σ H => te σ H fun _ H1 => D.nx σ H1
theorem ps_expr (he : PE X e te) (hs : swapsWith e none pos.line X.env = pure false := by rfl) : PS X (.Expr e pos) (tDrop te) := by
  intro pins s σ H D I h
  exact wpAny_Expr_any (thn (he pins s σ H _ I h) fun v s1 ⟨x, H1, I1, r1, q1⟩ => ⟨σ, H1, I1, q1⟩) I.quiet hs
def tRet (te : TE) : TS := fun D σ H => te σ H D.rt
theorem ps_ret (he : PE X e te) : PS X (.Return (some e) pos) (tRet te) := by
  intro pins s σ H D I h
  exact wpAny_Return_some (thn (he pins s σ H _ I h) fun v s1 ⟨x, H1, I1, r1, q1⟩ => ⟨x, σ, H1, I1, r1, q1⟩)
def tIfS (c : TT) (t u : TS) : TS := fun D σ H => c σ H fun b H1 => if b = true then t D σ H1 else u D σ H1
theorem ps_if {c : Expr} {a b : List Stmt} {tc : TT} (hc : PT X c tc) (ha : PSs X a t) (hb : PSs X b u) : PS X (.If c a b pos) (tIfS tc t u) := by
  intro pins s σ H D I h
  refine wpAny_If (thn (hc pins s σ H _ I h) fun d s1 ⟨H1, I1, q1⟩ => ?_)
  cases d with
  | true => exact ha pins s1 σ H1 D I1 q1
  | false => exact hb pins s1 σ H1 D I1 q1
end

/-! ### targets -/
abbrev TG := V → St → Hp → (St → Hp → Prop) → Prop
abbrev TGs := List V → St → Hp → (St → Hp → Prop) → Prop
def PG (X : Cx) (target : Expr) (t : TG) : Prop :=
  ∀ (pins : List (Addr × Obj)) (s : Shared) (σ : St) (H : Hp) (v : V) (u : Value) (Q : St → Hp → Prop), Inv X pins σ H s → RelV v u → t v σ H Q →
    wpAny (model X.prog X.w) X.A (assign target X.env u) (fun _ s' => ∃ σ' H', Inv X pins σ' H' s' ∧ Q σ' H') X.xe s
/-- several targets, one after another -/
def PGs (X : Cx) (ts : List Expr) (t : TGs) : Prop :=
  ∀ (pins : List (Addr × Obj)) (s : Shared) (σ : St) (H : Hp) (vs : List V) (us : List Value) (Q : St → Hp → Prop), Inv X pins σ H s → Vals vs us → t vs σ H Q →
    wpAny (model X.prog X.w) X.A (assignInOrder ((assignEach ts X.env).map (·.2)) us) (fun _ s' => ∃ σ' H', Inv X pins σ' H' s' ∧ Q σ' H') X.xe s
/-- o[i] = v, by values -/
abbrev TSet := V → V → V → Hp → (Hp → Prop) → Prop
def PSet (X : Cx) (t : TSet) : Prop :=
  ∀ (pins : List (Addr × Obj)) (s : Shared) (σ : St) (H : Hp) (o i v : V) (ov iv u : Value) (Q : Hp → Prop), Inv X pins σ H s → RelV o ov → RelV i iv → RelV v u → t o i v H Q →
    wpAny (model X.prog X.w) X.A (setItem ov iv u) (fun _ s' => ∃ H', Inv X pins σ H' s' ∧ Q H') X.xe s
section
variable {X : Cx} {pos : Pos}
def gName (i : Nat) : TG := fun v σ H Q => Q (σ.set i (some v)) H
theorem pg_name {i : Nat} {x : Str} (hN : X.N.Nodup) (hi : X.N[i]? = some x) (hx : Loc X.env.scope x) (hf : X.fn x = true ∨ X.env.scope.names.lookup x = some .local := by first | exact .inl rfl | exact .inr rfl | assumption) : PG X (.Name x pos) (gName i) := by
  intro pins s σ H v u Q I r h
  exact wpAny_assign_Name (store_ok I hN hi hx r (fun s' I' => ⟨_, H, I', h⟩) hf)
def gNil : TGs := fun vs σ H Q => vs = [] ∧ Q σ H
def gCons (t : TG) (u : TGs) : TGs := fun vs σ H Q => ∃ v r, vs = v :: r ∧ t v σ H fun σ' H' => u r σ' H' Q
theorem pgs_nil : PGs X [] gNil := by
  intro pins s σ H vs us Q I r h
  obtain ⟨e, h⟩ := h
  subst e
  cases r
  exact assignInOrder_nil ⟨σ, H, I, h⟩
theorem pgs_cons {e : Expr} {es : List Expr} {t : TG} {u : TGs} (h1 : PG X e t) (h2 : PGs X es u)
    (hs : (assignEach (e :: es) X.env).map (·.2) = assign e X.env :: (assignEach es X.env).map (·.2) := by rfl) : PGs X (e :: es) (gCons t u) := by
  intro pins s σ H vs us Q I r h
  obtain ⟨v, vr, e1, h⟩ := h
  subst e1
  cases r with
  | cons r rr =>
    rw [hs]
    refine assignInOrder_cons (thn (h1 pins s σ H _ _ _ I r h) fun _ s1 ⟨σ1, H1, I1, q1⟩ => ?_)
    exact h2 pins s1 σ1 H1 _ _ Q I1 rr q1
/-- (a, b, ..) = a tuple of that length -/
def gTup (K : PySem.W.Frag) (n : Nat) (t : TGs) : TG := fun v σ H Q => ∃ a xs, v = .ref a ∧ SqT K H a xs ∧ xs.length = n ∧ t xs σ H Q
theorem pg_tup {es : List Expr} {k : Nat} {t : TGs} {n : Nat} (hc : X.calm = true) (h : PGs X es t)
    (hn : (assignEach es X.env).length = n := by rfl) (hst : (assignEach es X.env).findIdx? (·.1) = none := by rfl) : PG X (.Tuple es k pos) (gTup X.K n t) := by
  intro pins s σ H v u Q I r hw
  obtain ⟨a, xs, e1, hq, hl, hw⟩ := hw
  subst e1
  cases r
  obtain ⟨its, rv, ht, hz⟩ := I.tuple hq
  refine assign_Tuple_tuple (I.ok.hd hc) ht (by simp [hn, ← hl, rv.length]) hst fun h' hx => ?_
  have I1 : Inv X pins σ H { s with heap := h' } := I.kept (t' := s.toks) fun b o e => hx b o (Nat.ne_of_lt (Heap.lt_size e)) e
  exact h pins _ σ H xs _ Q I1 (by simpa using rv) hw
/-- o[i] = .. -/
def gSub (to ti : TE) (t : TSet) : TG := fun v σ H Q => to σ H fun o H1 => ti σ H1 fun i H2 => t o i v H2 fun H3 => Q σ H3
theorem pg_sub {o i : Expr} {to ti : TE} {t : TSet} (ho : PE X o to) (hi : PE X i ti) (hs : PSet X t)
    (ha : ∀ v, assign (.Subscript o i pos) X.env v = (do
      let ov ← holding [v] (eval o X.env)
      let iv ← holding [v, ov] (eval i X.env)
      standAt pos
      holding [v, ov, iv] (setItem ov iv v)
      release [v, ov, iv] []) := by intro _; rfl) : PG X (.Subscript o i pos) (gSub to ti t) := by
  intro pins s σ H v u Q I r h
  rw [ha]
  refine wpAny_bind (wpAny_holding (thn (ho pins s σ H _ I h) fun ov s1 ⟨x, H1, I1, r1, q1⟩ => ?_))
  refine wpAny_bind (wpAny_holding (thn (hi pins s1 σ H1 _ I1 q1) fun iv s2 ⟨y, H2, I2, r2, q2⟩ => ?_))
  refine wpAny_bind (wpAny_standAt (wpAny_bind (wpAny_holding (thn (hs pins s2 σ H2 x y v ov iv u _ I2 r1 r2 r q2) fun _ s3 ⟨H3, I3, q3⟩ => ?_))))
  exact wpAny_release ⟨σ, H3, I3, q3⟩
/-- target = value -/
def tAsg (te : TE) (g : TG) : TS := fun D σ H => te σ H fun x H1 => g x σ H1 D.nx
theorem ps_asg {tg e : Expr} {te : TE} {g : TG} (he : PE X e te) (hg : PG X tg g) (hs : swapsWithSole [tg] e pos.line X.env = pure false := by rfl) (hw : swappedStores [tg] e X.env = pure none := by rfl)
    (h1 : (assignEach [tg] X.env).map (·.2) = [assign tg X.env] := by rfl) : PS X (.Assign [tg] e pos) (tAsg te g) := by
  intro pins s σ H D I h
  refine wpAny_Assign_stores (thn (he pins s σ H _ I h) fun v s1 ⟨x, H1, I1, r1, q1⟩ => ?_) hs hw
  rw [h1]
  exact thn (hg pins s1 σ H1 x v _ I1 r1 q1) fun _ s2 q => q
/-- name = value -/
theorem ps_set {i : Nat} {x : Str} {e : Expr} {te : TE} {pos' : Pos} (hN : X.N.Nodup) (hi : X.N[i]? = some x) (hx : Loc X.env.scope x) (he : PE X e te) (hs : swapsWith e (some (.Name x pos')) pos.line X.env = pure false := by rfl) (hf : X.fn x = true ∨ X.env.scope.names.lookup x = some .local := by first | exact .inl rfl | exact .inr rfl | assumption) :
    PS X (.Assign [.Name x pos'] e pos) (tAsg te (gName i)) := by
  intro pins s σ H D I h
  refine wpAny_Assign_Name (thn (he pins s σ H _ I h) fun v s1 ⟨y, H1, I1, r1, q1⟩ => ?_) hs
  exact store_ok I1 hN hi hx r1 (fun s2 I2 => ⟨_, H1, I2, q1⟩) hf
end

/-! ### while -/
section
variable {X : Cx} {pos : Pos}
/-- the invariant W with its measure -/
def tWhile (c : TT) (tb : TS) : TS := fun D σ H => ∃ W : Nat → St → Hp → Prop, (∃ m, W m σ H) ∧ ∀ m σ H, W m σ H →
  c σ H fun b H1 => if b = true then ∃ N : St → Hp → Prop, (∀ σ' H', N σ' H' → ∃ m', m' < m ∧ W m' σ' H') ∧ tb { D with nx := N, ct := N, bk := D.nx } σ H1 else D.nx σ H1
theorem ps_while {c : Expr} {body : List Stmt} {tc : TT} {tb : TS} (hp : PassesOwn (model X.prog X.w) X.A X.env X.xe) (hc : PT X c tc) (hb : PSs X body tb) : PS X (.While c body [] pos) (tWhile tc tb) := by
  intro pins s σ H D I h
  obtain ⟨W, ⟨m0, w0⟩, turn⟩ := h
  refine wpAny_While (codeAny_whileLoop (fun n s' => ∃ σ' H', Inv X pins σ' H' s' ∧ W n σ' H') ?_ m0 ⟨σ, H, I, w0⟩)
  rintro n s1 ⟨σ1, H1, I1, w1⟩
  refine wpAny_passesOwn hp (thn (hc pins s1 σ1 H1 _ I1 (turn n σ1 H1 w1)) fun b s2 ⟨H2, I2, q2⟩ => ?_)
  cases b with
  | true =>
    obtain ⟨N, hN, q2⟩ := q2
    rw [if_pos rfl]
    refine wpAny_passesOwn hp (thn (hb pins s2 σ1 H2 _ I2 q2) fun f s3 q3 => ?_)
    cases f with
    | next =>
      obtain ⟨σ3, H3, I3, n3⟩ := q3
      obtain ⟨m', hm, w3⟩ := hN σ3 H3 n3
      exact ⟨m', hm, σ3, H3, I3, w3⟩
    | cont =>
      obtain ⟨σ3, H3, I3, n3⟩ := q3
      obtain ⟨m', hm, w3⟩ := hN σ3 H3 n3
      exact ⟨m', hm, σ3, H3, I3, w3⟩
    | brk => exact q3
    | ret v => exact q3
  | false =>
    rw [if_neg Bool.false_ne_true]
    exact wpAny_execs_nil ⟨σ1, H2, I2, q2⟩
end

/-! ### what a loop or a comprehension walks -/
/-- at turn i: it yields x (the heap may grow), or it stops -/
structure It where
  go : Nat → Hp → Prop
  yld : Nat → Hp → V → Hp → Prop
  stop : Nat → Hp → Prop
/-- the iterator's own objects may turn: they are not the frame's, not pinned, younger than the entry (or a comprehension's own) -/
def FpOk (X : Cx) (pins : List (Addr × Obj)) (H : Hp) (b : Addr) : Prop :=
  H b = none ∧ b ≠ X.env.locals ∧ b ∉ X.fs ∧ (b ∈ X.ex ∨ X.s_0.heap.objs.size ≤ b) ∧ (∀ x c, X.env.cells.lookup x = some c → c ≠ b) ∧ ∀ p ∈ X.pn ++ pins, p.1 ≠ b
theorem Inv.fpOk {X : Cx} {pins : List (Addr × Obj)} {σ : St} {H H' : Hp} {s : Shared} {b : Addr} (I : Inv X pins σ H s) (hb : s.heap.objs.size ≤ b) (hn : H' b = none) : FpOk X pins H' b := by
  refine ⟨hn, Nat.ne_of_gt (Nat.lt_of_lt_of_le I.lt hb), I.nofs hb, .inr (Nat.le_trans I.sz hb), fun x c e z => ?_, fun p hp z => ?_⟩
  · obtain ⟨v, q⟩ := I.cell x c e
    exact absurd (Nat.lt_of_lt_of_le q.lt (by rw [z]; exact hb)) (Nat.lt_irrefl _)
  · exact absurd (Nat.lt_of_lt_of_le (Heap.lt_size (I.pin p hp).1) (by rw [z]; exact hb)) (Nat.lt_irrefl _)
structure Turn (P : Program) (w : World) (K : PySem.W.Frag) (tg : Expr) (J : It) (fp : List Addr) (it : Addr) (tn : Nat → Heap → Prop) : Prop where
  mem : it ∈ fp
  obj : ∀ i h, tn i h → ∀ b ∈ fp, ∃ o, h.get? b = some o ∧ ∀ v, o.data ≠ .cell v
  keep : ∀ i h h', tn i h → (∀ b ∈ fp, ∀ o, h.get? b = some o → h'.get? b = some o) → tn i h'
  item : ∀ (X : Cx), X.prog = P → X.w = w → X.K = K → X.calm = true → ∀ (i : Nat) (pins : List (Addr × Obj)) (s : Shared) (σ : St) (H : Hp) (E : Value → Shared → Prop), Inv X pins σ H s → (∀ b ∈ fp, FpOk X pins H b) → tn i s.heap → J.go i H →
    wpAny (model P w) X.A (pyNext (.ref it)) (fun r s1 => ∃ u, r = some u ∧
      wpAny (model P w) X.A (letOwnedTupleGo tg (.ref it) u) (fun _ s2 => ∃ x H', Inv X pins σ H' s2 ∧ RelV x u ∧ J.yld i H x H' ∧ tn (i + 1) s2.heap ∧ ∀ b ∈ fp, H' b = none) E s1) E s
  done : ∀ (X : Cx), X.prog = P → X.w = w → X.K = K → X.calm = true → ∀ (i : Nat) (pins : List (Addr × Obj)) (s : Shared) (σ : St) (H : Hp) (E : Value → Shared → Prop), Inv X pins σ H s → (∀ b ∈ fp, FpOk X pins H b) → tn i s.heap → J.stop i H →
    wpAny (model P w) X.A (pyNext (.ref it)) (fun r s1 => r = none ∧ Inv X pins σ H s1) E s
  self : ∀ (A : Around) (i : Nat) (s : Shared) (Q : Value → Shared → Prop) (E : Value → Shared → Prop), tn i s.heap → Q (.ref it) s → wpAny (model P w) A (pyIter (.ref it)) Q E s
abbrev TI := St → Hp → (It → Hp → Prop) → Prop
/-- an iterator has come -/
def PIE (X : Cx) (pins : List (Addr × Obj)) (σ : St) (tg : Expr) (R : It → Hp → Prop) (itv : Value) (s2 : Shared) : Prop :=
  ∃ (it : Addr) (fp : List Addr) (tn : Nat → Heap → Prop) (J : It) (H' : Hp), itv = .ref it ∧ Inv X pins σ H' s2 ∧ Turn X.prog X.w X.K tg J fp it tn ∧ tn 0 s2.heap ∧ (∀ b ∈ fp, FpOk X pins H' b) ∧ R J H'
def PI (X : Cx) (tg iter : Expr) (wi : TI) : Prop :=
  ∀ (pins : List (Addr × Obj)) (s : Shared) (σ : St) (H : Hp) (R : It → Hp → Prop), Inv X pins σ H s → wi σ H R →
    wpAny (model X.prog X.w) X.A (eval iter X.env) (fun v s1 => wpAny (model X.prog X.w) X.A (pyIter v) (PIE X pins σ tg R) X.xe s1) X.xe s

/-- the step ahead of the store is nothing for an iterator that keeps no tuple -/
theorem go_of {M : Model} {A : Around} {E : Value → Shared → Prop} {s : Shared} {tg : Expr} {it : Addr} {u : Value} {o : Obj} {n : String} {vs : Array Value} {Q : Unit → Shared → Prop} (ho : s.heap.get? it = some o) (hc : o.cls = .type n) (hd : o.data = .fields vs)
    (hn : ["enumerate", "zip", "dict_itemiterator", "dict_reverseitemiterator", "odict_iterator", "itertools.zip_longest", "itertools.pairwise"].contains n = false) (hQ : Q () s) : wpAny M A (letOwnedTupleGo tg (.ref it) u) Q E s := by
  unfold letOwnedTupleGo
  cases tg <;> first
    | exact wpAny_pure hQ
    | (cases u <;> first
        | exact wpAny_pure hQ
        | (refine wpAny_bind (wpAny_load ho ?_)
           rw [hc, hd]
           show wpAny M A (if (["enumerate", "zip", "dict_itemiterator", "dict_reverseitemiterator", "odict_iterator", "itertools.zip_longest", "itertools.pairwise"].contains n && vs[0]? == some (rawInt _)) = true then _ else _) Q E s
           rw [if_neg (by intro h; rw [hn, Bool.false_and] at h; cases h)]
           exact wpAny_pure hQ))

/-- the list at a, as it stands at each turn (a loop may append to it) -/
def Itl (K : PySem.W.Frag) (a : Addr) : It :=
  ⟨fun i H => ∃ xs x, SqL K H a xs ∧ xs[i]? = some x, fun i H x H' => H' = H ∧ ∀ xs, SqL K H a xs → xs[i]? = some x, fun i H => ∃ xs, SqL K H a xs ∧ xs.length ≤ i⟩
/-- lo, lo + 1, .. (n of them) -/
def Itr (lo : Int) (n : Nat) : It := ⟨fun i _ => i < n, fun i H x H' => H' = H ∧ x = .int (lo + i), fun i _ => n ≤ i⟩
theorem turn_list {P : Program} {w : World} {K : PySem.W.Frag} {tg : Expr} (a it : Addr) : Turn P w K tg (Itl K a) [it] it (fun i h => h.IsListIter it a i) where
  mem := by simp
  obj := fun i h st b hb => by
    have e : b = it := by simpa using hb
    subst e
    obtain ⟨o, e, c, d⟩ := st
    exact ⟨o, e, fun v z => by rw [d] at z; cases z⟩
  keep := fun i h h' st k => st.at fun o e => k it (by simp) o e
  item := by
    intro X hP hw hK hc i pins s σ H E I hf st hg
    subst hP hw hK
    obtain ⟨xs, x, hq, hx⟩ := hg
    obtain ⟨its, rv, p, hz⟩ := I.list hq
    obtain ⟨u, hu, ru⟩ := rv.get hx
    obtain ⟨f0, f1, f2, f3, f4, f5⟩ := hf it (by simp)
    refine wpAny_pyNext_list_item st p.isList (x := u) (by simpa using hu) fun h' st' sb => ?_
    have I1 : Inv X pins σ H { s with heap := h' } := I.turned (t' := s.toks) (fun b o hb e => (sb.2 b hb).trans e) f0 f1 f3 f4 f5
    obtain ⟨o, e, c, d⟩ := id st'
    exact ⟨u, rfl, go_of (s := { s with heap := h' }) e c d (by decide) ⟨x, H, I1, ru, ⟨rfl, fun ys hy => by rw [I.list_inj hy hq]; exact hx⟩, st', fun b hb => (hf b hb).1⟩⟩
  done := by
    intro X hP hw hK hc i pins s σ H E I hf st hg
    subst hP hw hK
    obtain ⟨xs, hq, hx⟩ := hg
    obtain ⟨its, rv, p, hz⟩ := I.list hq
    obtain ⟨f0, f1, f2, f3, f4, f5⟩ := hf it (by simp)
    have hl := rv.length
    exact wpAny_pyNext_list_end (I.ok.hd hc) st p.isList (by simp; omega) fun h' eb => ⟨rfl, I.turned (t' := s.toks) (fun b o hb e => eb b o hb e) f0 f1 f3 f4 f5⟩
  self := fun _ _ _ _ _ st h => wpAny_pyIter_listiter st h
theorem turn_range {P : Program} {w : World} {K : PySem.W.Frag} {tg : Expr} (it : Addr) (lo : Int) (n : Nat) : Turn P w K tg (Itr lo n) [it] it (fun i h => IsRangeIter h it (lo + (i : Nat) * 1) ((n : Int) - (i : Nat)) 1) where
  mem := by simp
  obj := fun i h st b hb => by
    have e : b = it := by simpa using hb
    subst e
    exact ⟨_, st, fun v z => by
      have z' : Data.fields _ = Data.cell v := z
      cases z'⟩
  keep := fun i h h' st k => k it (by simp) _ st
  item := by
    intro X hP hw hK hc i pins s σ H E I hf st hg
    subst hP hw hK
    obtain ⟨f0, f1, f2, f3, f4, f5⟩ := hf it (by simp)
    have W := Walks.range (prog := X.prog) (w := X.w) (I.ok.hd hc) it lo 1 n
    refine W.item i s _ _ hg st fun v h' tk hv st' kk => ?_
    obtain ⟨t, rfl⟩ := hv
    have I1 : Inv X pins σ H { s with heap := h', toks := tk } := I.turned (fun b o hb e => kk b o (by simpa using hb) e) f0 f1 f3 f4 f5
    refine ⟨_, rfl, go_of (s := { s with heap := h', toks := tk }) (n := "range_iterator") st' rfl rfl (by decide) ⟨.int (lo + i), H, I1, ⟨t, ?_⟩, ⟨rfl, rfl⟩, st', fun b hb => (hf b hb).1⟩⟩
    rw [Int.mul_one]
  done := by
    intro X hP hw hK hc i pins s σ H E I hf st hg
    subst hP hw hK
    obtain ⟨f0, f1, f2, f3, f4, f5⟩ := hf it (by simp)
    exact wpAny_pyNext_range_end (I.ok.hd hc) st (by have : n ≤ i := hg; omega) fun h' eb => ⟨rfl, I.turned (t' := s.toks) (fun b o hb e => eb b o hb e) f0 f1 f3 f4 f5⟩
  self := fun _ _ _ _ _ st h => wpAny_pyIter_rangeiter st h
end L2

namespace L2
open PySem PySem.Spec PyProof.Rows
section
variable {X : Cx} {tg : Expr}
def iList (K : PySem.W.Frag) (tl : TE) : TI := fun σ H R => tl σ H fun x H1 => ∃ a, x = .ref a ∧ (∃ xs, SqL K H1 a xs) ∧ R (Itl K a) H1
theorem pi_list {l : Expr} {tl : TE} (hl : PE X l tl) : PI X tg l (iList X.K tl) := by
  intro pins s σ H R I h
  refine thn (hl pins s σ H _ I h) fun v s1 ⟨x, H1, I1, r1, q1⟩ => ?_
  obtain ⟨a, e, ⟨xs, hq⟩, q⟩ := q1
  subst e
  cases r1
  obtain ⟨its, rv, p, hz⟩ := I1.list hq
  refine wpAny_pyIter_list p.isList ?_
  refine ⟨s1.heap.objs.size, [s1.heap.objs.size], _, _, H1, rfl, I1.kept (t' := s1.toks) fun b o e => Heap.get?_push_of_some _ e, turn_list a _, ⟨_, Heap.get?_push_size _ rfl, rfl, rfl⟩, fun b hb => ?_, q⟩
  have e : b = s1.heap.objs.size := by simpa using hb
  subst e
  exact I1.fpOk (Nat.le_refl _) (I1.hok.fresh (Nat.le_refl _))
/-- a range object just made, walked -/
theorem range_it {pins : List (Addr × Obj)} {σ : St} {H : Hp} {s : Shared} {R : It → Hp → Prop} {E : Value → Shared → Prop} {lo hi : Int} {t u v : Tok} {tk : Nat} (I : Inv X pins σ H s) (h1 : -(2 ^ 62) ≤ lo) (h2 : lo < 2 ^ 62) (h3 : -(2 ^ 62) ≤ hi) (h4 : hi < 2 ^ 62)
    (q : R (Itr lo (hi - lo).toNat) H) : wpAny (model X.prog X.w) X.A (pyIter (.ref s.heap.objs.size)) (PIE X pins σ tg R) E { s with heap := s.heap.push { cls := .type "range", data := .fields #[.int lo t, .int hi u, .int 1 v] }, toks := tk } := by
  refine wpAny_pyIter_range (IsRange.new ..) (small_one h1 h2 h3 h4) ?_
  have I1 : Inv X pins σ H { s with heap := s.heap.push { cls := .type "range", data := .fields #[.int lo t, .int hi u, .int 1 v] }, toks := tk } := I.kept fun b o e => Heap.get?_push_of_some _ e
  refine ⟨(s.heap.push { cls := .type "range", data := .fields #[.int lo t, .int hi u, .int 1 v] }).objs.size, [(s.heap.push { cls := .type "range", data := .fields #[.int lo t, .int hi u, .int 1 v] }).objs.size], _, _, H, rfl,
    I1.kept (t' := tk) fun b o e => Heap.get?_push_of_some _ e, turn_range _ lo (hi - lo).toNat, ?_, fun b hb => ?_, q⟩
  · have e1 : lo + ((0 : Nat) : Int) * 1 = lo := by simp
    have e2 : (((hi - lo).toNat : Nat) : Int) - ((0 : Nat) : Int) = Builtin.Range.rangeSize lo hi 1 := by rw [rangeSize_one]; split <;> omega
    show IsRangeIter _ _ (lo + ((0 : Nat) : Int) * 1) ((((hi - lo).toNat : Nat) : Int) - ((0 : Nat) : Int)) 1
    rw [e1, e2]
    exact Heap.get?_push_size _ rfl
  · have e : b = (s.heap.push { cls := .type "range", data := .fields #[.int lo t, .int hi u, .int 1 v] }).objs.size := by simpa using hb
    subst e
    exact I1.fpOk (Nat.le_refl _) (I1.hok.fresh (Nat.le_refl _))
def iRng1 (ta : TA) : TI := fun σ H R => ta σ H fun vs H1 => ∃ j : Int, vs = [.int j] ∧ -(2 ^ 62) ≤ j ∧ j < 2 ^ 62 ∧ R (Itr 0 j.toNat) H1
def iRng2 (ta : TA) : TI := fun σ H R => ta σ H fun vs H1 => ∃ i j : Int, vs = [.int i, .int j] ∧ (-(2 ^ 62) ≤ i ∧ i < 2 ^ 62 ∧ -(2 ^ 62) ≤ j ∧ j < 2 ^ 62) ∧ R (Itr i (j - i).toNat) H1
theorem pi_range1 {a : Expr} {ta : TA} {p pos : Pos} (hg : Gl X "range") (hm : X.mg "range" = none) (ha : PA X [a] ta) (hs : starEach [a] X.env = [(false, eval a X.env)] := by rfl) : PI X tg (.Call (.Name "range" p) [a] [] pos) (iRng1 ta) := by
  intro pins s σ H R I h
  refine Call_ (ld_blt I hg hm boot_range (PyProof.Rows.callWith_type1 (thn (ha pos pins s σ H _ I h) fun us s1 ⟨vs, H1, I1, r1, q1⟩ => ?_) hs rfl))
  obtain ⟨j, e, q1, q2, q⟩ := q1
  subst e
  cases r1 with
  | cons r rr =>
    cases rr
    obtain ⟨t, rfl⟩ := r
    exact call_range_1 (range_it I1 (by omega) (by omega) q1 q2 (by simpa using q))
theorem pi_range2 {a b : Expr} {ta : TA} {p pos : Pos} (hg : Gl X "range") (hm : X.mg "range" = none) (ha : PA X [a, b] ta) (hs : starEach [a, b] X.env = [(false, eval a X.env), (false, eval b X.env)] := by rfl) (hs2 : starEach [b] X.env = [(false, eval b X.env)] := by rfl) :
    PI X tg (.Call (.Name "range" p) [a, b] [] pos) (iRng2 ta) := by
  intro pins s σ H R I h
  refine Call_ (ld_blt I hg hm boot_range (PyProof.Rows.callWith_type1 (thn (ha pos pins s σ H _ I h) fun us s1 ⟨vs, H1, I1, r1, q1⟩ => ?_) (by rw [hs, hs2]) (by rw [hs2]; rfl)))
  obtain ⟨i, j, e, ⟨q1, q2, q3, q4⟩, q⟩ := q1
  subst e
  cases r1 with
  | cons r rr =>
    cases rr with
    | cons r' rr =>
      cases rr
      obtain ⟨t, rfl⟩ := r
      obtain ⟨t', rfl⟩ := r'
      exact call_range_2 (range_it I1 q1 q2 q3 q4 q)

/-! ### for -/
/-- W: the invariant by the turn and a measure; N: what the body is to reach -/
def tFor (wi : TI) (g : TG) (tb : TS) : TS := fun D σ H => wi σ H fun J H1 => ∃ W : Nat → Nat → St → Hp → Prop, (∃ m, W 0 m σ H1) ∧ ∀ i m σ H, W i m σ H →
  (J.stop i H ∧ D.nx σ H) ∨ (J.go i H ∧ ∃ N : St → Hp → Prop, (∀ σ' H', N σ' H' → ∃ m', m' < m ∧ W (i + 1) m' σ' H') ∧ ∀ x H', J.yld i H x H' → g x σ H' fun σ2 H2 => tb { D with nx := N, ct := N, bk := D.nx } σ2 H2)
/-- the records at fp as they stand -/
def pinsAt (fp : List Addr) (h : Heap) : List (Addr × Obj) := fp.filterMap fun b => (h.get? b).map fun o => (b, o)
theorem mem_pinsAt {fp : List Addr} {h : Heap} {b : Addr} {o : Obj} (hb : b ∈ fp) (e : h.get? b = some o) : (b, o) ∈ pinsAt fp h := List.mem_filterMap.mpr ⟨b, hb, by rw [e]; rfl⟩
theorem of_pinsAt {fp : List Addr} {h : Heap} {p : Addr × Obj} (hp : p ∈ pinsAt fp h) : p.1 ∈ fp ∧ h.get? p.1 = some p.2 := by
  obtain ⟨b, hb, e⟩ := List.mem_filterMap.mp hp
  cases q : h.get? b with
  | none => rw [q] at e; cases e
  | some o =>
    rw [q] at e
    have e' : (b, o) = p := Option.some.inj e
    subst e'
    exact ⟨hb, q⟩
theorem Inv.pinned {pins : List (Addr × Obj)} {σ : St} {H : Hp} {s : Shared} {fp : List Addr} (I : Inv X pins σ H s) (hf : ∀ b ∈ fp, FpOk X pins H b) (ho : ∀ b ∈ fp, ∃ o, s.heap.get? b = some o ∧ ∀ v, o.data ≠ .cell v) : Inv X (pins ++ pinsAt fp s.heap) σ H s :=
  I.pins_of fun p hp => (List.mem_append.mp hp).elim (fun z => I.pin p (List.mem_append_right _ z)) fun z => by
    obtain ⟨hb, e⟩ := of_pinsAt z
    obtain ⟨f0, f1, f2, _⟩ := hf p.1 hb
    obtain ⟨o, e', d⟩ := ho p.1 hb
    rw [e] at e'; cases e'
    exact ⟨e, f0, f1, f2, d⟩
theorem Inv.unpinned {pins pl : List (Addr × Obj)} {σ : St} {H : Hp} {s : Shared} (I : Inv X (pins ++ pl) σ H s) : Inv X pins σ H s := I.pins_of fun p hp => I.pin p (List.mem_append_right _ (List.mem_append_left _ hp))
theorem ps_for {iter : Expr} {body : List Stmt} {wi : TI} {g : TG} {tb : TS} {pos : Pos} (hp : PassesOwn (model X.prog X.w) X.A X.env X.xe) (hc : X.calm = true) (hi : PI X tg iter wi) (hg : PG X tg g) (hb : PSs X body tb)
    (hs : ∀ x, foldedSetIterable iter X.env x = pure x := by intro _; rfl) : PS X (.For tg iter body [] pos) (tFor wi g tb) := by
  intro pins s σ H D I h
  refine wpAny_For (thn (hi pins s σ H _ I h) fun v s1 h1 => thn h1 fun itv s2 h2 => ?_) hs
  obtain ⟨it, fp, tn, J, H2, e, I2, T, st2, f2, W, ⟨m0, w0⟩, turn⟩ := h2
  subst e
  -- what stays true of the iterator's objects through the loop
  have stat : ∀ {H' : Hp}, (∀ b ∈ fp, H' b = none) → ∀ b ∈ fp, FpOk X pins H' b := fun hn b hb => ⟨hn b hb, (f2 b hb).2⟩
  refine codeAny_forLoop_any (fun n s' => ∃ i σ' H', Inv X pins σ' H' s' ∧ tn i s'.heap ∧ (∀ b ∈ fp, H' b = none) ∧ W i n σ' H') ?_ m0 ⟨0, σ, H2, I2, st2, fun b hb => (f2 b hb).1, w0⟩
  rintro n s3 ⟨i, σ3, H3, I3, st3, fr3, w3⟩
  rcases turn i n σ3 H3 w3 with ⟨stop, qn⟩ | ⟨go, N, hN, step⟩
  · refine wpAny_passesOwn hp (thn (T.done X rfl rfl rfl hc i pins s3 σ3 H3 X.xe I3 (stat fr3) st3 stop) fun r s4 ⟨hr, I4⟩ => ?_)
    subst hr
    exact wpAny_execs_nil ⟨σ3, H3, I4, qn⟩
  · refine wpAny_passesOwn hp (thn (T.item X rfl rfl rfl hc i pins s3 σ3 H3 X.xe I3 (stat fr3) st3 go) fun r s4 ⟨u, hr, h4⟩ => ?_)
    subst hr
    refine wpAny_passesOwn hp (thn h4 fun _ s5 ⟨x, H5, I5, r5, y5, st5, fr5⟩ => ?_)
    have I5' := I5.pinned (stat fr5) (T.obj _ _ st5)
    refine wpAny_passesOwn hp (thn (hg _ s5 σ3 H5 x u _ I5' r5 (step x H5 y5)) fun _ s6 ⟨σ6, H6, I6, q6⟩ => ?_)
    refine wpAny_passesOwn hp (thn (hb _ s6 σ6 H6 _ I6 q6) fun f s7 q7 => ?_)
    have again : ∀ {σ7 : St} {H7 : Hp}, Inv X (pins ++ pinsAt fp s5.heap) σ7 H7 s7 → N σ7 H7 → ∃ m, m < n ∧ ∃ i σ' H', Inv X pins σ' H' s7 ∧ tn i s7.heap ∧ (∀ b ∈ fp, H' b = none) ∧ W i m σ' H' := fun {σ7 H7} I7 n7 => by
      obtain ⟨m', hm, w7⟩ := hN σ7 H7 n7
      refine ⟨m', hm, i + 1, σ7, H7, I7.unpinned, T.keep _ _ _ st5 fun b hb o e => (I7.pin (b, o) (List.mem_append_right _ (List.mem_append_right _ (mem_pinsAt hb e)))).1, fun b hb => ?_, w7⟩
      obtain ⟨o, e, d⟩ := T.obj _ _ st5 b hb
      exact (I7.pin (b, o) (List.mem_append_right _ (List.mem_append_right _ (mem_pinsAt hb e)))).2.1
    cases f with
    | next => obtain ⟨σ7, H7, I7, n7⟩ := q7; exact again I7 n7
    | cont => obtain ⟨σ7, H7, I7, n7⟩ := q7; exact again I7 n7
    | brk => obtain ⟨σ7, H7, I7, q7⟩ := q7; exact ⟨σ7, H7, I7.unpinned, q7⟩
    | ret v => obtain ⟨x7, σ7, H7, I7, r7, q7⟩ := q7; exact ⟨x7, σ7, H7, I7.unpinned, r7, q7⟩
end

/-! ### the forms one uses -/
/-- over a list that the body leaves as it is -/
theorem for_list {K : PySem.W.Frag} {a : Addr} {xs : List V} {g : TG} {tb : TS} {D : Ends} {σ : St} {H : Hp} (Pv : Nat → St → Hp → Prop) (h0 : Pv 0 σ H) (hl : ∀ i σ H, i ≤ xs.length → Pv i σ H → SqL K H a xs)
    (hs : ∀ i x σ H, xs[i]? = some x → Pv i σ H → g x σ H fun σ2 H2 => tb { D with nx := Pv (i + 1), ct := Pv (i + 1), bk := D.nx } σ2 H2) (hd : ∀ σ H, Pv xs.length σ H → D.nx σ H) :
    ∃ W : Nat → Nat → St → Hp → Prop, (∃ m, W 0 m σ H) ∧ ∀ i m σ H, W i m σ H →
      ((Itl K a).stop i H ∧ D.nx σ H) ∨ ((Itl K a).go i H ∧ ∃ N : St → Hp → Prop, (∀ σ' H', N σ' H' → ∃ m', m' < m ∧ W (i + 1) m' σ' H') ∧ ∀ x H', (Itl K a).yld i H x H' → g x σ H' fun σ2 H2 => tb { D with nx := N, ct := N, bk := D.nx } σ2 H2) := by
  refine ⟨fun i m σ H => m = xs.length - i ∧ i ≤ xs.length ∧ Pv i σ H, ⟨xs.length, by simp, Nat.zero_le _, h0⟩, ?_⟩
  rintro i m σ H ⟨rfl, hi, p⟩
  have q := hl i σ H hi p
  by_cases hlt : i < xs.length
  · refine .inr ⟨⟨xs, xs[i], q, by simp [hlt]⟩, Pv (i + 1), fun σ' H' p' => ⟨xs.length - (i + 1), by omega, rfl, hlt, p'⟩, fun x H' y => ?_⟩
    obtain ⟨e, y⟩ := y
    subst e
    exact hs i x σ _ (y xs q) p
  · have e : i = xs.length := by omega
    subst e
    exact .inl ⟨⟨xs, q, Nat.le_refl _⟩, hd σ H p⟩
theorem for_range {lo : Int} {n : Nat} {g : TG} {tb : TS} {D : Ends} {σ : St} {H : Hp} (Pv : Nat → St → Hp → Prop) (h0 : Pv 0 σ H)
    (hs : ∀ i σ H, i < n → Pv i σ H → g (.int (lo + i)) σ H fun σ2 H2 => tb { D with nx := Pv (i + 1), ct := Pv (i + 1), bk := D.nx } σ2 H2) (hd : ∀ σ H, Pv n σ H → D.nx σ H) :
    ∃ W : Nat → Nat → St → Hp → Prop, (∃ m, W 0 m σ H) ∧ ∀ i m σ H, W i m σ H →
      ((Itr lo n).stop i H ∧ D.nx σ H) ∨ ((Itr lo n).go i H ∧ ∃ N : St → Hp → Prop, (∀ σ' H', N σ' H' → ∃ m', m' < m ∧ W (i + 1) m' σ' H') ∧ ∀ x H', (Itr lo n).yld i H x H' → g x σ H' fun σ2 H2 => tb { D with nx := N, ct := N, bk := D.nx } σ2 H2) := by
  refine ⟨fun i m σ H => m = n - i ∧ i ≤ n ∧ Pv i σ H, ⟨n, by simp, Nat.zero_le _, h0⟩, ?_⟩
  rintro i m σ H ⟨rfl, hi, p⟩
  by_cases hlt : i < n
  · refine .inr ⟨hlt, Pv (i + 1), fun σ' H' p' => ⟨n - (i + 1), by omega, rfl, hlt, p'⟩, fun x H' y => ?_⟩
    obtain ⟨e, y⟩ := y
    subst e y
    exact hs i σ _ hlt p
  · have e : i = n := by omega
    subst e
    exact .inl ⟨Nat.le_refl _, hd σ H p⟩
end L2

namespace L2
open PySem PySem.Spec PyProof.Rows

abbrev R2 := V → V → Hp → VK → Prop
/-- a two-place operation on values: f is binaryOp op, inplaceOp op or compareOp op -/
def OpR (X : Cx) (f : Value → Value → Sem Value) (r : R2) : Prop :=
  ∀ (pins : List (Addr × Obj)) (s : Shared) (σ : St) (H : Hp) (x y : V) (v u : Value) (Q : VK), Inv X pins σ H s → RelV x v → RelV y u → r x y H Q →
    wpAny (model X.prog X.w) X.A (f v u) (EP X pins σ Q) X.xe s
/-- a one-place operation -/
def UnR (X : Cx) (f : Value → Sem Value) (r : V → Hp → VK → Prop) : Prop :=
  ∀ (pins : List (Addr × Obj)) (s : Shared) (σ : St) (H : Hp) (x : V) (v : Value) (Q : VK), Inv X pins σ H s → RelV x v → r x H Q →
    wpAny (model X.prog X.w) X.A (f v) (EP X pins σ Q) X.xe s
/-- a call of a value that is known (a builtin, a type) with values -/
def CallR (X : Cx) (f : Value) (r : List V → Hp → VK → Prop) : Prop :=
  ∀ (pins : List (Addr × Obj)) (s : Shared) (σ : St) (H : Hp) (xs : List V) (us : List Value) (Q : VK), Inv X pins σ H s → Vals xs us → r xs H Q →
    wpAny (model X.prog X.w) X.A (call f us) (EP X pins σ Q) X.xe s

def tOp (r : R2) (ta tb : TE) : TE := fun σ H Q => ta σ H fun x H1 => tb σ H1 fun y H2 => r x y H2 Q
def tUn (r : V → Hp → VK → Prop) (ta : TE) : TE := fun σ H Q => ta σ H fun x H1 => r x H1 Q
/-- ints in, under C, and a value out -/
def rI (C : Int → Int → Prop) (g : Int → Int → V) : R2 := fun x y H Q => ∃ i j, x = .int i ∧ y = .int j ∧ C i j ∧ Q (g i j) H
def rI0 (g : Int → Int → V) : R2 := fun x y H Q => ∃ i j, x = .int i ∧ y = .int j ∧ Q (g i j) H
def rU (g : Int → V) : V → Hp → VK → Prop := fun x H Q => ∃ i, x = .int i ∧ Q (g i) H

section
variable {X : Cx} {a b c : Expr} {ta tb tc : TE} {pos : Pos}

theorem binT (ha : PE X a ta) (hb : PE X b tb) {pins : List (Addr × Obj)} {s : Shared} {σ : St} {H : Hp} {R : V → V → Hp → Prop} (I : Inv X pins σ H s)
    (h : ta σ H fun x H1 => tb σ H1 fun y H2 => R x y H2) {Q : Value → Shared → Prop} {f : Value → Value → Sem Value}
    (hf : ∀ v u s2 x y H2, Inv X pins σ H2 s2 → RelV x v → RelV y u → R x y H2 → wpAny (model X.prog X.w) X.A (f v u) Q X.xe s2) :
    wpAny (model X.prog X.w) X.A (eval a X.env) (fun v s₁ => wpAny (model X.prog X.w) X.A (eval b X.env) (fun u s₂ => wpAny (model X.prog X.w) X.A (f v u) Q X.xe s₂) X.xe s₁) X.xe s := by
  refine thn (ha pins s σ H _ I h) fun v s1 ⟨x, H1, I1, r1, q1⟩ => ?_
  refine thn (hb pins s1 σ H1 _ I1 q1) fun u s2 ⟨y, H2, I2, r2, q2⟩ => ?_
  exact hf v u s2 x y H2 I2 r1 r2 q2

theorem pe_op {op : Operator} {r : R2} (ho : OpR X (binaryOp op) r) (ha : PE X a ta) (hb : PE X b tb) : PE X (.BinOp a op b pos) (tOp r ta tb) := by
  intro pins s σ H Q I h
  exact wpAny_BinOp (binT ha hb I h fun v u s2 x y H2 I2 rx ry q => ho pins s2 σ H2 x y v u Q I2 rx ry q)
theorem pe_un {op : UnaryOp} {r : V → Hp → VK → Prop} (ho : UnR X (unaryOp op) r) (ha : PE X a ta) : PE X (.UnaryOp op a pos) (tUn r ta) := by
  intro pins s σ H Q I h
  exact UnaryOp_ (thn (ha pins s σ H _ I h) fun v s1 ⟨x, H1, I1, r1, q1⟩ => ho pins s1 σ H1 x v Q I1 r1 q1)

/-! ### ints -/
theorem opI {f : Value → Value → Sem Value} {C : Int → Int → Prop} {g : Int → Int → Int}
    (rule : ∀ (i j : Int) (t u : Tok) (s : Shared) (Q : Value → Shared → Prop) (E : Value → Shared → Prop), C i j → Q (.int (g i j) s.toks) { s with toks := s.toks + 1 } → wpAny (model X.prog X.w) X.A (f (.int i t) (.int j u)) Q E s) :
    OpR X f (rI C fun i j => .int (g i j)) := by
  intro pins s σ H x y v u Q I rx ry h
  obtain ⟨i, j, rfl, rfl, hc, q⟩ := h
  obtain ⟨t, rfl⟩ := rx
  obtain ⟨t', rfl⟩ := ry
  exact rule i j t t' s _ _ hc ⟨.int (g i j), H, I.tok _, ⟨_, rfl⟩, q⟩
theorem opI0 {f : Value → Value → Sem Value} {g : Int → Int → Int}
    (rule : ∀ (i j : Int) (t u : Tok) (s : Shared) (Q : Value → Shared → Prop) (E : Value → Shared → Prop), Q (.int (g i j) s.toks) { s with toks := s.toks + 1 } → wpAny (model X.prog X.w) X.A (f (.int i t) (.int j u)) Q E s) :
    OpR X f (rI0 fun i j => .int (g i j)) := by
  intro pins s σ H x y v u Q I rx ry h
  obtain ⟨i, j, rfl, rfl, q⟩ := h
  obtain ⟨t, rfl⟩ := rx
  obtain ⟨t', rfl⟩ := ry
  exact rule i j t t' s _ _ ⟨.int (g i j), H, I.tok _, ⟨_, rfl⟩, q⟩
theorem opB0 {f : Value → Value → Sem Value} {g : Int → Int → Bool}
    (rule : ∀ (i j : Int) (t u : Tok) (s : Shared) (Q : Value → Shared → Prop) (E : Value → Shared → Prop), Q (.bool (g i j)) s → wpAny (model X.prog X.w) X.A (f (.int i t) (.int j u)) Q E s) :
    OpR X f (rI0 fun i j => .bl (g i j)) := by
  intro pins s σ H x y v u Q I rx ry h
  obtain ⟨i, j, rfl, rfl, q⟩ := h
  obtain ⟨t, rfl⟩ := rx
  obtain ⟨t', rfl⟩ := ry
  exact rule i j t t' s _ _ ⟨.bl (g i j), H, I, rfl, q⟩

def CDiv (i j : Int) : Prop := 0 < j ∧ j < 1073741824
def CPow (i j : Int) : Prop := 0 ≤ j ∧ j ≤ 1000000 ∧ i.natAbs < 2 ^ 64
def CMul (i j : Int) : Prop := (-(2 ^ 64) < i ∧ i < 2 ^ 64) ∨ (-(2 ^ 64) < j ∧ j < 2 ^ 64)
theorem CMul.ok {i j : Int} (h : CMul i j) : IntMulOk i j := by
  rcases h with ⟨h1, h2⟩ | ⟨h1, h2⟩
  · exact .of_left (intBits_le_64 h1 h2)
  · exact .of_right (intBits_le_64 h1 h2)
theorem two_pow_nn (k : Nat) : (0 : Int) ≤ 2 ^ k := by
  rw [two_pow_cast]
  exact Int.natCast_nonneg _

theorem op_add : OpR X (binaryOp .Add) (rI0 fun i j => .int (i + j)) := opI0 fun _ _ _ _ _ _ _ q => add_int q
theorem op_sub : OpR X (binaryOp .Sub) (rI0 fun i j => .int (i - j)) := opI0 fun _ _ _ _ _ _ _ q => sub_int q
theorem op_mul : OpR X (binaryOp .Mult) (rI CMul fun i j => .int (i * j)) := opI fun _ _ _ _ _ _ _ hc q => mul_int q hc.ok
/-- // by a positive divisor -/
theorem op_fdiv : OpR X (binaryOp .FloorDiv) (rI CDiv fun i j => .int (i / j)) := opI fun i j _ _ _ _ _ hc q => by
  have h1 : (0 : Int) < j := hc.1
  have h2 : j < 1073741824 := hc.2
  exact floordiv_int (by omega) (by rw [Int.fdiv_eq_ediv_of_nonneg i (by omega)]; exact q) (.inl (PyProof.noPylong_small (by omega)))
/-- % by a positive divisor of any size -/
theorem op_mod : OpR X (binaryOp .Mod) (rI (fun _ j => 0 < j) fun i j => .int (i % j)) := opI fun i j _ _ _ _ _ hc q => by
  have h1 : (0 : Int) < j := hc
  exact mod_int' (by omega) (by rw [Int.fmod_eq_emod_of_nonneg i (by omega)]; exact q)
theorem op_shl : OpR X (binaryOp .LShift) (rI CPow fun i j => .int (i * 2 ^ j.toNat)) := opI fun _ _ _ _ _ _ _ hc q => lshift_int_small hc.1 hc.2.1 hc.2.2 q
theorem op_shr : OpR X (binaryOp .RShift) (rI (fun _ j => 0 ≤ j) fun i j => .int (i / 2 ^ j.toNat)) := opI fun i j _ _ _ _ _ hc q =>
  rshift_int hc (by rw [Int.fdiv_eq_ediv_of_nonneg i (two_pow_nn _)]; exact q)
theorem op_and : OpR X (binaryOp .BitAnd) (rI0 fun i j => .int (Builtin.bitAnd i j)) := opI0 fun _ _ _ _ _ _ _ q => and_int q
theorem op_or : OpR X (binaryOp .BitOr) (rI0 fun i j => .int (Builtin.bitOr i j)) := opI0 fun _ _ _ _ _ _ _ q => or_int q
theorem op_xor : OpR X (binaryOp .BitXor) (rI0 fun i j => .int (Builtin.bitXor i j)) := opI0 fun _ _ _ _ _ _ _ q => xor_int q

theorem unI {f : Value → Sem Value} {g : Int → Int}
    (rule : ∀ (i : Int) (t : Tok) (s : Shared) (Q : Value → Shared → Prop) (E : Value → Shared → Prop), Q (.int (g i) s.toks) { s with toks := s.toks + 1 } → wpAny (model X.prog X.w) X.A (f (.int i t)) Q E s) :
    UnR X f (rU fun i => .int (g i)) := by
  intro pins s σ H x v Q I rx h
  obtain ⟨i, rfl, q⟩ := h
  obtain ⟨t, rfl⟩ := rx
  exact rule i t s _ _ ⟨.int (g i), H, I.tok _, ⟨_, rfl⟩, q⟩
theorem un_neg : UnR X (unaryOp .USub) (rU fun i => .int (-i)) := unI fun _ _ _ _ _ q => neg_int q

/-! ### bools among ints: n += (a < b) -/
end

/-! ### comparisons -/
/-- the scalars that == tells apart as data does -/
def scal : V → V → Bool
  | .non, .non => true | .non, .int _ => true | .int _, .non => true | .non, .bl _ => true | .bl _, .non => true | .non, .str _ => true | .str _, .non => true
  | .int _, .int _ => true | .bl _, .bl _ => true | .str _, .str _ => true | .byt _, .byt _ => true
  | .int _, .str _ => true | .str _, .int _ => true | .bl _, .str _ => true | .str _, .bl _ => true
  | _, _ => false
def rEq : R2 := fun x y H Q => scal x y = true ∧ Q (.bl (decide (x = y))) H
def rNe : R2 := fun x y H Q => scal x y = true ∧ Q (.bl (!decide (x = y))) H

theorem dec_int {i j : Int} : decide (V.int i = V.int j) = (i == j) := by
  rw [Bool.eq_iff_iff]
  simp
theorem dec_bl {i j : Bool} : decide (V.bl i = V.bl j) = (i == j) := by
  rw [Bool.eq_iff_iff]
  simp
theorem dec_str {i j : Str} : decide (V.str i = V.str j) = (i == j) := by
  rw [Bool.eq_iff_iff]
  simp
theorem dec_byt {i j : Array UInt8} : decide (V.byt i = V.byt j) = (i.toList == j.toList) := by
  rw [Bool.eq_iff_iff]
  cases i
  cases j
  simp

section
variable {X : Cx} {a b c : Expr} {ta tb tc : TE} {pos : Pos}
theorem fin_bl {pins : List (Addr × Obj)} {σ : St} {H : Hp} {s : Shared} {Q : VK} {k k' : Bool} (I : Inv X pins σ H s) (q : Q (.bl k) H) (e : k = k') : EP X pins σ Q (.bool k') s := by
  subst e
  exact ⟨.bl k, H, I, rfl, q⟩
theorem op_eq : OpR X (compareOp .Eq) rEq := by
  intro pins s σ H x y v u Q I rx ry h
  obtain ⟨hs, q⟩ := h
  cases x with
  | non =>
    cases rx
    cases y with
    | non => cases ry; exact PySem.EqNone.eq_none_none (fin_bl I q (by simp))
    | bl j => cases ry; exact PySem.EqNone.eq_none_bool (fin_bl I q (by simp))
    | int j => obtain ⟨t', rfl⟩ := ry; exact PySem.EqNone.eq_none_int (fin_bl I q (by simp))
    | str j => obtain ⟨t', rfl⟩ := ry; exact PySem.EqNone.eq_none_str (fin_bl I q (by simp))
    | _ => exact absurd (show false = true from hs) Bool.false_ne_true
  | bl i =>
    cases rx
    cases y with
    | non => cases ry; exact PySem.EqNone.eq_bool_none (fin_bl I q (by simp))
    | bl j => cases ry; exact eq_bool (fin_bl I q dec_bl)
    | str j => obtain ⟨t', rfl⟩ := ry; exact PySem.EqMixed.eq_bool_str (fin_bl I q (by simp))
    | _ => exact absurd (show false = true from hs) Bool.false_ne_true
  | int i =>
    obtain ⟨t, rfl⟩ := rx
    cases y with
    | non => cases ry; exact PySem.EqNone.eq_int_none (fin_bl I q (by simp))
    | int j => obtain ⟨t', rfl⟩ := ry; exact eq_int (fin_bl I q dec_int)
    | str j => obtain ⟨t', rfl⟩ := ry; exact PySem.EqMixed.eq_int_str (fin_bl I q (by simp))
    | _ => exact absurd (show false = true from hs) Bool.false_ne_true
  | str i =>
    obtain ⟨t, rfl⟩ := rx
    cases y with
    | non => cases ry; exact PySem.EqNone.eq_str_none (fin_bl I q (by simp))
    | bl j => cases ry; exact PySem.EqMixed.eq_str_bool (fin_bl I q (by simp))
    | int j => obtain ⟨t', rfl⟩ := ry; exact PySem.EqMixed.eq_str_int (fin_bl I q (by simp))
    | str j => obtain ⟨t', rfl⟩ := ry; exact eq_str (fin_bl I q dec_str)
    | _ => exact absurd (show false = true from hs) Bool.false_ne_true
  | byt i =>
    obtain ⟨t, rfl⟩ := rx
    cases y with
    | byt j => obtain ⟨t', rfl⟩ := ry; exact PySem.W.eq_bytes (fin_bl I q dec_byt)
    | _ => exact absurd (show false = true from hs) Bool.false_ne_true
  | _ => cases y <;> exact absurd (show false = true from hs) Bool.false_ne_true
theorem op_ne : OpR X (compareOp .NotEq) rNe := by
  intro pins s σ H x y v u Q I rx ry h
  obtain ⟨hs, q⟩ := h
  cases x with
  | non =>
    cases rx
    cases y with
    | non => cases ry; exact PySem.EqNone.ne_none_none (fin_bl I q (by simp))
    | bl j => cases ry; exact PySem.EqNone.ne_none_bool (fin_bl I q (by simp))
    | int j => obtain ⟨t', rfl⟩ := ry; exact PySem.EqNone.ne_none_int (fin_bl I q (by simp))
    | str j => obtain ⟨t', rfl⟩ := ry; exact PySem.EqNone.ne_none_str (fin_bl I q (by simp))
    | _ => exact absurd (show false = true from hs) Bool.false_ne_true
  | bl i =>
    cases rx
    cases y with
    | non => cases ry; exact PySem.EqNone.ne_bool_none (fin_bl I q (by simp))
    | bl j => cases ry; exact ne_bool (fin_bl I q (congrArg not dec_bl))
    | str j => obtain ⟨t', rfl⟩ := ry; exact PySem.EqMixed.ne_bool_str (fin_bl I q (by simp))
    | _ => exact absurd (show false = true from hs) Bool.false_ne_true
  | int i =>
    obtain ⟨t, rfl⟩ := rx
    cases y with
    | non => cases ry; exact PySem.EqNone.ne_int_none (fin_bl I q (by simp))
    | int j => obtain ⟨t', rfl⟩ := ry; exact ne_int (fin_bl I q (congrArg not dec_int))
    | str j => obtain ⟨t', rfl⟩ := ry; exact PySem.EqMixed.ne_int_str (fin_bl I q (by simp))
    | _ => exact absurd (show false = true from hs) Bool.false_ne_true
  | str i =>
    obtain ⟨t, rfl⟩ := rx
    cases y with
    | non => cases ry; exact PySem.EqNone.ne_str_none (fin_bl I q (by simp))
    | bl j => cases ry; exact PySem.EqMixed.ne_str_bool (fin_bl I q (by simp))
    | int j => obtain ⟨t', rfl⟩ := ry; exact PySem.EqMixed.ne_str_int (fin_bl I q (by simp))
    | str j => obtain ⟨t', rfl⟩ := ry; exact ne_str (fin_bl I q (congrArg not dec_str))
    | _ => exact absurd (show false = true from hs) Bool.false_ne_true
  | byt i =>
    obtain ⟨t, rfl⟩ := rx
    cases y with
    | byt j => obtain ⟨t', rfl⟩ := ry; exact PySem.W.ne_bytes (fin_bl I q (congrArg not dec_byt))
    | _ => exact absurd (show false = true from hs) Bool.false_ne_true
  | _ => cases y <;> exact absurd (show false = true from hs) Bool.false_ne_true

theorem op_lt : OpR X (compareOp .Lt) (rI0 fun i j => .bl (decide (i < j))) := opB0 fun _ _ _ _ _ _ _ q => lt_int q
theorem op_le : OpR X (compareOp .LtE) (rI0 fun i j => .bl (decide (i ≤ j))) := opB0 fun _ _ _ _ _ _ _ q => le_int q
theorem op_gt : OpR X (compareOp .Gt) (rI0 fun i j => .bl (decide (j < i))) := opB0 fun _ _ _ _ _ _ _ q => gt_int q

theorem nomark (b : Expr) {op : CmpOp} (h : op ≠ .In := by decide) (h2 : op ≠ .NotIn := by decide) : behindInMarks op b = false := by
  have e1 : (op == CmpOp.In) = false := by cases op <;> first | rfl | exact absurd rfl h
  have e2 : (op == CmpOp.NotIn) = false := by cases op <;> first | rfl | exact absurd rfl h2
  cases b <;> simp [behindInMarks, e1, e2]
/-- a comparison as a value; hm: nomark b, or (for in, not in) by with_unfolding_all rfl -/
theorem pe_cmpR {op : CmpOp} {r : R2} (ho : OpR X (compareOp op) r) (ha : PE X a ta) (hb : PE X b tb) (hm : behindInMarks op b = false) : PE X (.Compare a [op] [b] pos) (tOp r ta tb) := by
  intro pins s σ H Q I h
  exact wpAny_Compare1 (binT ha hb I h fun v u s2 x y H2 I2 rx ry q => ho pins s2 σ H2 x y v u Q I2 rx ry q) hm
/-- a reading of a value as a test -/
def tTest (t : TE) : TT := fun σ H Q => t σ H fun x H' => ∃ k, x = .bl k ∧ Q k H'
theorem pt_cmpR {op : CmpOp} {r : R2} (ho : OpR X (compareOp op) r) (ha : PE X a ta) (hb : PE X b tb) (hm : behindInMarks op b = false) : PT X (.Compare a [op] [b] pos) (tTest (tOp r ta tb)) := by
  intro pins s σ H Q I h
  refine wpAny_isTrue_Compare1 (thn (ha pins s σ H _ I h) fun v s1 ⟨x, H1, I1, r1, q1⟩ => thn (hb pins s1 σ H1 _ I1 q1) fun u s2 ⟨y, H2, I2, r2, q2⟩ =>
    thn (ho pins s2 σ H2 x y v u _ I2 r1 r2 q2) fun c s3 ⟨z, H3, I3, r3, k, e, q3⟩ => ?_) hm
  subst e
  cases r3
  exact wpAny_truthy_bool ⟨H3, I3, q3⟩

/-! ### truth -/
theorem line63 : (sizeLine : Nat) < 2 ^ 63 := by rw [sizeLine_eq]; decide

/-! ### strs and bytes -/

/-! ### scalar builtins, by CallR -/
theorem vals1 {x : V} {us : List Value} (r : Vals [x] us) : ∃ u, us = [u] ∧ RelV x u := by
  cases r with
  | cons r1 r2 => cases r2; exact ⟨_, rfl, r1⟩
theorem vals2 {x y : V} {us : List Value} (r : Vals [x, y] us) : ∃ u w', us = [u, w'] ∧ RelV x u ∧ RelV y w' := by
  cases r with
  | cons r1 r2 =>
    cases r2 with
    | cons r3 r4 => cases r4; exact ⟨_, _, rfl, r1, r3⟩
theorem call_max2 (hc : X.calm = true) : CallR X (.builtin "max") (fun xs H Q => ∃ i j, xs = [.int i, .int j] ∧ Q (.int (if j > i then j else i)) H) := by
  intro pins s σ H xs us Q I r h
  obtain ⟨i, j, rfl, q⟩ := h
  obtain ⟨u, w', rfl, ⟨t, rfl⟩, ⟨t', rfl⟩⟩ := vals2 r
  refine max_two_ints (I.ok.hd hc) fun h' tk k => ⟨_, H, I.kept k, ?_, q⟩
  by_cases hj : j > i
  · rw [if_pos hj, if_pos hj]; exact ⟨_, rfl⟩
  · rw [if_neg hj, if_neg hj]; exact ⟨_, rfl⟩
theorem call_min2 (hc : X.calm = true) : CallR X (.builtin "min") (fun xs H Q => ∃ i j, xs = [.int i, .int j] ∧ Q (.int (if j < i then j else i)) H) := by
  intro pins s σ H xs us Q I r h
  obtain ⟨i, j, rfl, q⟩ := h
  obtain ⟨u, w', rfl, ⟨t, rfl⟩, ⟨t', rfl⟩⟩ := vals2 r
  refine min_two_ints (I.ok.hd hc) fun h' tk k => ⟨_, H, I.kept k, ?_, q⟩
  by_cases hj : j < i
  · rw [if_pos hj, if_pos hj]; exact ⟨_, rfl⟩
  · rw [if_neg hj, if_neg hj]; exact ⟨_, rfl⟩
end
end L2

namespace L2
open PySem PySem.Spec PyProof.Rows

/-! ### an instance, its attributes a map -/
structure ObjM (h : Heap) (x dx C : Addr) (mA : Str → Option Value) : Prop where
  obj : h.get? x = some (PySem.W.instObj C dx)
  ns : h.Ns1 dx mA
  ne : dx ≠ x

theorem lookIn_ns {h : Heap} {dx : Addr} {mA : Str → Option Value} (n : h.Ns1 dx mA) : ∃ od, h.get? dx = some od ∧ ∀ name, PySem.W.lookIn name od = some (mA name) := by
  obtain ⟨o, es, ep, ho, hd, hk, _, hm⟩ := n
  refine ⟨o, ho, fun name => ?_⟩
  have e := hm name
  unfold nsFind findBy at e
  rw [← Array.find?_toList] at e
  unfold PySem.W.lookIn
  rw [hd]
  dsimp only
  split
  · rename_i y q
    rw [q] at e
    exact congrArg some e
  · rename_i q
    rw [q] at e
    have a : es.toList.any (·.refKey) = false := by
      rw [List.any_eq_false]
      intro y hy
      obtain ⟨z, t, hkey⟩ := hk y (Array.mem_toList_iff.mp hy)
      simp [DictEntry.refKey, hkey]
    have a' : ¬ es.toList.any (·.refKey) = true := by rw [a]; exact Bool.false_ne_true
    rw [if_neg a']
    exact congrArg some e

theorem ObjM.look {h : Heap} {x dx C : Addr} {mA : Str → Option Value} (I : ObjM h x dx C mA) : ∃ od, PySem.W.InstAt h x (PySem.W.instObj C dx) C (some od) ∧ ∀ name, PySem.W.lookIn name od = some (mA name) :=
  let ⟨od, ho, hl⟩ := lookIn_ns I.ns
  ⟨od, ⟨I.obj, rfl, rfl, ho⟩, hl⟩

section
variable {prog : Program} {w : World} {A : Around} {E : Value → Shared → Prop} {s : Shared} {K : PySem.W.Frag} {x dx C f : Addr} {mA : Str → Option Value} {name : Str} {v : Value}

theorem get_map {expr : Bool} {Q : Value → Shared → Prop} (X : K.In s.heap) (I : ObjM s.heap x dx C mA) (hg : PySem.W.plainGet K C name = true) (hh : PySem.W.hasDictIn K C = true)
    (ha : PySem.W.findIn K (.ref C) name = some none) (hv : mA name = some v) (hv' : PySem.W.handedIn v = true) (h : Q v { s with toks := s.toks + 1 }) :
    wpAny (model prog w) A (getAttr (.ref x) name expr) Q E s := by
  obtain ⟨od, J, hl⟩ := I.look
  exact PySem.W.get_value X J (PySem.W.plainGet_of hg).1 (PySem.W.findObj_own hh ha rfl (by rw [hl, hv])) hv' h

theorem get_meth {pl : Sem Bool} {Q : Value × List Value → Shared → Prop} (X : K.In s.heap) (I : ObjM s.heap x dx C mA) (hg : PySem.W.plainGet K C name = true)
    (hf : PySem.W.findIn K (.ref C) name = some (some (.ref f))) (ht : PySem.W.isFn K (.ref f) = true) (hv : mA name = none) (h : Q (.ref f, [.ref x]) s) :
    wpAny (model prog w) A (getMethod (.ref x) name pl) Q E s := by
  obtain ⟨od, J, hl⟩ := I.look
  exact PySem.W.method_fn X J (PySem.W.plainGet_of hg).1 (PySem.W.plainGet_of hg).2 hf (beq_iff_eq.mp ht) (by show (PySem.W.lookIn name od).map (·.isSome) = some false; rw [hl, hv]; rfl) h

theorem set_map {ns : List Str} {Q : Unit → Shared → Prop} (X : K.In s.heap) (I : ObjM s.heap x dx C mA)
    (hs : PySem.W.findIn K (.ref C) "__setattr__" = some (some (.builtin "object.__setattr__"))) (hp : PySem.W.plainOver K C = true) (ht : PySem.W.takerIn K C name = some none) (hh : PySem.W.hasDictIn K C = true)
    (hw : PySem.Within mA ns) (hsz : ns.length ≤ sizeLine)
    (h : ∀ h', ObjM h' x dx C (fun y => if y = name then some v else mA y) → Heap.SameBut dx s.heap h' → Q () { s with heap := h', toks := s.toks + 2 }) :
    wpAny (model prog w) A (setAttr (.ref x) name v) Q E s := by
  obtain ⟨od, J, hl⟩ := I.look
  refine PySem.W.set_plain X J hs (PySem.W.osa_open (s := { s with toks := s.toks + 1 }) (r := none) X J hp ht fun b => ?_)
  obtain ⟨cd, hc, hd'⟩ := PySem.W.any_some hh
  have hx : s.heap.get? x = some ⟨.ref C, some dx, .plain, #[]⟩ := I.obj
  refine wpAny_bind (wpAny_pure (wpAny_bind (wpAny_bind (wpAny_loadPart hx (wpAny_bind (PySem.W.Looks.here (s := { s with toks := s.toks + 1 }) (PySem.W.looks_clsIn X hc) ?_))))))
  rw [hd']
  refine wpAny_pure (a := some dx) (wpAny_bind (wpAny_pure (wpAny_bind ?_)))
  refine wpAny_nsSet1 (s := { s with toks := s.toks + 1 }) I.ns fun h' hn2 hs2 => ?_
  obtain ⟨oD, esD, epD, hoD, hdD, hcD⟩ := hn2.count (PySem.Within.cons name v hw)
  refine wpAny_bind (wpAny_lookBehind hoD (by rw [hdD]; exact pastItsLine_dict (Nat.le_trans hcD (by rw [List.length_cons]; omega))) ?_)
  exact wpAny_pure (h _ ⟨(hs2.2 _ (Ne.symm I.ne)).trans I.obj, hn2, I.ne⟩ hs2)

/-- C(..): the dict at the heap's end, the instance behind it; then its __init__ -/
theorem make_map {R : Result → Shared → Prop} {vs : List Value} {kw : List (Str × Value)} (X : K.In s.heap) (hm : PySem.W.makesIn K C = true)
    (hi : PySem.W.findIn K (.ref C) "__init__" = some (some (.ref f))) (hf : PySem.W.typeIn K (.ref f) = some (.type "function"))
    (h : codeAny (model prog w) (A.under (.builtin "type.__call__" ⟨.ref C :: vs, kw⟩)) (.call (.ref f) ⟨.ref (s.heap.objs.size + 1) :: vs, kw⟩) (PySem.W.InitBack (s.heap.objs.size + 1) R)
      { s with heap := (s.heap.push PySem.W.emptyDict).push (PySem.W.instObj C s.heap.objs.size) }) :
    codeAny (model prog w) A (.call (.ref C) ⟨vs, kw⟩) R s := by
  obtain ⟨hh, g, d, t, os⟩ := s
  exact PySem.W.make_core (PySem.W.makes_of X hm) (PySem.W.looks_findIn X hi) (fun self => PySem.W.bind_fn X self hf) (.inl rfl) h
end

/-! ### the attributes as a list of pairs -/
def putF (f : Str) (v : V) : List (Str × V) → List (Str × V)
  | [] => [(f, v)]
  | (g, x) :: r => if g = f then (g, v) :: r else (g, x) :: putF f v r
theorem lookup_putF (f g : Str) (v : V) : ∀ fs : List (Str × V), (putF f v fs).lookup g = if g = f then some v else fs.lookup g
  | [] => by
    show List.lookup g [(f, v)] = _
    by_cases h : g = f
    · have hb : (g == f) = true := beq_iff_eq.mpr h
      simp only [List.lookup, hb, if_pos h]
    · have hb : (g == f) = false := beq_eq_false_iff_ne.mpr h
      simp only [List.lookup, hb, if_neg h]
  | (k, x) :: r => by
    have ih := lookup_putF f g v r
    rw [show putF f v ((k, x) :: r) = (if k = f then (k, v) :: r else (k, x) :: putF f v r) from rfl]
    by_cases hk : k = f
    · rw [if_pos hk]
      by_cases h : g = k
      · have hb : (g == k) = true := beq_iff_eq.mpr h
        simp only [List.lookup, hb, if_pos (h.trans hk)]
      · have hb : (g == k) = false := beq_eq_false_iff_ne.mpr h
        simp only [List.lookup, hb, if_neg (fun e : g = f => h (e.trans hk.symm))]
    · rw [if_neg hk]
      by_cases h : g = k
      · have hb : (g == k) = true := beq_iff_eq.mpr h
        simp only [List.lookup, hb, if_neg (fun e : g = f => hk (h.symm.trans e))]
      · have hb : (g == k) = false := beq_eq_false_iff_ne.mpr h
        simp only [List.lookup, hb]
        exact ih
theorem keys_putF (f : Str) (v : V) : ∀ fs : List (Str × V), f ∈ (putF f v fs).map (·.1) ∧ ∀ g, g ∈ fs.map (·.1) → g ∈ (putF f v fs).map (·.1)
  | [] => ⟨by simp [putF], fun g h => by simp at h⟩
  | (k, x) :: r => by
    obtain ⟨i1, i2⟩ := keys_putF f v r
    rw [show putF f v ((k, x) :: r) = (if k = f then (k, v) :: r else (k, x) :: putF f v r) from rfl]
    by_cases hk : k = f
    · rw [if_pos hk]
      subst hk
      exact ⟨by simp, fun g h => by simpa using h⟩
    · rw [if_neg hk]
      refine ⟨?_, fun g h => ?_⟩
      · rw [List.map_cons]
        exact List.mem_cons_of_mem _ i1
      · rw [List.map_cons] at h ⊢
        rcases List.mem_cons.mp h with e | e
        · exact List.mem_cons.mpr (.inl e)
        · exact List.mem_cons_of_mem _ (i2 g e)
theorem length_putF (f : Str) (v : V) : ∀ fs : List (Str × V), (putF f v fs).length ≤ fs.length + 1
  | [] => by simp [putF]
  | (k, x) :: r => by
    have ih := length_putF f v r
    rw [show putF f v ((k, x) :: r) = (if k = f then (k, v) :: r else (k, x) :: putF f v r) from rfl]
    by_cases hk : k = f
    · rw [if_pos hk, List.length_cons, List.length_cons]; omega
    · rw [if_neg hk, List.length_cons, List.length_cons]; omega

theorem RelO.some_of {v : V} {o : Option Value} (r : RelO (some v) o) : ∃ u, o = some u ∧ RelV v u := by
  cases o with
  | none => exact (show False from r).elim
  | some u => exact ⟨u, rfl, r⟩
theorem RelO.none_of {o : Option Value} (r : RelO none o) : o = none := by
  cases o with
  | none => rfl
  | some u => exact (show False from r).elim
theorem handed_of {v : V} {u : Value} (r : RelV v u) : PySem.W.handedIn u = true := by
  cases v with
  | non => cases (show u = Value.none from r); rfl
  | bl b => cases (show u = Value.bool b from r); rfl
  | int i => obtain ⟨t, e⟩ := (show ∃ t, u = Value.int i t from r); cases e; rfl
  | str x => obtain ⟨t, e⟩ := (show ∃ t, u = Value.str x t from r); cases e; rfl
  | byt b => obtain ⟨t, e⟩ := (show ∃ t, u = Value.bytes b t from r); cases e; rfl
  | flt b => obtain ⟨t, e⟩ := (show ∃ t, u = Value.float b t from r); cases e; rfl
  | ref a => cases (show u = Value.ref a from r); rfl
  | ty n => cases (show u = Value.type n from r); rfl

section
variable {P : Program} {w : World} {H H' : Hp} {h h' : Heap} {a C dx : Addr} {fs fs' : List (Str × V)}
theorem ins_get (hok : HOk P w H h) (e : H a = some (.ins C dx fs)) : ∃ mA, ObjM h a dx C mA ∧ (∀ f, RelO (fs.lookup f) (mA f)) ∧ PySem.Within mA (fs.map (·.1)) ∧ fs.length ≤ 1000 ∧ H dx = some (.own a) := by
  obtain ⟨d, z, ne, ob, mA, n, r, q⟩ := (show ObjOk P w H h a (.ins C dx fs) from hok a _ e)
  exact ⟨mA, ⟨ob, n, ne⟩, r, q, z, d⟩
end

/-! ### what of the text a class must have -/
structure Cls (K : PySem.W.Frag) (C : Addr) : Prop where
  pg : PySem.W.plainGet K C Str.empty = true
  hd : PySem.W.hasDictIn K C = true
  po : PySem.W.plainOver K C = true
  sa : PySem.W.findIn K (.ref C) "__setattr__" = some (some (.builtin "object.__setattr__"))
theorem Cls.get {K : PySem.W.Frag} {C : Addr} (c : Cls K C) (f : Str) : PySem.W.plainGet K C f = true := c.pg
/-- no class of it has the name -/
def NoAttr (K : PySem.W.Frag) (C : Addr) (f : Str) : Prop := PySem.W.findIn K (.ref C) f = some none
theorem NoAttr.taker {K : PySem.W.Frag} {C : Addr} {f : Str} (n : NoAttr K C f) : PySem.W.takerIn K C f = some none := by
  unfold PySem.W.takerIn
  rw [show PySem.W.findIn K (.ref C) f = some none from n]
  rfl
/-- a method: a plain def of the class or of one above it -/
structure Meth (K : PySem.W.Frag) (C : Addr) (m : Str) (f : Addr) : Prop where
  at_ : PySem.W.findIn K (.ref C) m = some (some (.ref f))
  fn : PySem.W.isFn K (.ref f) = true
  kp : PySem.W.keepIn K (.ref f) = true

section
variable {X : Cx} {pins : List (Addr × Obj)} {σ : St} {H : Hp} {s : Shared} {a C dx : Addr} {fs : List (Str × V)} {f : Str} {v : V} {A : Around} {E : Value → Shared → Prop}

theorem getattr_ok {b : Bool} {Q : Value → Shared → Prop} (I : Inv X pins σ H s) (e : H a = some (.ins C dx fs)) (c : Cls X.K C) (n : NoAttr X.K C f) (l : fs.lookup f = some v)
    (h : ∀ u s', Inv X pins σ H s' → RelV v u → Q u s') : wpAny (model X.prog X.w) A (getAttr (.ref a) f b) Q E s := by
  obtain ⟨mA, O, r, _, _, _⟩ := ins_get I.hok e
  obtain ⟨u, hu, ru⟩ := RelO.some_of (v := v) (o := mA f) (by rw [← l]; exact r f)
  exact get_map I.kIn O (c.get f) c.hd n hu (handed_of ru) (h u _ (I.tok _) ru)

theorem getmeth_ok {m : Str} {g : Addr} {pl : Sem Bool} {Q : Value × List Value → Shared → Prop} (I : Inv X pins σ H s) (e : H a = some (.ins C dx fs)) (c : Cls X.K C) (k : Meth X.K C m g) (l : fs.lookup m = none)
    (h : Q (.ref g, [.ref a]) s) : wpAny (model X.prog X.w) A (getMethod (.ref a) m pl) Q E s := by
  obtain ⟨mA, O, r, _, _, _⟩ := ins_get I.hok e
  have hn : mA m = none := RelO.none_of (by rw [← l]; exact r m)
  exact get_meth I.kIn O (c.get m) k.at_ k.fn hn h

theorem setattr_ok {y : V} {u : Value} {Q : Unit → Shared → Prop} (I : Inv X pins σ H s) (e : H a = some (.ins C dx fs)) (c : Cls X.K C) (n : NoAttr X.K C f) (hl : fs.length < 1000) (ry : RelV y u)
    (h : ∀ s', Inv X pins σ (upd H a (.ins C dx (putF f y fs))) s' → Q () s') : wpAny (model X.prog X.w) A (setAttr (.ref a) f u) Q E s := by
  obtain ⟨mA, O, r, wi, _, ho⟩ := ins_get I.hok e
  have hz : (fs.map (·.1)).length ≤ sizeLine := by rw [List.length_map, sizeLine_eq]; omega
  refine set_map I.kIn O c.sa c.po n.taker c.hd wi hz fun h' O' sb => h _ ?_
  have hd : ∃ o, h'.get? dx = some o := let ⟨o, _, _, e', _⟩ := O'.ns; ⟨o, e'⟩
  refine I.write (x := a) (e := dx) (by rw [e]; exact True.intro) (.inr ho) (fun b q hb z => (sb.2 b hb).trans z) hd ?_
  refine ⟨by rw [upd_ne O.ne]; exact ho, ?_, O.ne, O'.obj, _, O'.ns, fun g => ?_, fun g hg => ?_⟩
  · have := length_putF f y fs; omega
  · show RelO ((putF f y fs).lookup g) (if g = f then some u else mA g)
    rw [lookup_putF]
    by_cases q : g = f
    · rw [if_pos q, if_pos q]; exact ry
    · rw [if_neg q, if_neg q]; exact r g
  · by_cases q : g = f
    · rw [q]; exact (keys_putF f y fs).1
    · refine (keys_putF f y fs).2 g (wi g fun z => hg ?_)
      show (if g = f then some u else mA g) = none
      rw [if_neg q]; exact z

/-- a new instance, tracked, without attributes -/
theorem Inv.made (I : Inv X pins σ H s) : Inv X pins σ (upd (upd H s.heap.objs.size (.own (s.heap.objs.size + 1))) (s.heap.objs.size + 1) (.ins C s.heap.objs.size []))
    { s with heap := (s.heap.push PySem.W.emptyDict).push (PySem.W.instObj C s.heap.objs.size) } := by
  have e1 : (s.heap.push PySem.W.emptyDict).get? s.heap.objs.size = some PySem.W.emptyDict := Heap.get?_push_size s.heap rfl
  have e2 : ((s.heap.push PySem.W.emptyDict).push (PySem.W.instObj C s.heap.objs.size)).get? (s.heap.objs.size + 1) = some (PySem.W.instObj C s.heap.objs.size) := by
    have := Heap.get?_push_size (s.heap.push PySem.W.emptyDict) (o := PySem.W.instObj C s.heap.objs.size) rfl
    rwa [Heap.size_push] at this
  have e3 : (s.heap.push PySem.W.emptyDict).Ns s.heap.objs.size (fun _ => none) := ⟨PySem.W.emptyDict, #[], _, e1, rfl, (fun e he => absurd he (by simp)), fun _ => rfl⟩
  have I1 := I.laid (a := s.heap.objs.size) (o := .own (s.heap.objs.size + 1)) (h' := s.heap.push PySem.W.emptyDict) (t' := s.toks) (fun b u q => Heap.get?_push_of_some _ q) (Nat.le_refl _) ⟨_, e1⟩
  refine I1.laid (a := s.heap.objs.size + 1) (o := .ins C s.heap.objs.size []) (t' := s.toks) (fun b u q => Heap.get?_push_of_some _ q) (Nat.le_of_eq (Heap.size_push _ _)) ?_
  have ne : s.heap.objs.size ≠ s.heap.objs.size + 1 := Nat.ne_of_lt (Nat.lt_succ_self _)
  refine ⟨by rw [upd_ne ne, upd_same], Nat.zero_le _, ne, e2, fun _ => none, (Heap.Ns1.of_empty e3).at fun o q => Heap.get?_push_of_some _ q, fun _ => True.intro, fun y hy => absurd rfl hy⟩

/-- e.f where nothing but the object is asked: through attributeBase (super) and the last hold -/
theorem attr_of {prog : Program} {w : World} {env : Env} {e : Expr} {f : Str} {pos : Pos} {s : Shared} {Q : Value → Shared → Prop} (hb : attributeBase e f env (eval e env) = eval e env)
    (h : wpAny (model prog w) A (eval e env) (fun o s₁ => wpAny (model prog w) A (getAttr o f true) Q E s₁) E s) : wpAny (model prog w) A (eval (.Attribute e f pos) env) Q E s :=
  Attribute_any_ h (by rw [arm_eval_Attribute, hb])
end

/-! ### readings and rules -/
/-- e.f, an attribute of the instance -/
def tFld (K : PySem.W.Frag) (ta : TE) (f : Str) : TE := fun σ H Q => ta σ H fun x H1 => ∃ a C dx fs v, x = .ref a ∧ H1 a = some (.ins C dx fs) ∧ Cls K C ∧ NoAttr K C f ∧ fs.lookup f = some v ∧ Q v H1
/-- e.f = value -/
def sFld (K : PySem.W.Frag) (ta tv : TE) (f : Str) : TS := fun D σ H => tv σ H fun y H1 => ta σ H1 fun x H2 => ∃ a C dx fs, x = .ref a ∧ H2 a = some (.ins C dx fs) ∧ Cls K C ∧ NoAttr K C f ∧ fs.length < 1000 ∧
  D.nx σ (upd H2 a (.ins C dx (putF f y fs)))

section
variable {X : Cx} {o e value : Expr} {f : Str} {pos pos' tpos : Pos} {ta tv : TE}
theorem pe_fld (he : PE X e ta) (hb : attributeBase e f X.env (eval e X.env) = eval e X.env) : PE X (.Attribute e f pos) (tFld X.K ta f) := by
  intro pins s σ H Q I h
  refine attr_of hb (thn (he pins s σ H _ I h) fun u s1 ⟨x, H1, I1, rx, a, C, dx, fs, v, ex, ea, c, n, l, q⟩ => ?_)
  subst ex
  obtain rfl : u = Value.ref a := rx
  exact getattr_ok I1 ea c n l fun u' s2 I2 ru => ⟨v, H1, I2, ru, q⟩
theorem ps_fld (ha : PE X o ta) (hv : PE X value tv) (hs : swapsWith value (some (.Attribute o f pos')) pos.line X.env = pure false) : PS X (.Assign [.Attribute o f pos'] value pos) (sFld X.K ta tv f) := by
  intro pins s σ H D I h
  refine plainObj_wpAny_Assign_Attribute (thn (hv pins s σ H _ I h) fun u s1 ⟨y, H1, I1, ry, q⟩ => thn (ha pins s1 σ H1 _ I1 q) fun ov s2 ⟨x, H2, I2, rx, a, C, dx, fs, ex, ea, c, n, l, q2⟩ => ?_) hs
  subst ex
  obtain rfl : ov = Value.ref a := rx
  exact setattr_ok I2 ea c n l ry fun s3 I3 => ⟨σ, _, I3, q2⟩

end

/-! ### isinstance -/
section
variable {X : Cx} {pins : List (Addr × Obj)} {σ : St} {H : Hp} {s : Shared} {A : Around} {E : Value → Shared → Prop} {Q : Value → Shared → Prop} {c : Value} {b : Bool}
end
end L2

namespace L2
open PySem PySem.Spec PyProof.Rows

/-! ### room -/
structure Room (k : Nat) (A : Around) : Prop where
  hd : A.handled = none
  dp : A.depth + 3 * k + 5 < recursionLimit
  un : A.units + 16 * k + 200 < cLine
theorem Room.mono {j k : Nat} {A : Around} (r : Room k A) (h : j ≤ k) : Room j A := ⟨r.hd, by have := r.dp; omega, by have := r.un; omega⟩
theorem Room.deeper {k : Nat} {A : Around} (r : Room (k + 1) A) (env : Env) : Room k (A.deeper env) :=
  ⟨r.hd, by have := r.dp; show A.depth + 1 + 3 * k + 5 < _; omega, by have := r.un; show A.units + 3 + 16 * k + 200 < _; omega⟩
theorem make_depth {A : Around} {C : Addr} {us : List Value} {kw : List (Str × Value)} : (A.under (.builtin "type.__call__" ⟨.ref C :: us, kw⟩)).depth = A.depth + 1 := by
  first | rfl | simp [Around.under, Code.weight, Code.isCreation, Code.isGuard, Code.isCaller, Code.frames, Code.isFrame, guardIds]
theorem make_units {A : Around} {C : Addr} {us : List Value} {kw : List (Str × Value)} : (A.under (.builtin "type.__call__" ⟨.ref C :: us, kw⟩)).units = A.units + 1 := by
  first | rfl | simp [Around.under, Code.cUnits, Code.frames, Code.isFrame]
theorem Room.make {k : Nat} {A : Around} (r : Room (k + 1) A) (C : Addr) (us : List Value) (kw : List (Str × Value)) : Room k (A.under (.builtin "type.__call__" ⟨.ref C :: us, kw⟩)) :=
  ⟨r.hd, by have := r.dp; rw [make_depth]; omega, by have := r.un; rw [make_units]; omega⟩
theorem Room.depth {k : Nat} {A : Around} (r : Room k A) : A.depth < recursionLimit := by have := r.dp; omega
theorem Room.units {k : Nat} {A : Around} (r : Room k A) : A.units + 64 < cLine := by have := r.un; omega

/-! ### argument lists and displays -/
def tNil : TA := fun _ H Q => Q [] H
def tCons (ta : TE) (tr : TA) : TA := fun σ H Q => ta σ H fun x H1 => tr σ H1 fun xs H2 => Q (x :: xs) H2
section
variable {X : Cx} {e : Expr} {es : List Expr} {te : TE} {t : TA} {pos : Pos}
theorem pa_nil : PA X [] tNil := fun _ _ _ _ H Q I h => Calls.spliced_nil ⟨[], H, I, .nil, h⟩
theorem pa_cons (ha : PE X e te) (hr : PA X es t) (hs : starEach (e :: es) X.env = (false, eval e X.env) :: starEach es X.env := by rfl) : PA X (e :: es) (tCons te t) := by
  intro pos pins s σ H Q I h
  rw [hs]
  show wpAny _ _ (spliced ((false, eval e X.env) :: backTo pos (starEach es X.env))) _ _ s
  refine Calls.spliced_cons (thn (ha pins s σ H _ I h) fun u s1 ⟨x, H1, I1, r1, q1⟩ => ?_)
  exact thn (hr pos pins s1 σ H1 _ I1 q1) fun us s2 ⟨xs, H2, I2, r2, q2⟩ => ⟨x :: xs, H2, I2, .cons r1 r2, q2⟩

def tLst (t : TA) : TE := fun σ H Q => t σ H fun xs H1 => xs.length ≤ sizeLine ∧ ∀ p, H1 p = none → Q (.ref p) (upd H1 p (.lst xs))
theorem pe_lst (h : PA X es t) : PE X (.List es pos) (tLst t) := by
  intro pins s σ H Q I hq
  refine wpAny_List_spliced (thn (h pos pins s σ H _ I hq) fun us s1 ⟨xs, H1, I1, r, z, q⟩ => ⟨by rw [← r.length]; exact z, ?_⟩)
  have hf : H1 s1.heap.objs.size = none := I1.hok.fresh (Nat.le_refl _)
  refine ⟨.ref s1.heap.objs.size, upd H1 s1.heap.objs.size (.lst xs), I1.laid (t' := s1.toks) (fun b u e => Heap.get?_push_of_some _ e) (Nat.le_refl _) ?_, rfl, q _ hf⟩
  exact ⟨z, us, 0, r, Heap.get?_push_size _ rfl⟩
end

/-! ### what a def promises -/
/-- a def's promise: the bound arguments in the parameters' order, the heap, the wanted end, the wanted exception -/
abbrev Sp := List V → Hp → VK → XK → Prop
/-- how an exception lies behind a call (file 08 gives it): the callers' frames, abstract heap and state ahead of the call, the wish, the exception, the state -/
abbrev CXT := List Env → Hp → Shared → XK → Value → Shared → Prop

/-- the state at a call -/
structure Env0 (P : Program) (w : World) (K : PySem.W.Frag) (mg : Str → Option Value) (base : Heap) (A : Around) (outer : List Env) (s : Shared) (H : Hp) : Prop where
  frames : A.frames = some outer
  mod : Mod K mg base
  bs : ∀ b o, base.get? b = some o → s.heap.get? b = some o ∧ H b = none
  bsz : base.objs.size ≤ s.heap.objs.size
  funs : s.heap.FunFrames base outer
  frf : ∀ b ∈ frs outer, H b = none
  hok : HOk P w H s.heap
  bare : AllBare s.gens
/-- a call's end -/
def CE (outer : List Env) (P : Program) (w : World) (H : Hp) (s : Shared) (Q : VK) (u : Value) (s' : Shared) : Prop :=
  ∃ v H', s'.os = s.os ∧ AllBare s'.gens ∧ Un (frs outer) [] H H' s.heap s'.heap ∧ HOk P w H' s'.heap ∧ RelV v u ∧ Q v H'
def CR (CX : CXT) (outer : List Env) (P : Program) (w : World) (H : Hp) (s : Shared) (Q : VK) (E : XK) (r : Result) (s' : Shared) : Prop :=
  match r with
  | .ok (.ret u) => CE outer P w H s Q u s'
  | .ok _ => False
  | .error e => CX outer H s E e s'
structure FnOk (P : Program) (w : World) (K : PySem.W.Frag) (mg : Str → Option Value) (base : Heap) (CX : CXT) (k : Nat) (f : Addr) (fd : FuncData) (ps : List Str) (sp : Sp) : Prop where
  len : ∀ vs H Q E, sp vs H Q E → vs.length = ps.length
  run : ∀ (A : Around) (outer : List Env) (s : Shared) (H : Hp) (args : Args) (us : List Value) (vs : List V) (Q : VK) (E : XK), Room k A → Env0 P w K mg base A outer s H → BindsTo s fd args (ps.zip us) → Vals vs us → sp vs H Q E →
    codeAny (model P w) A (.call (.ref f) args) (CR CX outer P w H s Q E) s

theorem Env0.make {P : Program} {w : World} {K : PySem.W.Frag} {mg : Str → Option Value} {base : Heap} {A : Around} {outer : List Env} {s : Shared} {H : Hp} (e : Env0 P w K mg base A outer s H) (C : Addr) (us : List Value) (kw : List (Str × Value)) :
    Env0 P w K mg base (A.under (.builtin "type.__call__" ⟨.ref C :: us, kw⟩)) outer s H := ⟨by first | exact e.frames | (simpa [Around.under, Code.envs, Code.isFrame, pushEnvs] using e.frames), e.mod, e.bs, e.bsz, e.funs, e.frf, e.hok, e.bare⟩

section
variable {X : Cx} {pins : List (Addr × Obj)} {σ : St} {H : Hp} {s s' : Shared}
/-- from a body: what a callee wants -/
theorem Inv.env0 (I : Inv X pins σ H s) : Env0 X.prog X.w X.K X.mg X.base X.A X.stack s H :=
  ⟨I.ok.frames, I.ok.mod, I.bs, Nat.le_trans I.ok.bsz I.sz, I.stack, I.stkFree, I.hok, I.bare⟩
/-- behind a call -/
theorem Inv.after {Q : VK} {u : Value} (I : Inv X pins σ H s) (h : CE X.stack X.prog X.w H s Q u s') : EP X pins σ Q u s' := by
  obtain ⟨v, H', os, bare, un, hok, r, q⟩ := h
  obtain ⟨hh, g, d, t, os'⟩ := s'
  obtain rfl : os' = s.os := os
  exact ⟨v, H', I.call (h' := hh) (g' := g) (d' := d) (t' := t) (ch := []) un hok bare (fun b z => absurd z (by simp)), r, q⟩
end

/-! ### calls -/
/-- f(..): the written arguments, then the defaults dvs; E: what is wanted of an exception -/
def tCall (sp : Sp) (dvs : List V) (E : XK) (t : TA) : TE := fun σ H Q => t σ H fun vs H1 => sp (vs ++ dvs) H1 Q E
/-- o.m(..) of an instance of the class at C -/
def tMeth (C : Addr) (m : Str) (sp : Sp) (dvs : List V) (E : XK) (ta : TE) (t : TA) : TE := fun σ H Q => ta σ H fun x H1 => ∃ a dx fs, x = .ref a ∧ H1 a = some (.ins C dx fs) ∧ fs.lookup m = none ∧
  t σ H1 fun vs H2 => sp (x :: (vs ++ dvs)) H2 Q E
/-- C(..): a new instance and its dict, then __init__ -/
def tMake (C : Addr) (sp : Sp) (dvs : List V) (E : XK) (t : TA) : TE := fun σ H Q => t σ H fun vs H1 => ∀ x dx, H1 x = none → H1 dx = none → dx ≠ x →
  sp (.ref x :: (vs ++ dvs)) (upd (upd H1 dx (.own x)) x (.ins C dx [])) (fun v H2 => v = .non ∧ Q (.ref x) H2) E

/-- how the parameters are bound: us the positional arguments, kw the keywords' values by name, ds the defaults that fill up -/
def Binds (K : PySem.W.Frag) (fd : FuncData) (ps : List Str) (ds : List Value) : Prop :=
  ∀ (s : Shared) (us : List Value), K.In s.heap → (us ++ ds).length = ps.length → BindsTo s fd ⟨us, []⟩ (ps.zip (us ++ ds))
/-- every parameter is given -/
theorem Binds.all {K : PySem.W.Frag} {fd : FuncData} {ps : List Str} (h : ∀ us : List Value, us.length = ps.length → bindArgs fd ⟨us, []⟩ = pure (ps.zip us)) : Binds K fd ps [] := fun s us _ hl => by
  rw [List.append_nil] at hl ⊢
  exact .of_eq (h us hl)

/-- an exception of a callee reaches what this body wants of exceptions -/
def Passes (CX : CXT) (X : Cx) (E : XK) : Prop := ∀ (pins : List (Addr × Obj)) (σ : St) (H : Hp) (s : Shared) (e : Value) (s' : Shared), Inv X pins σ H s → CX X.stack H s E e s' → X.xe e s'

section
variable {X : Cx} {CX : CXT} {k : Nat} {f C : Addr} {fd : FuncData} {ps : List Str} {sp : Sp} {dvs : List V} {ds : List Value} {E : XK} {x m : Str} {p pos apos : Pos} {e o : Expr} {es : List Expr} {ta : TE} {t : TA}

/-- the callee runs -/
theorem run_fn {pins : List (Addr × Obj)} {σ : St} {H : Hp} {s : Shared} {Q : VK} {us : List Value} {vs : List V} (F : FnOk X.prog X.w X.K X.mg X.base CX k f fd ps sp) (hr : Room k X.A) (hb : Binds X.K fd ps ds) (hd : Vals dvs ds) (hx : Passes CX X E)
    (I : Inv X pins σ H s) (r : Vals vs us) (h : sp (vs ++ dvs) H Q E) : wpAny (model X.prog X.w) X.A (call (.ref f) us) (EP X pins σ Q) X.xe s := by
  have r2 : Vals (vs ++ dvs) (us ++ ds) := r.append hd
  have hl : (us ++ ds).length = ps.length := by rw [← r2.length]; exact F.len _ _ _ _ h
  refine wpAny_call (codeAny_mono (F.run X.A X.stack s H ⟨us, []⟩ (us ++ ds) (vs ++ dvs) Q E hr I.env0 (hb s us I.kIn hl) r2 h) fun r s' hq => ?_)
  cases r with
  | error e => exact hx pins σ H s e s' I hq
  | ok fl =>
    cases fl with
    | ret u => exact I.after hq
    | next => exact False.elim hq
    | brk => exact False.elim hq
    | cont => exact False.elim hq

theorem pe_call (F : FnOk X.prog X.w X.K X.mg X.base CX k f fd ps sp) (hr : Room k X.A) (hg : Gl X x) (hm : X.mg x = some (.ref f)) (hk : PySem.W.keepIn X.K (.ref f) = true) (hb : Binds X.K fd ps ds) (hd : Vals dvs ds) (hx : Passes CX X E)
    (ha : PA X (e :: es) t) (hdb : (x == ("__debug__" : Str)) = false := by decide) (he : starEach (e :: es) X.env = (false, eval e X.env) :: starEach es X.env := by rfl) (hpl : (backTo pos (starEach es X.env)).any (·.1) = false := by rfl) :
    PE X (.Call (.Name x p) (e :: es) [] pos) (tCall sp dvs E t) := by
  intro pins s σ H Q I h
  refine wpAny_Call_Name_kw (ld_glob I hg hm ?_ hdb)
  refine PySem.W.callWith_K (h₀ := X.base) I.ok.mod.kin hk (thn (ha pos pins s σ H _ I h) fun us s1 ⟨vs, H1, I1, r, q⟩ => ⟨I1.kIn, ?_⟩) he hpl
  exact run_fn F hr hb hd hx I1 r q

/-- o.m(e, ..) -/
theorem pe_meth {pl : Sem Bool} (he : PE X o ta) (c : Cls X.K C) (hm : Meth X.K C m f) (F : FnOk X.prog X.w X.K X.mg X.base CX k f fd ps sp) (hr : Room k X.A) (hb : Binds X.K fd ps ds) (hd : Vals dvs ds) (hx : Passes CX X E) (ha : PA X (e :: es) t)
    (hst : starEach (e :: es) X.env = (false, eval e X.env) :: starEach es X.env := by rfl) (hpl : (backTo pos (starEach es X.env)).any (·.1) = false := by rfl)
    (ht : eval (.Call (.Attribute o m apos) (e :: es) [] pos) X.env = (do
      let ov ← eval o X.env
      standAt apos.atName
      let (f, first) ← holding [ov] (getMethod ov m pl)
      callWith pos f first (backTo pos (starEach (e :: es) X.env)) (backToKw pos (keywordEach [] X.env))) := by rfl) :
    PE X (.Call (.Attribute o m apos) (e :: es) [] pos) (tMeth C m sp dvs E ta t) := by
  intro pins s σ H Q I h
  refine PySem.W.methodCall_KW (pl := pl) (thn (he pins s σ H _ I h) fun u s1 ⟨x, H1, I1, rx, a, dx, fs, ex, ea, l, q⟩ => ?_) ht
  subst ex
  obtain rfl : u = Value.ref a := rx
  refine getmeth_ok I1 ea c hm l ?_
  refine PySem.W.callWith_K (first := [.ref a]) (h₀ := X.base) I.ok.mod.kin hm.kp (thn (ha pos pins s1 σ H1 _ I1 q) fun us s2 ⟨vs, H2, I2, r, q2⟩ => ⟨I2.kIn, ?_⟩) hst hpl
  exact run_fn (us := .ref a :: us) (vs := .ref a :: vs) F hr hb hd hx I2 (.cons rfl r) q2
/-- o.m() -/
theorem pe_meth0 {pl : Sem Bool} (he : PE X o ta) (c : Cls X.K C) (hm : Meth X.K C m f) (F : FnOk X.prog X.w X.K X.mg X.base CX k f fd ps sp) (hr : Room k X.A) (hb : Binds X.K fd ps ds) (hd : Vals dvs ds) (hx : Passes CX X E)
    (ht : eval (.Call (.Attribute o m apos) [] [] pos) X.env = (do
      let ov ← eval o X.env
      standAt apos.atName
      let (f, first) ← holding [ov] (getMethod ov m pl)
      callWith pos f first (backTo pos (starEach [] X.env)) (backToKw pos (keywordEach [] X.env))) := by rfl) :
    PE X (.Call (.Attribute o m apos) [] [] pos) (tMeth C m sp dvs E ta tNil) := by
  intro pins s σ H Q I h
  refine PySem.W.methodCall_KW (pl := pl) (thn (he pins s σ H _ I h) fun u s1 ⟨x, H1, I1, rx, a, dx, fs, ex, ea, l, q⟩ => ?_) ht
  subst ex
  obtain rfl : u = Value.ref a := rx
  refine getmeth_ok I1 ea c hm l ?_
  exact PySem.W.callWith_K0 (first := [.ref a]) I1.kIn hm.kp (run_fn (us := [.ref a]) (vs := [.ref a]) F hr hb hd hx I1 (.cons rfl .nil) q)

/-- what a class must have to be made -/
structure Mk (K : PySem.W.Frag) (C f : Addr) : Prop where
  makes : PySem.W.makesIn K C = true
  init : PySem.W.findIn K (.ref C) "__init__" = some (some (.ref f))
  fn : PySem.W.isFn K (.ref f) = true
  kp : PySem.W.keepIn K (.ref C) = true

theorem run_make {pins : List (Addr × Obj)} {σ : St} {H : Hp} {s : Shared} {Q : VK} {us : List Value} {vs : List V} (M : Mk X.K C f) (F : FnOk X.prog X.w X.K X.mg X.base CX k f fd ps sp) (hr : Room (k + 1) X.A) (hb : Binds X.K fd ps ds) (hd : Vals dvs ds)
    (hx : Passes CX X E) (I : Inv X pins σ H s) (r : Vals vs us)
    (h : ∀ x dx, H x = none → H dx = none → dx ≠ x → sp (.ref x :: (vs ++ dvs)) (upd (upd H dx (.own x)) x (.ins C dx [])) (fun v H2 => v = .non ∧ Q (.ref x) H2) E) :
    wpAny (model X.prog X.w) X.A (call (.ref C) us) (EP X pins σ Q) X.xe s := by
  have hq := h (s.heap.objs.size + 1) s.heap.objs.size (I.hok.fresh (Nat.le_succ _)) (I.hok.fresh (Nat.le_refl _)) (Nat.ne_of_lt (Nat.lt_succ_self _))
  have I2 := Inv.made (C := C) I
  have r2 : Vals (V.ref (s.heap.objs.size + 1) :: (vs ++ dvs)) (Value.ref (s.heap.objs.size + 1) :: (us ++ ds)) := .cons rfl (r.append hd)
  have hl : (Value.ref (s.heap.objs.size + 1) :: us ++ ds).length = ps.length := by
    have e := r2.length
    rw [F.len _ _ _ _ hq] at e
    exact e.symm
  refine wpAny_call (make_map (f := f) I.kIn M.makes M.init (beq_iff_eq.mp M.fn) (codeAny_mono (F.run _ X.stack _ _ ⟨Value.ref (s.heap.objs.size + 1) :: us, []⟩ (Value.ref (s.heap.objs.size + 1) :: (us ++ ds)) _ _ E (hr.make C us [])
    (I2.env0.make C us []) (hb _ (Value.ref (s.heap.objs.size + 1) :: us) I2.kIn hl) r2 hq) fun r s' hq' => ?_))
  cases r with
  | error e => exact hx pins σ _ _ e s' I2 hq'
  | ok fl =>
    cases fl with
    | ret u =>
      obtain ⟨v, H', I3, rv, ev, q3⟩ := I2.after hq'
      subst ev
      exact ⟨rv, ⟨V.ref (s.heap.objs.size + 1), H', I3, rfl, q3⟩⟩
    | next => exact False.elim hq'
    | brk => exact False.elim hq'
    | cont => exact False.elim hq'
theorem pe_make (M : Mk X.K C f) (F : FnOk X.prog X.w X.K X.mg X.base CX k f fd ps sp) (hr : Room (k + 1) X.A) (hg : Gl X x) (hm : X.mg x = some (.ref C)) (hb : Binds X.K fd ps ds) (hd : Vals dvs ds) (hx : Passes CX X E)
    (ha : PA X (e :: es) t) (hdb : (x == ("__debug__" : Str)) = false := by decide) (he : starEach (e :: es) X.env = (false, eval e X.env) :: starEach es X.env := by rfl) (hpl : (backTo pos (starEach es X.env)).any (·.1) = false := by rfl) :
    PE X (.Call (.Name x p) (e :: es) [] pos) (tMake C sp dvs E t) := by
  intro pins s σ H Q I h
  refine wpAny_Call_Name_kw (ld_glob I hg hm ?_ hdb)
  refine PySem.W.callWith_K (h₀ := X.base) I.ok.mod.kin M.kp (thn (ha pos pins s σ H _ I h) fun us s1 ⟨vs, H1, I1, r, q⟩ => ⟨I1.kIn, ?_⟩) he hpl
  exact run_make M F hr hb hd hx I1 r q
theorem pe_make0 (M : Mk X.K C f) (F : FnOk X.prog X.w X.K X.mg X.base CX k f fd ps sp) (hr : Room (k + 1) X.A) (hg : Gl X x) (hm : X.mg x = some (.ref C)) (hb : Binds X.K fd ps ds) (hd : Vals dvs ds) (hx : Passes CX X E)
    (hdb : (x == ("__debug__" : Str)) = false := by decide) : PE X (.Call (.Name x p) [] [] pos) (tMake C sp dvs E tNil) := by
  intro pins s σ H Q I h
  refine wpAny_Call_Name_kw (ld_glob I hg hm ?_ hdb)
  exact PySem.W.callWith_K0 I.kIn M.kp (run_make (us := []) M F hr hb hd hx I .nil h)
end

/-! ### keywords -/
section
variable {X : Cx} {CX : CXT} {k : Nat} {f C : Addr} {fd : FuncData} {ps ks : List Str} {sp : Sp} {E : XK} {x m : Str} {p pos apos kpos : Pos} {e o : Expr} {es : List Expr} {kws : List Keyword} {te ta : TE} {t tk : TA} {nm : Option Str}

variable {g : List Value → List Value → List Value} {gV : List V → List V → List V}
end

/-! ### a def's body keeps its promise -/
/-- names: the parameters first -/
structure FnScope (N P : List Str) (sc : Scope) : Prop where
  kind : sc.kind = .function
  co : sc.isCoroutine = false
  gen : sc.isGenerator = false
  nd : N.Nodup
  pre : N.take P.length = P
  par : ∀ x ∈ P, sc.names.lookup x = some .local ∨ sc.names.lookup x = some .cell
  nofree : ∀ y ∈ sc.names, y.2 ≠ .free

theorem bindL_out {kindOf : Str → Option NameKind} {x : Str} : ∀ {binds : List (Str × Value)} {m : Str → Option Value}, (∀ v, (x, v) ∉ binds) → bindL kindOf binds m x = m x
  | [], _, _ => rfl
  | (n, v) :: r, m, h => by
    unfold bindL
    rw [bindL_out fun w hw => h w (List.mem_cons_of_mem _ hw)]
    split
    · have : x ≠ n := by rintro rfl; exact h v List.mem_cons_self
      simp [this]
    · rfl
theorem bindC_out {kindOf : Str → Option NameKind} {x : Str} : ∀ {binds : List (Str × Value)} {m : Str → Option Value}, (∀ v, (x, v) ∉ binds) → bindC kindOf binds m x = m x
  | [], _, _ => rfl
  | (n, v) :: r, m, h => by
    unfold bindC
    rw [bindC_out fun w hw => h w (List.mem_cons_of_mem _ hw)]
    split
    · rfl
    · have : x ≠ n := by rintro rfl; exact h v List.mem_cons_self
      simp [this]
theorem bindL_get {kindOf : Str → Option NameKind} {x : Str} {v : Value} : ∀ {P : List Str} {vs : List Value} {i : Nat} {m : Str → Option Value}, P.Nodup → P[i]? = some x → vs[i]? = some v → kindOf x = some .local →
    bindL kindOf (P.zip vs) m x = some v
  | [], _, _, _, _, h, _, _ => by simp at h
  | _ :: _, [], _, _, _, _, h, _ => by simp at h
  | p :: P, w :: vs, 0, m, nd, h1, h2, hk => by
    simp at h1 h2; subst h1; subst h2
    show bindL kindOf ((p, w) :: P.zip vs) m p = _
    unfold bindL
    rw [bindL_out fun v hv => (List.nodup_cons.mp nd).1 (List.of_mem_zip hv).1, if_pos hk]
    simp
  | p :: P, w :: vs, i + 1, m, nd, h1, h2, hk => by
    show bindL kindOf ((p, w) :: P.zip vs) m x = _
    unfold bindL
    exact bindL_get (i := i) (List.nodup_cons.mp nd).2 (by simpa using h1) (by simpa using h2) hk
theorem bindC_get {kindOf : Str → Option NameKind} {x : Str} {v : Value} : ∀ {P : List Str} {vs : List Value} {i : Nat} {m : Str → Option Value}, P.Nodup → P[i]? = some x → vs[i]? = some v → kindOf x ≠ some .local →
    bindC kindOf (P.zip vs) m x = some v
  | [], _, _, _, _, h, _, _ => by simp at h
  | _ :: _, [], _, _, _, _, h, _ => by simp at h
  | p :: P, w :: vs, 0, m, nd, h1, h2, hk => by
    simp at h1 h2; subst h1; subst h2
    show bindC kindOf ((p, w) :: P.zip vs) m p = _
    unfold bindC
    rw [bindC_out fun v hv => (List.nodup_cons.mp nd).1 (List.of_mem_zip hv).1, if_neg hk]
    simp
  | p :: P, w :: vs, i + 1, m, nd, h1, h2, hk => by
    show bindC kindOf ((p, w) :: P.zip vs) m x = _
    unfold bindC
    exact bindC_get (i := i) (List.nodup_cons.mp nd).2 (by simpa using h1) (by simpa using h2) hk

/-- the names' values at the entry -/
def start (N : List Str) (vs : List V) : St := vs.map some ++ List.replicate (N.length - vs.length) none

/-- the context of a def's body, at its entry; an exception leaves the frame, then lies as CX says -/
def cxOf (CX : CXT) (P : Program) (w : World) (K : PySem.W.Frag) (mg : Str → Option Value) (base : Heap) (N : List Str) (qual : Str) (scope : Scope) (f : Addr) (cd : Value) (A : Around) (outer : List Env) (s : Shared) (H : Hp) (E : XK) : Cx where
  prog := P
  w := w
  K := K
  mg := mg
  base := base
  A := A.deeper (envOfC qual scope s.heap.objs.size f cd)
  N := N
  s_0 := s
  H_0 := H
  env := envOfC qual scope s.heap.objs.size f cd
  outer := outer
  stack := envOfC qual scope s.heap.objs.size f cd :: outer
  ex := []
  calm := true
  fn := fun _ => true
  pn := []
  xe := fun e s' => wpAny (model P w) (A.deeper (envOfC qual scope s.heap.objs.size f cd)) (leaving (envOfC qual scope s.heap.objs.size f cd) e) (fun _ s'' => CX outer H s E e s'') (fun e' s'' => CX outer H s E e' s'') s'

theorem cell_has {sc : Scope} {n : Nat} {x : Str} (h : sc.names.lookup x = some .cell) : ∃ c, (cellsFrom n sc.names []).lookup x = some c := by
  have q := PySem.W.cellsFrom_some sc.names n [] (.inl h)
  exact Option.isSome_iff_exists.mp q

theorem inv_start {CX : CXT} {P : Program} {w : World} {K : PySem.W.Frag} {mg : Str → Option Value} {base : Heap} {N ps : List Str} {qual : Str} {scope : Scope} {f : Addr} {cd : Value} {A : Around} {outer : List Env} {s s1 : Shared} {H : Hp} {E : XK} {us : List Value} {vs : List V}
    (S : FnScope N ps scope) (hd : A.handled = none) (e0 : Env0 P w K mg base A outer s H) (hl : vs.length = ps.length) (r : Vals vs us)
    (x : InCallC s s.heap.objs.size (bindL (envOfC qual scope s.heap.objs.size f cd).kindOf (ps.zip us) fun _ => none) (cellsFrom (s.heap.objs.size + 1) scope.names []) (bindC (envOfC qual scope s.heap.objs.size f cd).kindOf (ps.zip us) fun _ => none) s1) :
    Inv (cxOf CX P w K mg base N qual scope f cd A outer s H E) [] (start N vs) H s1 := by
  have hpl : ps.length ≤ N.length := by have := congrArg List.length S.pre; rw [List.length_take] at this; omega
  obtain ⟨h1, tk, rfl, hk⟩ := x.done
  have noA : ∀ b : Addr, b ∉ (cxOf CX P w K mg base N qual scope f cd A outer s H E).ex := fun b z => absurd (show b ∈ ([] : List Addr) from z) (by simp)
  refine ⟨⟨e0.mod, S.kind, rfl, rfl, Nat.le_refl _, fun y z c h1 h2 => ?_, fun y hy => ?_, fun y c _ h => ?_, fun _ => hd, Around.frames_deeper e0.frames, .inr ⟨rfl, rfl⟩, fun b z => absurd z (noA b), e0.bs, e0.bsz, fun b _ _ => noA b, fun b z => absurd z (noA b), e0.funs, e0.frf⟩,
    rfl, e0.bare, Un.kept hk, ⟨_, x.toInCall.ns, fun i y v h1 h2 h3 => ?_⟩, fun y c h => ⟨_, x.cell y c h⟩, e0.hok.fresh (Nat.le_refl _), fun y c h => ?_, fun p hp => absurd (show p ∈ ([] : List (Addr × Obj)) from hp) (by simp), e0.hok.kept hk, ?_⟩
  · exact name_of_addr x.apart (PySem.mem_of_lookup h1) (PySem.mem_of_lookup h2)
  · have hy : scope.names.lookup y = some .cell ∨ scope.names.lookup y = some .free := hy
    rcases hy with hy | hy
    · exact cell_has hy
    · exact absurd rfl (S.nofree _ (PySem.mem_of_lookup hy))
  · exact Nat.le_of_lt (x.above y c (PySem.mem_of_lookup h))
  · have hi : i < vs.length := by
      unfold start at h2
      by_cases hi : i < vs.length
      · exact hi
      · rw [List.getElem?_append_right (by simpa using hi)] at h2
        rw [List.getElem?_replicate] at h2
        split at h2 <;> cases h2
    have ha : vs[i]? = some v := by
      unfold start at h2
      rw [List.getElem?_append_left (by simpa using hi), List.getElem?_map] at h2
      cases e : vs[i]? with
      | none => rw [e] at h2; cases h2
      | some a => rw [e] at h2; cases h2; rfl
    obtain ⟨u, hu, rv⟩ := r.get ha
    have hp : ps[i]? = some y := by
      rw [← S.pre, List.getElem?_take_of_lt (by omega)]; exact h1
    have ndP : ps.Nodup := by rw [← S.pre]; exact S.nd.sublist (List.take_sublist _ _)
    refine ⟨u, rv, ?_⟩
    rcases S.par y (List.mem_of_getElem? hp) with k | k
    · exact .inl ⟨k, bindL_get ndP hp hu k⟩
    · obtain ⟨c, e⟩ := cell_has (n := s.heap.objs.size + 1) k
      refine .inr ⟨.inl k, c, e, ?_⟩
      have q := x.cell y c e
      rw [bindC_get ndP hp hu (by show scope.names.lookup y ≠ _; rw [k]; decide)] at q
      exact q
  · exact e0.hok.fresh (Nat.le_of_lt (x.above y c (PySem.mem_of_lookup h)))
  · unfold start
    show _ = N.length
    rw [List.length_append, List.length_map, List.length_replicate]
    omega

/-- THE RULE: a def (or a method) of the text, by its body. The body's reading t is chosen for each entry; it is run at the parameters' values -/
theorem fn_of {CX : CXT} {P : Program} {w : World} {K : PySem.W.Frag} {mg : Str → Option Value} {base : Heap} {k : Nat} {f : Addr} {name qual : Str} {params : Arguments} {body : List Stmt} {scope : Scope} {dV kV doc pm cdv ct oc : Value} {an od : Option Addr}
    {osl : Array (Option Value)} {N ps : List Str} {sp : Sp} (lk : K.lookup f = some ⟨oc, od, .func (PySem.W.fnOf name qual params body scope dV kV doc pm an cdv ct), osl⟩) (hcd : PySem.W.codeIn K cdv qual = true) (S : FnScope N ps scope)
    (len : ∀ vs H Q E, sp vs H Q E → vs.length = ps.length)
    (hbody : ∀ (A : Around) (outer : List Env) (s : Shared) (H : Hp) (vs : List V) (Q : VK) (E : XK), Room k (A.deeper (envOfC qual scope s.heap.objs.size f cdv)) → sp vs H Q E →
      ∃ t, PSs (cxOf CX P w K mg base N qual scope f cdv A outer s H E) body t ∧ t { nx := fun _ H' => Q .non H', rt := Q } (start N vs) H) :
    FnOk P w K mg base CX (k + 1) f (PySem.W.fnOf name qual params body scope dV kV doc pm an cdv ct) ps sp := by
  refine ⟨len, fun A outer s H args us vs Q E hr e0 hb r hsp => ?_⟩
  have hl := len _ _ _ _ hsp
  have KX : K.In s.heap := e0.mod.kin.keeps fun b o e => (e0.bs b o e).1
  have lim : s.heap.NoLimit := e0.mod.nolimit.keeps fun b o e => (e0.bs b o e).1
  have hkind : ∀ y ∈ ps.zip us, scope.names.lookup y.1 = some .local ∨ (scope.names.lookup y.1 = some .cell ∧ ((cellsFrom (s.heap.objs.size + 1) scope.names []).lookup y.1).isSome = true) := fun ⟨n, v⟩ hy => by
    rcases S.par n (List.of_mem_zip hy).1 with q | q
    · exact .inl q
    · exact .inr ⟨q, PySem.W.cellsFrom_some _ _ _ (.inl q)⟩
  refine codeAny_call_function hr.depth (KX _ _ lk) rfl S.co S.gen rfl (PySem.W.codeRec_of KX hcd) (hb _ _ _ _ ?_)
  refine wpAny_newFunctionEnv_cells S.kind hkind fun env he s1 x => ?_
  subst he
  refine ⟨lim.keeps x.toInCall.keep, codeAny_func ?_⟩
  obtain ⟨t, ht, hq⟩ := hbody A outer s H vs Q E (hr.deeper _) hsp
  have I : Inv (cxOf CX P w K mg base N qual scope f cdv A outer s H E) [] (start N vs) H s1 := inv_start S hr.hd e0 hl r x
  refine wpAny_mono (ht [] s1 (start N vs) H _ I hq) (fun fl s' hs => ?_) fun e s' hs => hs
  have fin : ∀ {σ' : St} {H' : Hp} {v : V} {u : Value}, Inv (cxOf CX P w K mg base N qual scope f cdv A outer s H E) [] σ' H' s' → RelV v u → Q v H' → CE outer P w H s Q u s' :=
    fun {σ' H' v u} J rv q => ⟨v, H', J.os, J.bare, J.base, J.hok, rv, q⟩
  cases fl with
  | ret u =>
    obtain ⟨v, σ', H', J, rv, q⟩ := hs
    exact fin J rv q
  | next =>
    obtain ⟨σ', H', J, q⟩ := hs
    exact fin (v := V.non) (u := Value.none) J rfl q
  | brk =>
    obtain ⟨_, _, _, q⟩ := hs
    exact False.elim q
  | cont =>
    obtain ⟨_, _, _, q⟩ := hs
    exact False.elim q
end L2

namespace L2
open PySem PySem.Spec PyProof.Rows
section
variable {X : Cx} {x : Str} {p pos : Pos} {e : Expr} {es : List Expr} {t : TA} {id T : String} {r : List V → Hp → VK → Prop}

def tCB (r : List V → Hp → VK → Prop) (t : TA) : TE := fun σ H Q => t σ H fun vs H1 => r vs H1 Q
/-- f(e, ..), f a built-in function -/
theorem pe_callB (hc : CallR X (.builtin id) r) (hg : Gl X x) (hm : X.mg x = none) (hv : bootBuiltins x = some (.builtin id)) (ha : PA X (e :: es) t) (hn : x ≠ "__name__" := by decide) (hdb : (x == ("__debug__" : Str)) = false := by decide)
    (he : starEach (e :: es) X.env = (false, eval e X.env) :: starEach es X.env := by rfl) (hpl : (backTo pos (starEach es X.env)).any (·.1) = false := by rfl) : PE X (.Call (.Name x p) (e :: es) [] pos) (tCB r t) := by
  intro pins s σ H Q I h
  refine wpAny_Call_Name_kw (ld_blt I hg hm hv ?_ hn hdb)
  exact PyProof.Rows.callWith_builtin1 (thn (ha pos pins s σ H _ I h) fun us s1 ⟨vs, H1, I1, r1, q1⟩ => hc pins s1 σ H1 vs us Q I1 r1 q1) he hpl
/-- T(e, ..), T a built-in type -/
theorem pe_callTy (hc : CallR X (.type T) r) (hg : Gl X x) (hm : X.mg x = none) (hv : bootBuiltins x = some (.type T)) (ha : PA X (e :: es) t) (hn : x ≠ "__name__" := by decide) (hdb : (x == ("__debug__" : Str)) = false := by decide)
    (he : starEach (e :: es) X.env = (false, eval e X.env) :: starEach es X.env := by rfl) (hpl : (backTo pos (starEach es X.env)).any (·.1) = false := by rfl) : PE X (.Call (.Name x p) (e :: es) [] pos) (tCB r t) := by
  intro pins s σ H Q I h
  refine wpAny_Call_Name_kw (ld_blt I hg hm hv ?_ hn hdb)
  exact PyProof.Rows.callWith_type1 (thn (ha pos pins s σ H _ I h) fun us s1 ⟨vs, H1, I1, r1, q1⟩ => hc pins s1 σ H1 vs us Q I1 r1 q1) he hpl
end
end L2

namespace HT
open PySem PyProof.Rows

section
open PySem.SeqAt
open PySem.AutoSeq1 (wpAny_loadPart')
open PySem.MeetsSeq PySem.MeetsSeq2 PySem.MeetsSeq3

end

section
variable {prog : Program} {w : World} {A : Around} {E : Value → Shared → Prop} {s : Shared}

/-! ### t[a:b], not the whole -/
/-- a slice's bound as a place among n (d where it is left out) -/
def sIx (n d : Nat) : Option Int → Nat
  | none => d
  | some v => if v < 0 then (v + (n : Int)).toNat else min v.toNat n
theorem sIx_none (n d : Nat) : sIx n d none = d := rfl
theorem sIx_nat (n d k : Nat) : sIx n d (some (k : Int)) = min k n := by
  show (if (k : Int) < 0 then ((k : Int) + (n : Int)).toNat else min (k : Int).toNat n) = min k n
  rw [if_neg (by omega), Int.toNat_natCast]

end
end HT

namespace L2
open PySem PySem.Spec PyProof.Rows

/-! ### the parts of a slice -/
abbrev TO := St → Hp → (Option Int → Hp → Prop) → Prop
/-- a slice's part (left out, or an int) -/
def PO (X : Cx) (e : Option Expr) (t : TO) : Prop :=
  ∀ (pins : List (Addr × Obj)) (s : Shared) (σ : St) (H : Hp) (Q : Option Int → Hp → Prop), Inv X pins σ H s → t σ H Q →
    wpAny (model X.prog X.w) X.A (evalPart e X.env) (fun u s' => ∃ o H', Inv X pins σ H' s' ∧ IsPart u o ∧ Q o H') X.xe s
def tNoPart : TO := fun _ H Q => Q none H
def tPart (t : TE) : TO := fun σ H Q => t σ H fun x H1 => ∃ i, x = .int i ∧ Q (some i) H1

section
variable {X : Cx} {e : Expr} {te : TE} {lo hi : Option Expr} {tl th : TO} {pos p2 : Pos}

theorem po_none : PO X none tNoPart := by
  intro pins s σ H Q I h
  rw [evalPart_none]
  exact wpAny_pure ⟨none, H, I, .none, h⟩
theorem po_some (h : PE X e te) : PO X (some e) (tPart te) := by
  intro pins s σ H Q I hw
  rw [evalPart_some]
  refine thn (h pins s σ H _ I hw) fun u s1 ⟨x, H1, I1, r1, q1⟩ => ?_
  obtain ⟨i, rfl, q⟩ := q1
  obtain ⟨t, rfl⟩ := r1
  exact ⟨some i, H1, I1, .int i t, q⟩

/-- what a slice of a value is, by values: the slice object stands at sl -/
def SlR (X : Cx) (r : V → Option Int → Option Int → Hp → VK → Prop) : Prop :=
  ∀ (pins : List (Addr × Obj)) (s : Shared) (σ : St) (H : Hp) (x : V) (v vl vu : Value) (lo hi : Option Int) (sl : Addr) (Q : VK), Inv X pins σ H s → RelV x v → s.heap.IsSliceOf sl vl vu .none → IsPart vl lo → IsPart vu hi → r x lo hi H Q →
    ∃ T id, typeLookup (.type T) "__getitem__" = pure (some (.builtin id)) ∧ s.TypeIs v T ∧ wpAny (model X.prog X.w) X.A (getItem v (.ref sl)) (EP X pins σ Q) X.xe s
def tSl (r : V → Option Int → Option Int → Hp → VK → Prop) (te : TE) (tl th : TO) : TE := fun σ H Q => te σ H fun x H1 => tl σ H1 fun l H2 => th σ H2 fun u H3 => r x l u H3 Q
/-- a[lo:hi], any a -/
theorem pe_slice {r : V → Option Int → Option Int → Hp → VK → Prop} (hr : SlR X r) (he : PE X e te) (hl : PO X lo tl) (hu : PO X hi th) : PE X (.Subscript e (.Slice lo hi none p2) pos) (tSl r te tl th) := by
  intro pins s σ H Q I h
  refine Subscript_ (thn (he pins s σ H _ I h) fun v s1 ⟨x, H1, I1, r1, q1⟩ => ?_)
  refine wpAny_Slice (thn (hl pins s1 σ H1 _ I1 q1) fun vl s2 ⟨l, H2, I2, pl, q2⟩ => thn (hu pins s2 σ H2 _ I2 q2) fun vu s3 ⟨u, H3, I3, pu, q3⟩ => ?_)
  rw [evalPart_none]
  refine wpAny_pure ?_
  have I4 : Inv X pins σ H3 { s3 with heap := s3.heap.push { cls := .type "slice", data := .fields #[vl, vu, .none] } } := I3.kept (t' := s3.toks) fun b ob q => Heap.get?_push_of_some _ q
  obtain ⟨T, id, hT, ht, hg⟩ := hr pins { s3 with heap := s3.heap.push { cls := .type "slice", data := .fields #[vl, vu, .none] } } σ H3 x v vl vu l u s3.heap.objs.size Q I4 r1 (Heap.IsSliceOf.new ..) pl pu q3
  show wpAny (model X.prog X.w) X.A (subscriptTail e (.Slice lo hi none p2) v (.ref s3.heap.objs.size)) (EP X pins σ Q) X.xe { s3 with heap := s3.heap.push { cls := .type "slice", data := .fields #[vl, vu, .none] } }
  exact tail_any (ops := [.ref s3.heap.objs.size, v]) ht hT hg (by with_unfolding_all rfl)

/-- the items of xs[lo:hi] -/
def cutV (xs : List V) (lo hi : Option Int) : List V := (xs.drop (HT.sIx xs.length 0 lo)).take (HT.sIx xs.length xs.length hi - HT.sIx xs.length 0 lo)
theorem cutV_length (xs : List V) (lo hi : Option Int) : (cutV xs lo hi).length ≤ xs.length := by
  unfold cutV
  rw [List.length_take, List.length_drop]
  omega

/-! ### t < u, t + u -/
end
end L2

namespace L2
open PySem PySem.Spec PyProof.Rows

/-! ### places -/
/-- the place that an index of any sign means -/
def ixN (n : Nat) (i : Int) : Option Nat := if 0 ≤ i then (if i < n then some i.toNat else none) else if -(n : Int) ≤ i then some (i + n).toNat else none
def atI {α : Type} (xs : List α) (i : Int) : Option α := (ixN xs.length i).bind fun j => xs[j]?
theorem ixN_seq {n : Nat} {i : Int} {j : Nat} (h : ixN n i = some j) : seqIndex? i n = some j ∧ j < n ∧ -(n : Int) ≤ i ∧ i < n := by
  unfold ixN at h
  by_cases h0 : 0 ≤ i
  · rw [if_pos h0] at h
    by_cases h1 : i < n
    · rw [if_pos h1] at h
      have e : i.toNat = j := Option.some.inj h
      exact ⟨by rw [seqIndex_of h0 h1, e], by omega, by omega, h1⟩
    · rw [if_neg h1] at h; cases h
  · rw [if_neg h0] at h
    by_cases h1 : -(n : Int) ≤ i
    · rw [if_pos h1] at h
      have e : (i + n).toNat = j := Option.some.inj h
      exact ⟨by rw [seqIndex_neg (by omega) h1, e], by omega, h1, by omega⟩
    · rw [if_neg h1] at h; cases h
theorem atI_get {α : Type} {xs : List α} {i : Int} {v : α} (h : atI xs i = some v) : ∃ j, seqIndex? i xs.length = some j ∧ xs[j]? = some v ∧ j < xs.length ∧ -(xs.length : Int) ≤ i ∧ i < xs.length := by
  unfold atI at h
  cases e : ixN xs.length i with
  | none => rw [e] at h; cases h
  | some j =>
    rw [e] at h
    obtain ⟨h1, h2, h3, h4⟩ := ixN_seq e
    exact ⟨j, h1, h, h2, h3, h4⟩
theorem atI_nat {α : Type} {xs : List α} {j : Nat} {v : α} (h : xs[j]? = some v) : atI xs (j : Int) = some v := by
  have hj : j < xs.length := (List.getElem?_eq_some_iff.mp h).1
  have e : ixN xs.length (j : Int) = some j := by
    unfold ixN
    rw [if_pos (by omega), if_pos (by omega)]; simp
  unfold atI; rw [e]; exact h
theorem atI_last {α : Type} (xs : List α) (v : α) : atI (xs ++ [v]) (-1) = some v := by
  have hl : (xs ++ [v]).length = xs.length + 1 := by simp
  have e : ixN (xs ++ [v]).length (-1) = some xs.length := by
    unfold ixN
    rw [hl, if_neg (by decide), if_pos (by omega)]
    congr 1
    omega
  unfold atI
  rw [e]
  show (xs ++ [v])[xs.length]? = some v
  simp

/-! ### what may be subscripted -/
/-- what stands as an index of a plain subscript -/
def PlainIx (b : Expr) : Prop := ∀ o i, subscripted b false o i = operate [o, i] (getItem o i)
/-- a subscript by values -/
def IxR (X : Cx) (r : R2) : Prop :=
  ∀ (value slice : Expr) (pins : List (Addr × Obj)) (s : Shared) (σ : St) (H : Hp) (x y : V) (v u : Value) (Q : VK), Inv X pins σ H s → RelV x v → RelV y u → r x y H Q →
    subscripted slice false v u = operate [v, u] (getItem v u) → wpAny (model X.prog X.w) X.A (subscriptTail value slice v u) (EP X pins σ Q) X.xe s
/-- a call of a builtin's method by values: the receiver, the arguments -/
def MtR (X : Cx) (id : String) (r : V → List V → Hp → VK → Prop) : Prop :=
  ∀ (pins : List (Addr × Obj)) (s : Shared) (σ : St) (H : Hp) (x : V) (xs : List V) (v : Value) (us : List Value) (Q : VK), Inv X pins σ H s → RelV x v → Vals xs us → r x xs H Q →
    wpAny (model X.prog X.w) X.A (call (.builtin id) (v :: us)) (EP X pins σ Q) X.xe s
section
variable {X : Cx} {a b : Expr} {ta tb : TE} {pos : Pos}
/-- a[b] -/
theorem pe_ix {r : R2} (hr : IxR X r) (ha : PE X a ta) (hb : PE X b tb) (hs : PlainIx b) : PE X (.Subscript a b pos) (tOp r ta tb) := by
  intro pins s σ H Q I h
  exact Subscript_ (binT ha hb I h fun v u s2 x y H2 I2 rx ry q => hr a b pins s2 σ H2 x y v u Q I2 rx ry q (hs _ _))

def rIxL (K : PySem.W.Frag) : R2 := fun x y H Q => ∃ p xs i v, x = .ref p ∧ y = .int i ∧ SqL K H p xs ∧ atI xs i = some v ∧ Q v H
theorem ix_list : IxR X (rIxL X.K) := by
  intro value slice pins s σ H x y v u Q I rx ry h hs
  obtain ⟨p, xs, i, z, rfl, rfl, hq, he, q⟩ := h
  cases rx
  obtain ⟨t, rfl⟩ := ry
  obtain ⟨its, r, pl, hz⟩ := I.list hq
  obtain ⟨j, h1, h2, h3, h4, h5⟩ := atI_get he
  obtain ⟨w, ew, rw'⟩ := r.get h2
  have hl := r.length
  have hn := line63
  have fin : EP X pins σ Q w s := ⟨z, H, I, rw', q⟩
  by_cases h0 : 0 ≤ i
  · have hj : i.toNat = j := by
      rw [seqIndex_of h0 h5] at h1
      exact Option.some.inj h1
    exact item_listR pl.isList h0 (by omega) (by rw [hj]; simpa using ew) fin hs
  · have hj : (i + (its.toArray.size : Int)).toNat = j := by
      rw [seqIndex_neg (by omega) h4] at h1
      rw [List.size_toArray, ← hl]
      exact Option.some.inj h1
    exact subscriptTail_builtinR (x := w) pl.isList.typeIs slot_list_getitem.lookup
      (wpAny_getItem_list_neg (Q := fun r s' => r = w ∧ EP X pins σ Q r s') pl.isList (by omega) (by rw [List.size_toArray] <;> omega) (by omega) (by rw [hj]; simpa using ew) ⟨rfl, fin⟩) hs

/-! ### xs[i] = v, any sign -/
/-- the list's object behind a store -/
theorem mapSeq_set (its : List Value) (n j : Nat) (u : Value) : Obj.mapSeq (·.setIfInBounds j u) { cls := .type "list", data := .seq its.toArray n } = { cls := .type "list", data := .seq (its.set j u).toArray n } := by
  simp [Obj.mapSeq]
theorem Inv.lst {pins : List (Addr × Obj)} {σ : St} {H : Hp} {s : Shared} {p : Addr} {xs : List V} (I : Inv X pins σ H s) (h : H p = some (.lst xs)) :
    ∃ (its : List Value) (n : Nat), Vals xs its ∧ s.heap.get? p = some { cls := .type "list", data := .seq its.toArray n } ∧ xs.length ≤ sizeLine := by
  obtain ⟨z, its, n, r, e⟩ := I.hok p _ h
  exact ⟨its, n, r, e, z⟩
/-- the list at p is written by an update of its object -/
theorem Inv.lstUpd {pins : List (Addr × Obj)} {σ : St} {H : Hp} {s : Shared} {p : Addr} {xs ys : List V} {its its' : List Value} {n n' : Nat} {f : Obj → Obj} (I : Inv X pins σ H s) (h : H p = some (.lst xs))
    (ho : s.heap.get? p = some { cls := .type "list", data := .seq its.toArray n }) (hf : f { cls := .type "list", data := .seq its.toArray n } = { cls := .type "list", data := .seq its'.toArray n' }) (r : Vals ys its') (hz : ys.length ≤ sizeLine) (t : Nat) :
    Inv X pins σ (upd H p (.lst ys)) { s with heap := s.heap.update p f, toks := t } := by
  have e : (s.heap.update p f).get? p = some { cls := .type "list", data := .seq its'.toArray n' } := by
    rw [Heap.get?_update_self f ho (by rw [hf] <;> rfl), hf]
  refine I.write (x := p) (e := p) (by rw [h]; trivial) (.inl rfl) (fun b u hb q => (Heap.get?_update_other _ _ (Ne.symm hb)).trans q) ⟨_, e⟩ ?_
  exact ⟨hz, its', n', r, e⟩
def rSetL : V → V → V → Hp → (Hp → Prop) → Prop := fun o i v H Q => ∃ p xs k j, o = .ref p ∧ i = .int k ∧ H p = some (.lst xs) ∧ ixN xs.length k = some j ∧ Q (upd H p (.lst (xs.set j v)))
theorem set_list : PSet X rSetL := by
  intro pins s σ H o i v ov iv u Q I ro ri rv h
  obtain ⟨p, xs, k, j, rfl, rfl, hp, hj, q⟩ := h
  cases ro
  obtain ⟨t, rfl⟩ := ri
  obtain ⟨its, n, r, ho, hz⟩ := I.lst hp
  obtain ⟨h1, h2, h3, h4⟩ := ixN_seq hj
  have hl := r.length
  have hn := line63
  have I' : Inv X pins σ (upd H p (.lst (xs.set j v))) { s with heap := s.heap.update p (Obj.mapSeq (·.setIfInBounds j u)) } :=
    I.lstUpd hp ho (mapSeq_set its n j u) (r.set rv j) (by rw [List.length_set]; exact hz) s.toks
  by_cases h0 : 0 ≤ k
  · have hk : k.toNat = j := by
      rw [seqIndex_of h0 h4] at h1
      exact Option.some.inj h1
    exact PySem.W.ki_setAt ho h0 (by omega) (by rw [List.size_toArray, ← hl]; exact h4) (by rw [hk]; exact ⟨_, I', q⟩)
  · have hk : (k + (its.toArray.size : Int)).toNat = j := by
      rw [seqIndex_neg (by omega) h3] at h1
      rw [List.size_toArray, ← hl]
      exact Option.some.inj h1
    exact PySem.W.ki_setBack ho (by omega) (by rw [List.size_toArray, ← hl]; exact h3) (by omega) (by rw [hk]; exact ⟨_, I', q⟩)

/-! ### slices -/
theorem slice_bounds (lo hi : Option Int) (n : Nat) : (sliceBounds lo hi none n).1 = ((HT.sIx n 0 lo : Nat) : Int) ∧ (sliceBounds lo hi none n).2.1 = ((HT.sIx n n hi : Nat) : Int) ∧ (sliceBounds lo hi none n).2.2 = 1 := by
  refine ⟨?_, ?_, rfl⟩
  · cases lo with
    | none => simp [sliceBounds, HT.sIx]
    | some i =>
      simp only [sliceBounds, HT.sIx, Option.getD_none, show (1 : Int) > 0 by decide, if_true]
      by_cases h : i < 0
      · simp only [h, if_true] <;> omega
      · simp only [h, if_false] <;> omega
  · cases hi with
    | none => simp [sliceBounds, HT.sIx]
    | some i =>
      simp only [sliceBounds, HT.sIx, Option.getD_none, show (1 : Int) > 0 by decide, if_true]
      by_cases h : i < 0
      · simp only [h, if_true] <;> omega
      · simp only [h, if_false] <;> omega
theorem slicePick_cut (its : List Value) (lo hi : Option Int) : slicePick its.toArray lo hi none = ((its.drop (HT.sIx its.length 0 lo)).take (HT.sIx its.length its.length hi - HT.sIx its.length 0 lo)).toArray := by
  obtain ⟨h1, h2, h3⟩ := slice_bounds lo hi its.toArray.size
  unfold slicePick
  rw [h1, h2, h3]
  simp only [sliceRange_one, pick_run, List.size_toArray] <;> rfl
/-- xs[lo:hi] of a list: a new list -/
def rSlL (K : PySem.W.Frag) : V → Option Int → Option Int → Hp → VK → Prop := fun x lo hi H Q => ∃ a xs, x = .ref a ∧ SqL K H a xs ∧ ∀ p, H p = none → Q (.ref p) (upd H p (.lst (cutV xs lo hi)))
theorem sl_list : SlR X (rSlL X.K) := by
  intro pins s σ H x v vl vu lo hi sl Q I rx hs pl pu h
  obtain ⟨a, xs, rfl, hx, q⟩ := h
  cases rx
  obtain ⟨its, r, ht, hz⟩ := I.list hx
  have hlen := r.length
  refine ⟨"list", _, slot_list_getitem.lookup, ht.isList.typeIs, ?_⟩
  refine wpAny_getItem_list_slice ht.isList hs pl pu .none (by simp) ?_ (by rw [List.size_toArray] <;> omega)
  rw [slicePick_cut, ← hlen]
  refine ⟨.ref s.heap.objs.size, _, I.laid (t' := s.toks) (o := .lst (cutV xs lo hi)) (fun b ob q => Heap.get?_push_of_some _ q) (Nat.le_refl _) ?_, rfl, q _ (I.hok.fresh (Nat.le_refl _))⟩
  exact ⟨Nat.le_trans (cutV_length xs lo hi) hz, _, 0, (r.drop (HT.sIx xs.length 0 lo)).take (HT.sIx xs.length xs.length hi - HT.sIx xs.length 0 lo), Heap.get?_push_size _ rfl⟩

/-! ### in, not in: flat items -/

/-! ### len, list(x), tuple(x) of any list or tuple that is read -/
theorem call_len_seq : CallR X (.builtin "len") (fun xs H Q => ∃ p ys, xs = [.ref p] ∧ (SqL X.K H p ys ∨ SqT X.K H p ys) ∧ Q (.int ys.length) H) := by
  intro pins s σ H xs us Q I r h
  obtain ⟨p, ys, rfl, hq, q⟩ := h
  obtain ⟨u, rfl, rx⟩ := vals1 r
  cases rx
  have hn := line63
  rcases hq with hq | hq
  · obtain ⟨its, r', pl, hz⟩ := I.list hq
    have hlen := r'.length
    exact Calls.call_len_list pl.isList (by simp only [List.size_toArray] <;> omega) ⟨.int ys.length, H, I.tok _, ⟨s.toks + 1, by rw [List.size_toArray, hlen]⟩, q⟩
  · obtain ⟨its, r', pl, hz⟩ := I.tuple hq
    have hlen := r'.length
    exact len_tuple pl (by simp only [List.size_toArray] <;> omega) ⟨.int ys.length, H, I.tok _, ⟨s.toks + 1, by rw [List.size_toArray, hlen]⟩, q⟩
theorem call_list_of : CallR X (.type "list") (fun xs H Q => ∃ p ys, xs = [.ref p] ∧ (SqL X.K H p ys ∨ SqT X.K H p ys) ∧ ∀ l, H l = none → Q (.ref l) (upd H l (.lst ys))) := by
  intro pins s σ H xs us Q I r h
  obtain ⟨p, ys, rfl, hq, q⟩ := h
  obtain ⟨u, rfl, rx⟩ := vals1 r
  cases rx
  have fin : ∀ (its : List Value), Vals ys its → ys.length ≤ sizeLine → ∀ (h' : Heap) (c' : Nat), (∀ b o', s.heap.get? b = some o' → h'.get? b = some o') →
      h'.get? s.heap.objs.size = some { cls := .type "list", dict := none, data := .seq its.toArray c', slots := #[] } → EP X pins σ Q (.ref s.heap.objs.size) { s with heap := h' } := fun its r' hz h' c' kp e =>
    ⟨.ref s.heap.objs.size, _, I.laid (t' := s.toks) kp (Nat.le_refl _) (show ObjOk X.prog X.w _ h' _ (.lst ys) from ⟨hz, its, c', r', e⟩), rfl, q _ (I.hok.fresh (Nat.le_refl _))⟩
  rcases hq with hq | hq
  · obtain ⟨its, r', pl, hz⟩ := I.list hq
    have hlen := r'.length
    obtain ⟨o, ho, hc, n, hd⟩ := pl.isList
    exact call_list_seq p (.inl rfl) ho hc hd (fun h' c' kp e => fin its r' hz h' c' kp e) (by simp only [List.size_toArray] <;> omega)
  · obtain ⟨its, r', pl, hz⟩ := I.tuple hq
    have hlen := r'.length
    obtain ⟨o, ho, hc, n, hd⟩ := pl
    exact call_list_seq p (.inr rfl) ho hc hd (fun h' c' kp e => fin its r' hz h' c' kp e) (by simp only [List.size_toArray] <;> omega)

/-! ### the call of a builtin's method: o.m(..) -/
/-- the value is of that builtin type -/
def tyV (K : PySem.W.Frag) (T : String) (x : V) (H : Hp) : Prop := match x with
  | .str _ => T = "str"
  | .int _ => T = "int"
  | .ref p => (T = "list" ∧ ∃ xs, SqL K H p xs) ∨ (T = "tuple" ∧ ∃ o, K.lookup p = some o ∧ o.cls = .type "tuple" ∧ o.dict = none) ∨
      (T = "dict" ∧ ((∃ kvs, H p = some (.dK kvs)) ∨ ∃ kvs, H p = some (.dT kvs))) ∨ (T = "set" ∧ ∃ S n, H p = some (.set S n))
  | _ => False
theorem tyV_is {pins : List (Addr × Obj)} {σ : St} {H : Hp} {s : Shared} {T : String} {x : V} {v : Value} (I : Inv X pins σ H s) (r : RelV x v) (ty : tyV X.K T x H) :
    s.TypeIs v T ∧ ∀ a, v = .ref a → ∃ ob, s.heap.get? a = some ob ∧ ob.dict = none := by
  cases x with
  | str z =>
    obtain ⟨t, rfl⟩ := r
    cases (show T = "str" from ty)
    exact ⟨typeIs_str s z t, fun _ e => nomatch e⟩
  | int i =>
    obtain ⟨t, rfl⟩ := r
    cases (show T = "int" from ty)
    exact ⟨typeIs_int s i t, fun _ e => nomatch e⟩
  | ref p =>
    cases r
    rcases ty with ⟨rfl, xs, hq⟩ | ⟨rfl, o, hk, hc, hd⟩ | ⟨rfl, hk⟩ | ⟨rfl, S, n, hk⟩
    · obtain ⟨its, _, pl, _⟩ := I.list hq
      refine ⟨pl.isList.typeIs, fun a e => ?_⟩
      cases e
      obtain ⟨o, n, e, c, hd, _⟩ := pl
      exact ⟨o, e, hd⟩
    · refine ⟨⟨o, I.kIn p o hk, hc⟩, fun a e => ?_⟩
      cases e
      exact ⟨o, I.kIn _ o hk, hd⟩
    · have z : ∃ o, s.heap.get? p = some o ∧ o.ExactDict := by
        rcases hk with ⟨kvs, hk⟩ | ⟨kvs, hk⟩
        · obtain ⟨_, _, _, _, o, _, _, e, ex, _⟩ := I.hok p _ hk
          exact ⟨o, e, ex⟩
        · obtain ⟨_, _, _, _, o, _, _, e, ex, _⟩ := I.hok p _ hk
          exact ⟨o, e, ex⟩
      obtain ⟨o, e, ex⟩ := z
      refine ⟨⟨o, e, ex.1⟩, fun a e2 => ?_⟩
      cases e2
      exact ⟨o, e, ex.2.1⟩
    · obtain ⟨o, _, _, _, e, ex, _⟩ := I.hok p _ hk
      refine ⟨⟨o, e, ex.1⟩, fun a e2 => ?_⟩
      cases e2
      exact ⟨o, e, ex.2.1⟩
  | _ => exact False.elim ty
def tBM0 (K : PySem.W.Frag) (T : String) (r : V → List V → Hp → VK → Prop) (to : TE) : TE := fun σ H Q => to σ H fun x H1 => tyV K T x H1 ∧ r x [] H1 Q
def tBM (K : PySem.W.Frag) (T : String) (r : V → List V → Hp → VK → Prop) (to : TE) (t : TA) : TE := fun σ H Q => to σ H fun x H1 => tyV K T x H1 ∧ t σ H1 fun xs H2 => r x xs H2 Q
variable {o e : Expr} {es : List Expr} {to : TE} {t : TA} {name : Str} {apos cpos : Pos} {T id : String} {r : V → List V → Hp → VK → Prop}
theorem pe_bm0 (pa : PlainAttrs T) (slot : Slot T name id) (hty : typeOf (.builtin id) = pure (.type "method_descriptor")) (hm : MtR X id r) (ho : PE X o to)
    (hbase : attributeBase o name X.env (eval o X.env) = eval o X.env := by rfl) (hline : (apos.endLine == cpos.line) = true := by rfl) : PE X (.Call (.Attribute o name apos) [] [] cpos) (tBM0 X.K T r to) := by
  intro pins s σ H Q I h
  refine wpAny_Call_method0_late hbase hline (thn (ho pins s σ H _ I h) fun v s1 ⟨x, H1, I1, r1, ty, q1⟩ => ?_)
  obtain ⟨h1, h2⟩ := tyV_is I1 r1 ty
  exact ⟨T, id, pa, slot, hty, h1, h2, Calls.callWith_builtin rfl (PySem.evalArgs_none (hm pins s1 σ H1 x [] v [] Q I1 r1 .nil q1))⟩
theorem pe_bm (pa : PlainAttrs T) (slot : Slot T name id) (hty : typeOf (.builtin id) = pure (.type "method_descriptor")) (hm : MtR X id r) (ho : PE X o to) (ha : PA X (e :: es) t)
    (hbase : attributeBase o name X.env (eval o X.env) = eval o X.env := by rfl)
    (hfew : ((backTo cpos (starEach (e :: es) X.env)).all (fun x => !x.1) && (backToKw cpos (keywordEach [] X.env)).all (fun x => x.1.isSome)
      && decide ((e :: es).length + ([] : List Keyword).length + (if ([] : List Keyword).isEmpty then 0 else 1) < 30)) = true := by rfl)
    (hline : (apos.endLine == cpos.line) = true := by rfl) (hs : starEach (e :: es) X.env = (false, eval e X.env) :: starEach es X.env := by rfl) (hplain : (backTo cpos (starEach es X.env)).any (·.1) = false := by rfl) :
    PE X (.Call (.Attribute o name apos) (e :: es) [] cpos) (tBM X.K T r to t) := by
  intro pins s σ H Q I h
  refine wpAny_Call_method_late hbase hfew hline rfl (thn (ho pins s σ H _ I h) fun v s1 ⟨x, H1, I1, r1, ty, q1⟩ => ?_)
  obtain ⟨h1, h2⟩ := tyV_is I1 r1 ty
  refine ⟨T, id, pa, slot, hty, h1, h2, ?_⟩
  have hA := ha cpos pins s1 σ H1 _ I1 q1
  rw [hs] at hA ⊢
  refine Calls.callWith_builtin (by show (false || (backTo cpos (starEach es X.env)).any (·.1)) = false; rw [hplain] <;> rfl) (Calls.evalArgs_plain ?_)
  exact thn hA fun us s2 ⟨vs, H2, I2, r2, q2⟩ => hm pins s2 σ H2 x vs v us Q I2 r1 r2 q2
/- xs.append(e), list.index on a module's tuple .. are MtR facts of 06m -/
end
end L2

namespace L2
open PySem PySem.Spec PyProof.Rows

def MtM (X : Cx) (id : String) (r : V → List V → Hp → VK → Prop) : Prop :=
  ∀ (pins : List (Addr × Obj)) (s : Shared) (σ : St) (H : Hp) (x : V) (xs : List V) (v : Value) (us : List Value) (Q : VK), Inv X pins σ H s → RelV x v → Vals xs us → r x xs H Q →
    wpAny (model X.prog X.w) X.A (call (.builtin id) (v :: us)) (EP X pins σ Q) X.xe s

/-! ### lists of values -/
theorem Vals.one : ∀ {x : V} {us : List Value}, Vals [x] us → ∃ u, us = [u] ∧ RelV x u
  | _, _, .cons r .nil => ⟨_, rfl, r⟩
theorem Vals.zero : ∀ {us : List Value}, Vals [] us → us = []
  | _, .nil => rfl
theorem Vals.dropLast {xs : List V} {us : List Value} (h : Vals xs us) : Vals xs.dropLast us.dropLast := by
  induction h with
  | nil => exact .nil
  | cons r t ih =>
    cases t with
    | nil => exact .nil
    | cons q t' => exact .cons r ih
theorem Vals.rep {xs : List V} {us : List Value} (h : Vals xs us) : ∀ k : Nat, Vals (List.replicate k xs).flatten (List.replicate k us).flatten
  | 0 => .nil
  | k + 1 => by
    rw [List.replicate_succ, List.replicate_succ, List.flatten_cons, List.flatten_cons]
    exact Vals.append h (Vals.rep h k)
theorem erase_last {α : Type} (l : List α) : l.eraseIdx (l.length - 1) = l.dropLast := by
  induction l with
  | nil => rfl
  | cons a r ih =>
    cases r with
    | nil => rfl
    | cons b r =>
      have e : (a :: b :: r).length - 1 = ((b :: r).length - 1) + 1 := by
        have h1 : (a :: b :: r).length = r.length + 2 := rfl
        have h2 : (b :: r).length = r.length + 1 := rfl
        omega
      rw [e, List.eraseIdx_cons_succ, ih]
      all_goals rfl
theorem foldl_rep (its : List Value) : ∀ (k : Nat) (acc : List Value),
    List.foldl (fun x1 x2 => x1 ++ x2) acc.toArray (List.replicate k its.toArray) = (acc ++ (List.replicate k its).flatten).toArray
  | 0, acc => by simp
  | k + 1, acc => by
    have e : acc.toArray ++ its.toArray = (acc ++ its).toArray := by simp
    have e2 : (acc ++ its) ++ (List.replicate k its).flatten = acc ++ (List.replicate (k + 1) its).flatten := by
      rw [List.replicate_succ, List.flatten_cons, List.append_assoc]
    rw [← e2, ← foldl_rep its k (acc ++ its), ← e, List.replicate_succ, List.foldl_cons]

section
variable {X : Cx} {pins : List (Addr × Obj)} {σ : St} {H : Hp} {s : Shared} {l b : Addr} {xs ys zs : List V}

/-! ### the two steps: a tracked list is rewritten, a new list is laid -/
theorem Inv.lset {its its' : List Value} {n : Nat} {f : Array Value → Array Value} {t' : Nat} (I : Inv X pins σ H s) (hH : H l = some (.lst xs))
    (e : s.heap.get? l = some { cls := .type "list", data := .seq its.toArray n }) (hf : f its.toArray = its'.toArray) (hv : Vals ys its') (hz : ys.length ≤ sizeLine) :
    Inv X pins σ (upd H l (.lst ys)) { s with heap := s.heap.update l (Obj.mapSeq f), toks := t' } := by
  have q := PySem.IsL.update e f
  rw [hf] at q
  refine I.write (x := l) (e := l) (by rw [hH]; exact trivial) (.inl rfl) (fun b' u hb hu => (Heap.get?_update_other s.heap (Obj.mapSeq f) (Ne.symm hb)).trans hu) ⟨_, q⟩ ?_
  exact ⟨hz, its', _, hv, q⟩
theorem Inv.lnew {its : List Value} {t' : Nat} (I : Inv X pins σ H s) (hv : Vals ys its) (hz : ys.length ≤ sizeLine) :
    Inv X pins σ (upd H s.heap.objs.size (.lst ys)) { s with heap := s.heap.push { cls := .type "list", data := .seq its.toArray }, toks := t' } :=
  I.laid (fun _ _ q => Heap.get?_push_of_some _ q) (Nat.le_refl _) ⟨hz, its, 0, hv, Heap.get?_push_size _ rfl⟩
theorem Inv.fresh (I : Inv X pins σ H s) : H s.heap.objs.size = none := I.hok.fresh (Nat.le_refl _)
theorem Inv.lstM (I : Inv X pins σ H s) (hH : H l = some (.lst xs)) : xs.length ≤ sizeLine ∧ ∃ (its : List Value) (n : Nat), Vals xs its ∧ xs.length = its.length ∧ s.heap.get? l = some { cls := .type "list", data := .seq its.toArray n } := by
  obtain ⟨z, its, n, r, e⟩ := I.hok l _ hH
  exact ⟨z, its, n, r, r.length, e⟩

theorem notLongL {n : Nat} (h : n ≤ sizeLine) : Builtin.List.listTooLong n = false := by
  unfold Builtin.List.listTooLong
  exact decide_eq_false (by omega)
end

section
variable {X : Cx}

/-! ### methods -/
def rAppend : V → List V → Hp → VK → Prop := fun x vs H Q => ∃ l xs y, x = .ref l ∧ vs = [y] ∧ H l = some (.lst xs) ∧ xs.length < sizeLine ∧ Q .non (upd H l (.lst (xs ++ [y])))
theorem mt_append : MtM X "list.append" rAppend := by
  intro pins s σ H x vs v us Q I rx rv h
  obtain ⟨l, xs, y, rfl, rfl, hH, hz, q⟩ := h
  cases rx
  obtain ⟨u, rfl, ru⟩ := rv.one
  obtain ⟨z, its, n, r, hl, e⟩ := I.lstM hH
  refine call_meets F.slot_list_append ⟨_, e, rfl⟩ F.entry_list_append (F.args_list_append_2 _ _) (PySem.list_append l its.toArray n u (by rw [List.size_toArray]; omega)) ⟨e, ?_⟩
  refine ⟨.non, _, I.lset (its' := its ++ [u]) hH e (by simp) (r.append (.cons ru .nil)) ?_, rfl, q⟩
  rw [List.length_append, List.length_singleton]
  omega

def rExtend : V → List V → Hp → VK → Prop := fun x vs H Q => ∃ l b xs zs, x = .ref l ∧ vs = [.ref b] ∧ H l = some (.lst xs) ∧ H b = some (.lst zs) ∧ xs.length + zs.length ≤ sizeLine ∧ Q .non (upd H l (.lst (xs ++ zs)))
theorem mt_extend : MtM X "list.extend" rExtend := by
  intro pins s σ H x vs v us Q I rx rv h
  obtain ⟨l, b, xs, zs, rfl, rfl, hH, hB, hz, q⟩ := h
  cases rx
  obtain ⟨u, rfl, ru⟩ := rv.one
  cases ru
  obtain ⟨z, its, n, r, hl, e⟩ := I.lstM hH
  obtain ⟨z2, its2, n2, r2, hl2, e2⟩ := I.lstM hB
  have hsz : its.toArray.size + its2.toArray.size ≤ sizeLine := by rw [List.size_toArray, List.size_toArray]; omega
  have hlong : ¬ (!its.toArray.isEmpty && Builtin.List.listTooLong (its.toArray.size + its2.toArray.size)) = true := by
    rw [notLongL hsz, Bool.and_false]
    exact Bool.false_ne_true
  refine call_meets F.slot_list_extend ⟨_, e, rfl⟩ F.entry_list_extend (F.args_list_extend_2 _ _)
    (AutoSeq1.list_extend_list_list_0 l its.toArray n b its2.toArray n2 hlong (by rw [List.size_toArray]; omega) (by omega)) ⟨e, e2, ?_⟩
  refine ⟨.non, _, I.lset (its' := its ++ its2) hH e (by simp) (r.append r2) ?_, rfl, q⟩
  rw [List.length_append]
  omega

def rPop : V → List V → Hp → VK → Prop := fun x vs H Q => ∃ l xs y, x = .ref l ∧ vs = [] ∧ H l = some (.lst xs) ∧ xs[xs.length - 1]? = some y ∧ Q y (upd H l (.lst xs.dropLast))
theorem mt_pop : MtM X "list.pop" rPop := by
  intro pins s σ H x vs v us Q I rx rv h
  obtain ⟨l, xs, y, rfl, rfl, hH, hy, q⟩ := h
  cases rx
  have hus := rv.zero
  subst hus
  obtain ⟨z, its, n, r, hl, e⟩ := I.lstM hH
  obtain ⟨u, hu, ru⟩ := r.get hy
  have hy' : its.toArray[its.toArray.size - 1]? = some u := by
    show its.toArray[its.length - 1]? = some u
    rw [← Array.getElem?_toList, ← hl]
    exact hu
  refine call_meets F.slot_list_pop ⟨_, e, rfl⟩ F.entry_list_pop (F.args_list_pop_1 _) (MeetsSeq.list_pop_last l its.toArray n u hy' (by rw [List.size_toArray]; omega)) ⟨e, ?_⟩
  refine ⟨y, _, I.lset (its' := its.dropLast) hH e ?_ r.dropLast ?_, ru, q⟩
  · show its.toArray.eraseIdxIfInBounds (its.toArray.size - 1) = its.dropLast.toArray
    rw [List.size_toArray, List.eraseIdxIfInBounds_toArray, erase_last]
  · rw [List.length_dropLast]
    omega

/-! ### list + list, list += list, list * int -/
def rCat : R2 := fun x y H Q => ∃ l b xs zs, x = .ref l ∧ y = .ref b ∧ H l = some (.lst xs) ∧ H b = some (.lst zs) ∧ xs.length + zs.length ≤ sizeLine ∧ ∀ p, H p = none → Q (.ref p) (upd H p (.lst (xs ++ zs)))
theorem op_cat : OpR X (binaryOp .Add) rCat := by
  intro pins s σ H x y v u Q I rx ry h
  obtain ⟨l, b, xs, zs, rfl, rfl, hH, hB, hz, q⟩ := h
  cases rx
  cases ry
  obtain ⟨z, its, n, r, hl, e⟩ := I.lstM hH
  obtain ⟨z2, its2, n2, r2, hl2, e2⟩ := I.lstM hB
  refine PySem.P.add_list e e2 ?_ (by rw [List.size_toArray, List.size_toArray]; omega)
  have ea : its.toArray ++ its2.toArray = (its ++ its2).toArray := by simp
  rw [ea]
  exact ⟨.ref _, _, I.lnew (t' := s.toks) (r.append r2) (by rw [List.length_append]; omega), rfl, q _ I.fresh⟩
/-- a list times an int (a negative one is nothing) -/
def rRep : R2 := fun x y H Q => ∃ l k xs, x = .ref l ∧ y = .int k ∧ H l = some (.lst xs) ∧ -(2 ^ 63) ≤ k ∧ k < 2 ^ 63 ∧ xs.length * k.toNat ≤ sizeLine ∧
  ∀ p, H p = none → Q (.ref p) (upd H p (.lst (List.replicate k.toNat xs).flatten))
theorem len_rep {α : Type} (xs : List α) (k : Nat) : (List.replicate k xs).flatten.length = k * xs.length := by
  induction k with
  | zero => simp
  | succ k ih => rw [List.replicate_succ, List.flatten_cons, List.length_append, ih, Nat.succ_mul, Nat.add_comm]
theorem op_rep : OpR X (binaryOp .Mult) rRep := by
  intro pins s σ H x y v u Q I rx ry h
  obtain ⟨l, k, xs, rfl, rfl, hH, h1, h2, hz, q⟩ := h
  cases rx
  obtain ⟨t, rfl⟩ := ry
  obtain ⟨z, its, n, r, hl, e⟩ := I.lstM hH
  have hlen : its.toArray.size * k.toNat ≤ sizeLine := by rw [List.size_toArray, ← hl]; exact hz
  have hcap : ¬ its.toArray.size * k.toNat > (2 ^ 63 - 1) / 8 := by
    have : (sizeLine : Nat) ≤ (2 ^ 63 - 1) / 8 := by decide
    omega
  have hfit : ¬ (!Builtin.List.listFitsIndex k) = true := by
    rw [fitsIndex_both h1 h2]
    exact Bool.false_ne_true
  have hlong : ¬ Builtin.List.listTooLong (its.toArray.size * k.toNat) = true := by
    rw [notLongL hlen]
    exact Bool.false_ne_true
  have hnew : List.foldl (fun x1 x2 => x1 ++ x2) #[] (List.replicate (if its.toArray.isEmpty = true then 0 else k.toNat) its.toArray) = (List.replicate k.toNat its).flatten.toArray := by
    have f0 : ∀ m : Nat, List.foldl (fun x1 x2 => x1 ++ x2) #[] (List.replicate m its.toArray) = (List.replicate m its).flatten.toArray := fun m => by
      have := foldl_rep its m []
      rw [List.nil_append] at this
      exact this
    rw [f0]
    cases its with
    | nil => simp
    | cons a r' => rw [if_neg (by simp)]
  refine wpAny_binaryOp_repeat_ref (T := "list") (U := "int") (by decide) ⟨_, e, rfl⟩ (fun s' => typeIs_int s' k t) noFill_list_mul F.fills_int_mul F.slot_int_rmul repeat_list F.slot_int_index.lookup
    (call_meets F.slot_int_rmul (typeIs_int s k t) F.entry_int_rmul (F.args_int_rmul_2 _ _) (int___rmul___int_list k t l its.toArray n)
      ⟨e, rfl, ⟨_, e, rfl⟩, call_meets F.slot_list_mul ⟨_, e, rfl⟩ F.entry_list_mul (F.args_list_mul_2 _ _) (AutoListH.list___mul___list_int_3 l its.toArray n k t hfit hcap hlong) ⟨e, ?_⟩⟩)
  rw [hnew]
  exact ⟨.ref _, _, I.lnew (t' := s.toks) (r.rep k.toNat) (by rw [len_rep, Nat.mul_comm]; exact hz), rfl, q _ I.fresh⟩

/-! ### del xs[i] -/
end

/-! ### xs[a:b] = ys -/
section
variable {prog : Program} {w : World} {A : Around} {E : Value → Shared → Prop} {s : Shared}
set_option maxRecDepth 100000 in
end

section
variable {X : Cx}
end
end L2

namespace L2
open PySem PySem.Spec PyProof.Rows

theorem Vals.ints : ∀ {ns : List Int} {us : List Value}, Vals (ns.map V.int) us → IntsAre us ns
  | [], us, h => by
    rw [List.map_nil] at h
    cases h
    exact IntsAre.nil
  | n :: ns, us, h => by
    rw [List.map_cons] at h
    cases h with
    | cons r t =>
      obtain ⟨k, rfl⟩ := r
      exact IntsAre.cons n k (Vals.ints t)
theorem Vals.ref1 {a : Addr} {us : List Value} (r : Vals [V.ref a] us) : us = [Value.ref a] := by
  cases r with
  | cons r t =>
    cases t
    cases r
    rfl

/-! ### the library's walks over a list of ints, kept objects alone -/
section
variable {prog : Program} {w : World} {A : Around} {E : Value → Shared → Prop} {s : Shared} {l : Addr} {its : List Value} {ns : List Int} {Q : Value → Shared → Prop}
theorem max_raw (hh : A.handled = none) (hl : s.heap.IsList l its.toArray) (hi : IntsAre its ns) (hne : 0 < ns.length)
    (h : ∀ h' tk M t', (∀ b o, s.heap.get? b = some o → h'.get? b = some o) → M ∈ ns → (∀ a, a ∈ ns → a ≤ M) → Q (.int M t') { s with heap := h', toks := tk }) : wpAny (model prog w) A (call (.builtin "max") [.ref l]) Q E s := by
  obtain ⟨xs, e⟩ := hi.allInts.items
  have hn : numsOf (intItems xs).toList = ns := by rw [← e]; exact hi.numsOf
  rw [nums_intItems] at hn
  subst hn
  rw [e] at hl
  have hsz : 0 < xs.size := by simpa using hne
  refine PySem.max_intList hh hl hsz fun v h' tk hv hk => ?_
  obtain ⟨t, rfl⟩ := intItems_at hv
  obtain ⟨h1, h2⟩ := argBest_gt (numAt xs) (xs.size - 1)
  refine h h' tk _ t hk ?_ fun a ha => ?_
  · rw [numAt_eq]; exact PySem.getD_mem (by rw [List.length_map, Array.length_toList]; omega)
  · obtain ⟨j, hj, rfl⟩ := mem_getD ha
    rw [List.length_map, Array.length_toList] at hj
    rw [← numAt_eq]; exact h2 j (by omega)
end

/-! ### the calls, by values (CallR of 03t; MtR of 06l) -/
section
variable {X : Cx}
/-- max(xs), min(xs) of a list of ints -/
def rMax (K : PySem.W.Frag) : List V → Hp → VK → Prop := fun vs H Q => ∃ (a : Addr) (ns : List Int), vs = [V.ref a] ∧ SqL K H a (ns.map V.int) ∧ 0 < ns.length ∧ ∀ m, m ∈ ns → (∀ y, y ∈ ns → y ≤ m) → Q (.int m) H
theorem cr_max (hc : X.calm = true) : CallR X (.builtin "max") (rMax X.K) := by
  intro pins s σ H vs us Q I r h
  obtain ⟨a, ns, rfl, hs, hne, q⟩ := h
  obtain ⟨its, rv, hl, _⟩ := I.list hs
  rw [Vals.ref1 r]
  exact max_raw (I.ok.hd hc) hl.isList rv.ints hne fun h' tk m t' hk h1 h2 => ⟨.int _, H, I.kept hk, ⟨_, rfl⟩, q m h1 h2⟩

/-! sorted, sort (fewer than 64 items: the library's own bound) -/
end

/-! ### list.index, flat items -/
section
variable {X : Cx}
end

/-! ### type(x) of an own instance; is, is not of a module's class -/
section
variable {X : Cx}
end

/-! ### any(xs), all(xs) of a list of bools -/
section
variable {X : Cx}
end

/-! ### == and != of data at any depth: none, bools, ints, texts, lists, tuples -/
section
variable {X : Cx} {pins : List (Addr × Obj)} {σ : St} {H : Hp} {s : Shared}
end
section
variable {X : Cx}
end
end L2

namespace L2
open PySem PySem.Spec PyProof.Rows
abbrev CellAt (h : Heap) (c : Addr) (v : Option Value) : Prop := h.IsCell c v
def relS (scope sc : Scope) : Scope :=
  { scope with names := scope.names.map fun (n, k) => if (k == .free && sc.kind == .function && sc.names.lookup n == some .cell) then (n, .cell) else (n, k) }

def cloFrom (cells : List (Str × Addr)) : List (Str × NameKind) → List (Str × Addr) → List (Str × Addr)
  | [], acc => acc
  | (n, k) :: r, acc => if k == .free then cloFrom cells r ((n, (cells.lookup n).getD 0) :: acc) else cloFrom cells r acc

theorem closure_loop (env : Env) (f : Str × NameKind → List (Str × Addr) → Sem (ForInStep (List (Str × Addr))))
    (hf : ∀ n k c, f (n, k) c = if k == .free then (do let a ← cellOf env n; pure (.yield ((n, a) :: c))) else pure (.yield c)) :
    ∀ (names : List (Str × NameKind)) (acc : List (Str × Addr)), (∀ y ∈ names, y.2 = .free → ∃ c, env.cells.lookup y.1 = some c) → forIn names acc f = pure (cloFrom env.cells names acc)
  | [], acc, _ => by rw [List.forIn_nil]; rfl
  | (n, k) :: r, acc, h => by
    rw [List.forIn_cons, hf]
    have ih := fun acc => closure_loop env f hf r acc fun y hy => h y (List.mem_cons_of_mem _ hy)
    unfold cloFrom
    by_cases hk : (k == NameKind.free) = true
    · rw [if_pos hk, if_pos hk]
      obtain ⟨c, hc⟩ := h (n, k) List.mem_cons_self (by simpa using hk)
      have e : cellOf env n = pure c := by unfold cellOf; rw [hc]
      rw [e]
      have e2 : (env.cells.lookup n).getD 0 = c := by rw [hc]; rfl
      rw [e2]
      exact ih _
    · rw [if_neg hk, if_neg hk]
      exact ih _
theorem closure_ok {scope : Scope} {env : Env} (h : ∀ y ∈ scope.names, y.2 = .free → ∃ c, env.cells.lookup y.1 = some c) : closureFor scope env = pure (cloFrom env.cells scope.names []) := by
  simp only [closureFor]
  rw [closure_loop env _ (fun n k c => rfl) scope.names [] h]
  rfl

theorem mem_lookup {α : Type} : ∀ {l : List (Str × α)} {n : Str} {c : α}, (n, c) ∈ l → ∃ c', l.lookup n = some c'
  | (k, v) :: r, n, c, h => by
    rw [List.lookup_cons]
    cases hb : n == k with
    | true => exact ⟨_, rfl⟩
    | false =>
      rcases List.mem_cons.mp h with e | h
      · cases e; simp at hb
      · exact mem_lookup h

theorem cloFrom_mem {cells : List (Str × Addr)} : ∀ {names : List (Str × NameKind)} {acc : List (Str × Addr)} {n : Str} {c : Addr}, (n, c) ∈ cloFrom cells names acc → (n, c) ∈ acc ∨ ((n, .free) ∈ names ∧ c = (cells.lookup n).getD 0)
  | [], _, _, _, h => .inl h
  | (m, k) :: r, acc, n, c, h => by
    unfold cloFrom at h
    split at h
    · rename_i hk
      have hk : k = .free := by simpa using hk
      rcases cloFrom_mem h with h | ⟨h1, h2⟩
      · rcases List.mem_cons.mp h with e | h
        · cases e; exact .inr ⟨hk ▸ List.mem_cons_self, rfl⟩
        · exact .inl h
      · exact .inr ⟨List.mem_cons_of_mem _ h1, h2⟩
    · rcases cloFrom_mem h with h | ⟨h1, h2⟩
      · exact .inl h
      · exact .inr ⟨List.mem_cons_of_mem _ h1, h2⟩
theorem cloFrom_acc {cells : List (Str × Addr)} : ∀ {names : List (Str × NameKind)} {acc : List (Str × Addr)} {p : Str × Addr}, p ∈ acc → p ∈ cloFrom cells names acc
  | [], _, _, h => h
  | (m, k) :: r, acc, p, h => by
    unfold cloFrom
    split
    · exact cloFrom_acc (List.mem_cons_of_mem _ h)
    · exact cloFrom_acc h
theorem cloFrom_has {cells : List (Str × Addr)} : ∀ {names : List (Str × NameKind)} {acc : List (Str × Addr)} {n : Str}, (n, .free) ∈ names → (n, (cells.lookup n).getD 0) ∈ cloFrom cells names acc
  | (m, k) :: r, acc, n, h => by
    unfold cloFrom
    rcases List.mem_cons.mp h with e | h
    · cases e
      exact cloFrom_acc List.mem_cons_self
    · split
      · exact cloFrom_has h
      · exact cloFrom_has h

theorem cells_mem : ∀ {names : List (Str × NameKind)} {h : Heap} {acc : List (Str × Addr)} {x : Str} {c : Addr}, (x, c) ∈ cellsFrom h.objs.size names acc →
    (x, c) ∈ acc ∨ ((x, .cell) ∈ names ∧ h.objs.size ≤ c ∧ CellAt (pushCells h names) c none)
  | [], _, _, _, _, h => .inl h
  | (n, k) :: r, h, acc, x, c, hm => by
    unfold cellsFrom at hm
    unfold pushCells
    split at hm
    · rename_i hk
      rw [if_pos hk]
      have hk : k = .cell := by simpa using hk
      rw [← Heap.size_push h { cls := .type "cell", data := .cell none }] at hm
      rcases cells_mem hm with hm | ⟨h1, h2, h3⟩
      · rcases List.mem_cons.mp hm with e | hm
        · cases e
          exact .inr ⟨hk ▸ List.mem_cons_self, Nat.le_refl _, _, pushCells_keeps r _ _ _ (Heap.get?_push_size _ rfl), rfl⟩
        · exact .inl hm
      · rw [Heap.size_push] at h2
        exact .inr ⟨List.mem_cons_of_mem _ h1, Nat.le_of_succ_le h2, h3⟩
    · rename_i hk
      rw [if_neg hk]
      rcases cells_mem hm with hm | ⟨h1, h2, h3⟩
      · exact .inl hm
      · exact .inr ⟨List.mem_cons_of_mem _ h1, h2, h3⟩
theorem cells_acc : ∀ {names : List (Str × NameKind)} {n : Nat} {acc : List (Str × Addr)} {p : Str × Addr}, p ∈ acc → p ∈ cellsFrom n names acc
  | [], _, _, _, h => h
  | (m, k) :: r, n, acc, p, h => by
    unfold cellsFrom
    split
    · exact cells_acc (List.mem_cons_of_mem _ h)
    · exact cells_acc h
theorem cells_has : ∀ {names : List (Str × NameKind)} {n : Nat} {acc : List (Str × Addr)} {x : Str}, (x, .cell) ∈ names → ∃ c, (x, c) ∈ cellsFrom n names acc
  | (m, k) :: r, n, acc, x, h => by
    unfold cellsFrom
    rcases List.mem_cons.mp h with e | h
    · cases e
      exact ⟨n, cells_acc List.mem_cons_self⟩
    · split
      · exact cells_has h
      · exact cells_has h
theorem cells_inj : ∀ {names : List (Str × NameKind)} {h : Heap} {acc : List (Str × Addr)} {x y : Str} {c : Addr}, (∀ p ∈ acc, p.2 < h.objs.size) → (∀ x y c, (x, c) ∈ acc → (y, c) ∈ acc → x = y) →
    (x, c) ∈ cellsFrom h.objs.size names acc → (y, c) ∈ cellsFrom h.objs.size names acc → x = y
  | [], _, _, _, _, _, _, hi, h1, h2 => hi _ _ _ h1 h2
  | (n, k) :: r, h, acc, x, y, c, hl, hi, h1, h2 => by
    unfold cellsFrom at h1 h2
    split at h1
    · rename_i hk
      rw [if_pos hk] at h2
      rw [← Heap.size_push h { cls := .type "cell", data := .cell none }] at h1 h2
      refine cells_inj (h := h.push _) (fun p hp => ?_) (fun x y c a b => ?_) h1 h2
      · rw [Heap.size_push]
        rcases List.mem_cons.mp hp with rfl | hp
        · exact Nat.lt_succ_self _
        · exact Nat.lt_succ_of_lt (hl p hp)
      · rcases List.mem_cons.mp a with e | a <;> rcases List.mem_cons.mp b with e' | b
        · cases e; cases e'; rfl
        · cases e; exact absurd (hl _ b) (Nat.lt_irrefl _)
        · cases e'; exact absurd (hl _ a) (Nat.lt_irrefl _)
        · exact hi _ _ _ a b
    · rename_i hk
      rw [if_neg hk] at h2
      exact cells_inj hl hi h1 h2

theorem newEnv_comp {M : Model} {A : Around} {E : Value → Shared → Prop} {s : Shared} {scope : Scope} {globals : Addr} {closure : List (Str × Addr)} {qual : Str} {func : Option Addr} {code : Value} {around : Env} {builtins : Addr} {Q : Env → Shared → Prop}
    (h : Q (newEnv scope s.heap.objs.size globals (cellsFrom (s.heap.objs.size + 1) scope.names closure) qual func code (some around) builtins)
      { s with heap := pushCells (s.heap.push { cls := .type "dict", data := .dict #[] }) scope.names }) :
    wpAny M A (newFunctionEnv scope globals closure [] qual func code (some around) builtins) Q E s := by
  simp only [newFunctionEnv, Option.isSome_some, if_true]
  refine wpAny_bind (wpAny_alloc ?_)
  refine wpAny_bind (wpAny_layCells _ (fun n k c => rfl) scope.names closure _ _ ?_)
  rw [show ({ s with heap := s.heap.push { cls := .type "dict", data := .dict #[] } } : Shared).heap.objs.size = s.heap.objs.size + 1 from Heap.size_push ..]
  rw [List.forIn_nil]
  exact wpAny_bind (wpAny_pure (wpAny_pure h))

/-- every name of the written scope, in the scope that runs -/
theorem lookup_relS {sc : Scope} : ∀ {names : List (Str × NameKind)} {x : Str} {k : NameKind},
    (names.map fun (n, k) => if (k == NameKind.free && sc.kind == .function && sc.names.lookup n == some .cell) then (n, NameKind.cell) else (n, k)).lookup x = some k →
    ∃ k', names.lookup x = some k' ∧ (k = k' ∨ (k' = .free ∧ k = .cell))
  | [], _, _, h => by simp at h
  | (n, k₀) :: r, x, k, h => by
    have ih := @lookup_relS sc r x k
    have h' : List.lookup x ((if (k₀ == NameKind.free && sc.kind == .function && sc.names.lookup n == some .cell) = true then (n, NameKind.cell) else (n, k₀)) :: (r.map _)) = some k := h
    cases hx : x == n with
    | true =>
      simp only [List.lookup_cons, hx]
      by_cases hc : (k₀ == NameKind.free && sc.kind == .function && sc.names.lookup n == some .cell) = true
      · rw [if_pos hc] at h'
        simp only [List.lookup_cons, hx] at h'
        cases h'
        simp only [Bool.and_eq_true, beq_iff_eq] at hc
        exact ⟨k₀, rfl, .inr ⟨hc.1.1, rfl⟩⟩
      · rw [if_neg hc] at h'
        simp only [List.lookup_cons, hx] at h'
        cases h'
        exact ⟨_, rfl, .inl rfl⟩
    | false =>
      simp only [List.lookup_cons, hx]
      by_cases hc : (k₀ == NameKind.free && sc.kind == .function && sc.names.lookup n == some .cell) = true
      · rw [if_pos hc] at h'
        simp only [List.lookup_cons, hx] at h'
        exact ih h'
      · rw [if_neg hc] at h'
        simp only [List.lookup_cons, hx] at h'
        exact ih h'

/-- the names of a comprehension's block: its own (with their places in N), or captured -/
structure BlkOk (N : List Str) (sc scope : Scope) (own : List (Str × Nat)) : Prop where
  kind : scope.kind = .function
  uniq : ∀ y ∈ scope.names, scope.names.lookup y.1 = some y.2
  ix : ∀ p ∈ own, N[p.2]? = some p.1
  free : ∀ y ∈ scope.names, y.2 = .free → sc.names.lookup y.1 = some .cell ∨ sc.names.lookup y.1 = some .free
  own : ∀ y ∈ scope.names, y.2 = .local ∨ y.2 = .cell → y.1 ∈ own.map (·.1) ∨ y.1 ∉ N
/-- the slots of the block's own names forgotten -/
def wipe (σ : St) : List Nat → St
  | [] => σ
  | v :: vs => (wipe σ vs).set v none
theorem wipe_length (σ : St) : ∀ vs : List Nat, (wipe σ vs).length = σ.length
  | [] => rfl
  | v :: vs => by unfold wipe; rw [List.length_set, wipe_length σ vs]
theorem wipe_some {σ : St} {i : Nat} {x : V} : ∀ {vs : List Nat}, (wipe σ vs)[i]? = some (some x) → σ[i]? = some (some x) ∧ i ∉ vs
  | [], h => ⟨h, by simp⟩
  | v :: vs, h => by
    unfold wipe at h
    by_cases hi : v = i
    · subst hi
      by_cases hv : v < (wipe σ vs).length
      · rw [List.getElem?_set_self hv] at h; cases h
      · rw [List.getElem?_eq_none (by simpa using hv)] at h; cases h
    · rw [List.getElem?_set_ne hi] at h
      obtain ⟨h1, h2⟩ := wipe_some h
      exact ⟨h1, by simp only [List.mem_cons, not_or]; exact ⟨fun e => hi e.symm, h2⟩⟩

/-- the context of a block that starts at s, its iterator's objects at fp -/
abbrev Cx.blk (X : Cx) (s : Shared) (H : Hp) (scope : Scope) (cenv : Env) (fp : List Addr) : Cx := { X with s_0 := s, H_0 := H, env := cenv, outer := X.stack, ex := fp, fn := fun x => scope.names.lookup x == some .cell, pn := [], xe := fun _ _ => False }
section
variable {X : Cx} {pins : List (Addr × Obj)} {σ : St} {H : Hp} {s : Shared}
theorem block_start {scope : Scope} {own : List (Str × Nat)} {fp : List Addr} (I : Inv X pins σ H s) (ok : BlkOk X.N X.env.scope scope own) (hN : X.N.Nodup) (hfp : ∀ b ∈ fp, FpOk X pins H b ∧ b < s.heap.objs.size) :
    Inv (X.blk s H scope (compEnvC scope (cellsFrom (s.heap.objs.size + 1) scope.names (cloFrom X.env.cells scope.names [])) s.heap.objs.size X.env) fp) [] (wipe σ (own.map (·.2))) H { s with heap := pushCells (s.heap.push { cls := .type "dict", data := .dict #[] }) scope.names } := by
  have hfree : ∀ y ∈ scope.names, y.2 = .free → ∃ c, X.env.cells.lookup y.1 = some c := fun y hy e => by
    rcases ok.free y hy e with k | k
    · exact I.ok.has _ (.inl k)
    · exact I.ok.has _ (.inr k)
  generalize hcenv : compEnvC scope (cellsFrom (s.heap.objs.size + 1) scope.names (cloFrom X.env.cells scope.names [])) s.heap.objs.size X.env = cenv
  have kp : ∀ b o, s.heap.get? b = some o → (pushCells (s.heap.push { cls := .type "dict", data := .dict #[] }) scope.names).get? b = some o := fun b o e => pushCells_keeps _ _ _ _ (Heap.get?_push_of_some _ e)
  have hL : cenv.locals = s.heap.objs.size := by rw [← hcenv]; rfl
  have hcl : cenv.cells = cellsFrom (s.heap.objs.size + 1) scope.names (cloFrom X.env.cells scope.names []) := by rw [← hcenv]; rfl
  have hsc : cenv.scope = relS scope X.env.scope := by rw [← hcenv]; rfl
  rw [← Heap.size_push s.heap { cls := .type "dict", data := .dict #[] }] at hcl
  have cm : ∀ {y c}, (y, c) ∈ cloFrom X.env.cells scope.names [] → X.env.cells.lookup y = some c ∧ c < s.heap.objs.size := fun {y c} hm => by
    rcases cloFrom_mem hm with hm | ⟨h1, rfl⟩
    · cases hm
    · obtain ⟨c, hc⟩ := hfree _ h1 rfl
      rw [hc]
      obtain ⟨w, z⟩ := I.cell _ _ hc
      exact ⟨rfl, z.lt⟩
  have mem : ∀ {y c}, cenv.cells.lookup y = some c → (X.env.cells.lookup y = some c ∧ c < s.heap.objs.size) ∨ (s.heap.objs.size + 1 ≤ c ∧ CellAt (pushCells (s.heap.push { cls := .type "dict", data := .dict #[] }) scope.names) c none) := fun {y c} e => by
    rw [hcl] at e
    rcases cells_mem (PySem.mem_of_lookup e) with hm | ⟨_, h2, h3⟩
    · exact .inl (cm hm)
    · rw [Heap.size_push] at h2; exact .inr ⟨h2, h3⟩
  have look : ∀ {y}, scope.names.lookup y = some .free → ∃ c, cenv.cells.lookup y = some c ∧ X.env.cells.lookup y = some c := fun {y} hl => by
    have hy : (y, NameKind.free) ∈ scope.names := PySem.mem_of_lookup hl
    obtain ⟨c', e'⟩ := mem_lookup (cells_acc (names := scope.names) (n := (s.heap.push { cls := .type "dict", data := .dict #[] }).objs.size) (cloFrom_has (cells := X.env.cells) (acc := []) hy))
    rw [← hcl] at e'
    refine ⟨c', e', ?_⟩
    rw [hcl] at e'
    rcases cells_mem (PySem.mem_of_lookup e') with hm | ⟨h1, _, _⟩
    · exact (cm hm).1
    · have := ok.uniq _ h1
      rw [hl] at this; cases this
  have okB : (X.blk s H scope cenv fp).Ok := by
    refine ⟨I.ok.mod, by show cenv.scope.kind = _; rw [hsc]; exact ok.kind, by show cenv.globals = _; rw [← hcenv]; exact I.ok.glob, by show cenv.builtins = _; rw [← hcenv]; exact I.ok.blt, by show s.heap.objs.size ≤ cenv.locals; rw [hL]; exact Nat.le_refl _,
      fun y z c e1 e2 => ?_, fun y hy => ?_, fun y c z e => ?_, I.ok.hd, I.ok.frames, .inl rfl, fun b hb => ⟨?_, fun y c e z => ?_⟩, I.bs, Nat.le_trans I.ok.bsz I.sz, fun b o e hb => ?_, fun b hb z => ?_, I.stack, I.stkFree⟩
    · have e1 : cenv.cells.lookup y = some c := e1
      have e2 : cenv.cells.lookup z = some c := e2
      rw [hcl] at e1 e2
      refine cells_inj (fun p hp => ?_) (fun y z c a b => I.ok.inj y z c (cm a).1 (cm b).1) (PySem.mem_of_lookup e1) (PySem.mem_of_lookup e2)
      rw [Heap.size_push]
      exact Nat.lt_succ_of_lt (cm (y := p.1) (c := p.2) hp).2
    · show ∃ c, cenv.cells.lookup y = some c
      have key : ∀ k, cenv.kindOf y = some k → (k = .cell ∨ k = .free) → ∃ c, cenv.cells.lookup y = some c := fun k hk hk' => by
        unfold Env.kindOf at hk
        rw [hsc] at hk
        obtain ⟨k', e, r⟩ := lookup_relS hk
        have : k' = .cell ∨ k' = .free := by
          rcases r with rfl | ⟨rfl, _⟩
          · exact hk'
          · exact .inr rfl
        rcases this with rfl | rfl
        · obtain ⟨c, hm⟩ := cells_has (n := (s.heap.push { cls := .type "dict", data := .dict #[] }).objs.size) (acc := cloFrom X.env.cells scope.names []) (PySem.mem_of_lookup e)
          obtain ⟨c', e'⟩ := mem_lookup hm
          exact ⟨c', by rw [hcl]; exact e'⟩
        · obtain ⟨c, h1, _⟩ := look e
          exact ⟨c, h1⟩
      rcases hy with hy | hy
      · exact key _ hy (.inl rfl)
      · exact key _ hy (.inr rfl)
    · have z : (scope.names.lookup y == some NameKind.cell) = true := z
      have z : scope.names.lookup y = some .cell := by simpa using z
      have e : cenv.cells.lookup y = some c := e
      rw [hcl] at e
      rcases cells_mem (PySem.mem_of_lookup e) with hm | ⟨_, h2, _⟩
      · rcases cloFrom_mem hm with hm | ⟨h1, _⟩
        · cases hm
        · have q := ok.uniq _ h1
          rw [z] at q; cases q
      · rw [Heap.size_push] at h2
        exact Nat.le_of_succ_le h2
    · show b ≠ cenv.locals
      rw [hL]; exact Nat.ne_of_lt (hfp b hb).2
    · have e : cenv.cells.lookup y = some c := e
      rcases mem e with ⟨h1, _⟩ | ⟨h1, _⟩
      · exact (hfp b hb).1.2.2.2.2.1 y c h1 z
      · have h2 : s.heap.objs.size + 1 ≤ b := by rw [← z]; exact h1
        exact absurd (Nat.lt_of_lt_of_le (hfp b hb).2 (Nat.le_of_succ_le h2)) (Nat.lt_irrefl _)
    · rcases (hfp b hb).1.2.2.2.1 with z | z
      · exact I.ok.noex b o e z
      · exact absurd (Nat.lt_of_lt_of_le (Heap.lt_size e) (Nat.le_trans I.ok.bsz z)) (Nat.lt_irrefl _)
    · rcases List.mem_cons.mp (I.stkSub b z) with z | z
      · exact (hfp b hb).1.2.1 z
      · exact (hfp b hb).1.2.2.1 z
  refine ⟨okB, rfl, I.bare, Un.kept kp, ⟨fun _ => none, ?_, fun i y av e1 e2 e3 => ?_⟩, fun y c e => ?_, ?_, fun y c e => ?_, fun p hp => ?_, I.hok.kept kp, by rw [wipe_length]; exact I.len⟩
  · show Heap.Ns _ cenv.locals _
    rw [hL]
    exact Heap.Ns.keeps (Heap.Ns.new ..) fun b o e => pushCells_keeps _ _ _ _ e
  · obtain ⟨e2, hne⟩ := wipe_some e2
    have hfr : scope.names.lookup y = some .free ∧ (cenv.kindOf y = some .cell ∨ cenv.kindOf y = some .free) := by
      have key : ∀ k, cenv.scope.names.lookup y = some k → k = .local ∨ k = .cell ∨ k = .free → scope.names.lookup y = some .free ∧ (cenv.kindOf y = some .cell ∨ cenv.kindOf y = some .free) := fun k hk hk' => by
        have hk0 := hk
        rw [hsc] at hk
        obtain ⟨k', e, r⟩ := lookup_relS hk
        have no : ¬ (k' = .local ∨ k' = .cell) := fun hh => by
          rcases ok.own _ (PySem.mem_of_lookup e) hh with e' | e'
          · obtain ⟨p, hp, hpy⟩ := List.mem_map.mp e'
            have e3 := ok.ix p hp
            have : p.1 = y := hpy
            rw [this] at e3
            exact hne (List.mem_map.mpr ⟨p, hp, nodup_ix hN e3 e1⟩)
          · exact e' (List.mem_of_getElem? e1)
        rcases r with rfl | ⟨rfl, rfl⟩
        · rcases hk' with rfl | rfl | rfl
          · exact absurd (.inl rfl) no
          · exact absurd (.inr rfl) no
          · exact ⟨e, .inr hk0⟩
        · exact ⟨e, .inl hk0⟩
      have e3 : Vis cenv.scope y := e3
      rcases e3 with e3 | e3 | e3
      · exact key _ e3 (.inl rfl)
      · exact key _ e3 (.inr (.inl rfl))
      · exact key _ e3 (.inr (.inr rfl))
    obtain ⟨m, hn, hl⟩ := I.loc
    have hvis : Vis X.env.scope y := (ok.free _ (PySem.mem_of_lookup hfr.1) rfl).elim (fun k => .inr (.inl k)) (fun k => .inr (.inr k))
    obtain ⟨w, r, q⟩ := hl i y av e1 e2 hvis
    refine ⟨w, r, .inr ⟨hfr.2, ?_⟩⟩
    obtain ⟨c, h1, h2⟩ := look hfr.1
    rcases q with ⟨k, _⟩ | ⟨_, c', e', z⟩
    · have k : X.env.scope.names.lookup y = some .local := k
      rcases ok.free _ (PySem.mem_of_lookup hfr.1) rfl with k' | k' <;> rw [show X.env.scope.names.lookup y = _ from k'] at k <;> cases k
    · rw [h2] at e'; cases e'
      exact ⟨c, h1, z.keeps kp⟩
  · have e : cenv.cells.lookup y = some c := e
    rcases mem e with ⟨h1, _⟩ | ⟨_, z⟩
    · obtain ⟨w, z⟩ := I.cell y c h1
      exact ⟨w, z.keeps kp⟩
    · exact ⟨_, z⟩
  · show H cenv.locals = none
    rw [hL]; exact I.hok.fresh (Nat.le_refl _)
  · have e : cenv.cells.lookup y = some c := e
    rcases mem e with ⟨h1, _⟩ | ⟨h1, _⟩
    · exact I.freeC y c h1
    · exact I.hok.fresh (Nat.le_of_succ_le h1)
  · exact absurd (show p ∈ ([] : List (Addr × Obj)) ++ [] from hp) (by simp)

/-- an item appended to a tracked list -/
theorem app_ok {E : Value → Shared → Prop} {D : Addr} {xs : List V} {y : V} {v : Value} {Q : Value → Shared → Prop} (I : Inv X pins σ H s) (hD : H D = some (.lst xs)) (hz : xs.length < sizeLine) (r : RelV y v)
    (h : ∀ s', Inv X pins σ (upd H D (.lst (xs ++ [y]))) s' → Q .none s') : wpAny (model X.prog X.w) X.A (call (.builtin "list.append") [.ref D, v]) Q E s := by
  obtain ⟨hz', its, n, ri, e⟩ := I.hok D _ hD
  have hl := ri.length
  refine append_at (hsz := by rw [List.size_toArray]; omega) e fun h' sb ho' => ?_
  refine h { s with heap := h' } (I.write (t' := s.toks) (by rw [hD]; trivial) (.inl rfl) (fun b u hb q => (sb.2 b hb).trans q) ⟨_, ho'⟩ ⟨by rw [List.length_append]; exact hz, its ++ [v], n + 1, ri.append (.cons r .nil), ?_⟩)
  rw [ho']
  simp

/-- a clause's tests -/
def PTs (X : Cx) (ifs : List Expr) (t : TT) : Prop :=
  ∀ (pins : List (Addr × Obj)) (s : Shared) (σ : St) (H : Hp) (Q : Bool → Hp → Prop), Inv X pins σ H s → t σ H Q →
    wpAny (model X.prog X.w) X.A (forIn ifs true fun c r => if r = true then do let ok ← isTrue c X.env (eval c X.env); pure (ForInStep.yield ok) else pure (ForInStep.yield r)) (TP X pins σ Q) X.xe s
def tYes : TT := fun _ H Q => Q true H
theorem pts_nil : PTs X [] tYes := fun _ _ _ H _ I h => wpAny_tests_nil ⟨H, I, h⟩
theorem pts_one {c : Expr} {t : TT} (h : PT X c t) : PTs X [c] t := fun pins s σ H Q I hw => wpAny_tests_one (h pins s σ H Q I hw)
end

theorem thnF {α : Type} {t : Sem α} {Q Q' : α → Shared → Prop} {M : Model} {A : Around} {E : Value → Shared → Prop} {s : Shared} (h : wpAny M A t Q (fun _ _ => False) s) (hQ : ∀ a s, Q a s → Q' a s) : wpAny M A t Q' E s := wpAny_mono h hQ fun _ _ z => False.elim z

/-- the loop of a list comprehension's block, the target of any form (codeAny_compLoop_tests asks a target that no tuple goes to; statement and proof follow it, PyProof/CompMap.lean:41-61, with the step letOwnedTupleGo kept) -/
theorem compLoop_any {prog : Program} {w : World} {A : Around} {R : Result → Shared → Prop} {s : Shared} {elt target iter : Expr} {ifs : List Expr} {scope : Scope} {pos : Pos} {it acc : Value} {env : Env} (I : Nat → Shared → Prop)
    (turn : ∀ n s, I n s → wpAny (model prog w) A (pyNext it) (fun r s₁ => match r with
      | none => R (.ok .next) s₁
      | some v => wpAny (model prog w) A (letOwnedTupleGo target it v) (fun _ s₁' => wpAny (model prog w) A (assign target env v) (fun _ s₂ =>
          wpAny (model prog w) A (forIn ifs true fun c r => if r = true then do let ok ← isTrue c env (eval c env); pure (ForInStep.yield ok) else pure (ForInStep.yield r)) (fun ok s₃ =>
            if ok = true then wpAny (model prog w) A (eval elt env) (fun x s₄ =>
              wpAny (model prog w) A (call (.builtin "list.append") [acc, x]) (fun _ s₅ => ∃ m, m < n ∧ I m s₅) (notedBy (model prog w) A env fun e s' => R (.error e) s') s₄) (notedBy (model prog w) A env fun e s' => R (.error e) s') s₃
            else ∃ m, m < n ∧ I m s₃) (notedBy (model prog w) A env fun e s' => R (.error e) s') s₂) (notedBy (model prog w) A env fun e s' => R (.error e) s') s₁') (notedBy (model prog w) A env fun e s' => R (.error e) s') s₁) (notedBy (model prog w) A env fun e s' => R (.error e) s') s)
    (n : Nat) (h : I n s) :
    codeAny (model prog w) A (.compLoop (.ListComp elt [⟨target, iter, ifs, 0⟩] scope pos) 0 it acc env) R s := by
  refine codeAny_loop rfl I (fun n s hI => ?_) n h
  show wpAny _ A ((compTurn (.ListComp elt [⟨target, iter, ifs, 0⟩] scope pos) 0 it acc env).onRaise (fun x => do noteFrame x env; theTreesLotGoes x)) _ _ s
  refine wpAny_noted ?_
  rw [compTurn_list]
  refine wpAny_bind (wpAny_standAt (wpAny_bind (wpAny_mono (turn n s hI) (fun r s₁ h₁ => ?_) fun _ _ h' => h')))
  cases r with
  | none => exact wpAny_pure h₁
  | some v =>
    refine wpAny_bind (wpAny_mono h₁ (fun _ s₁' h₁' => ?_) fun _ _ h' => h')
    refine wpAny_bind (wpAny_mono h₁' (fun _ s₂ h₂ => wpAny_bind (wpAny_mono h₂ (fun ok s₃ h₃ => ?_) fun _ _ h' => h')) fun _ _ h' => h')
    cases ok with
    | false => exact wpAny_pure ⟨rfl, h₃⟩
    | true =>
      exact wpAny_bind (wpAny_bind (wpAny_mono h₃ (fun x s₄ h₄ => wpAny_bind (wpAny_mono h₄ (fun _ s₅ h₅ => wpAny_pure (wpAny_pure ⟨rfl, h₅⟩)) fun _ _ h' => h')) fun _ _ h' => h'))

section
variable {X : Cx}
/-- [elt for target in iter if ..]: D the new list; W by the turn and a measure, Nx what a turn is to reach -/
def tLc (wi : TI) (g : TG) (tt : TT) (te : TE) (vs : List Nat) : TE := fun σ H Q => wi σ H fun J H1 => ∀ D, H1 D = none → ∃ W : Nat → Nat → Hp → Prop, (∃ m, W 0 m (upd H1 D (.lst []))) ∧ ∀ i m H, W i m H →
  (J.stop i H ∧ Q (.ref D) H) ∨ (J.go i H ∧ ∃ Nx : Hp → Prop, (∀ H', Nx H' → ∃ m', m' < m ∧ W (i + 1) m' H') ∧ ∀ x H', J.yld i H x H' → g x (wipe σ vs) H' fun σ2 H2 => wipe σ2 vs = wipe σ vs ∧ tt σ2 H2 fun b H3 =>
    if b = true then te σ2 H3 fun y H4 => ∃ acc, H4 D = some (.lst acc) ∧ acc.length < sizeLine ∧ Nx (upd H4 D (.lst (acc ++ [y]))) else Nx H3)
theorem lc_core {pins : List (Addr × Obj)} {s : Shared} {σ : St} {H : Hp} {Q : VK} {elt tg iter : Expr} {ifs : List Expr} {scope : Scope} {own : List (Str × Nat)} {pos pos' : Pos} {wi : TI} {g : TG} {tt : TT} {te : TE} {use : Option (Value → Sem Unit)} {Qf : Value → Shared → Prop}
    (hc : X.calm = true) (hN : X.N.Nodup) (I : Inv X pins σ H s) (hi : PI X tg iter wi) (ok : BlkOk X.N X.env.scope scope own)
    (hg : ∀ (s : Shared) (H : Hp) (C : Addr) (cl : List (Str × Addr)) (fp : List Addr), PG (X.blk s H scope (compEnvC scope cl C X.env) fp) tg g) (ht : ∀ (s : Shared) (H : Hp) (C : Addr) (cl : List (Str × Addr)) (fp : List Addr), PTs (X.blk s H scope (compEnvC scope cl C X.env) fp) ifs tt)
    (he : ∀ (s : Shared) (H : Hp) (C : Addr) (cl : List (Str × Addr)) (fp : List Addr), PE (X.blk s H scope (compEnvC scope cl C X.env) fp) elt te) (hs : ∀ x, foldedSetIterable iter X.env x = pure x)
    (h : tLc wi g tt te (own.map (·.2)) σ H Q)
    (hRR : ∀ D C s' m H', Inv X pins σ H' s' → Q (.ref D) H' → s'.heap.Ns C m → FpOk X pins H' C → compPost (model X.prog X.w) X.A X.xe use Qf (.ref D) C (.ok .next) s') :
    wpAny (model X.prog X.w) X.A (comprehension (.ListComp elt [⟨tg, iter, ifs, 0⟩] scope pos) scope X.env pos' (newList []) false (eval iter X.env) use) Qf X.xe s := by
  have hfree : ∀ y ∈ scope.names, y.2 = .free → ∃ c, X.env.cells.lookup y.1 = some c := fun y hy e => by
    rcases ok.free y hy e with k | k
    · exact I.ok.has _ (.inl k)
    · exact I.ok.has _ (.inr k)
  refine wpAny_comprehension_free (use := use) rfl hs (closure_ok hfree) ok.kind (fun y hy e => by rw [ok.uniq y hy, e])
    (thn (hi pins s σ H _ I h) fun xv s1 hx => thn hx fun itv s2 h2 => ?_)
  obtain ⟨it, fp, tn, J, H2, e, I2, T, st2, f2, q⟩ := h2
  subst e
  refine wpAny_newObj_type (newEnv_comp ?_) (by show 0 ≤ sizeLine; decide)
  generalize hD : s2.heap.objs.size = D
  have hDn : H2 D = none := I2.hok.fresh (Nat.le_of_eq hD)
  obtain ⟨W, ⟨m0, w0⟩, turn⟩ := q D hDn
  -- the new list
  generalize hs3 : ({ s2 with heap := s2.heap.push { cls := .type "list", data := .seq ([] : List Value).toArray } } : Shared) = s3
  have I3 : Inv X pins σ (upd H2 D (.lst [])) s3 := by
    rw [← hs3]
    refine I2.laid (t' := s2.toks) (fun b o e => Heap.get?_push_of_some _ e) (Nat.le_of_eq hD) ⟨Nat.zero_le _, [], 0, .nil, ?_⟩
    rw [← hD]
    exact Heap.get?_push_size _ rfl
  have h3 : s3.heap = s2.heap.push { cls := .type "list", data := .seq ([] : List Value).toArray } := by rw [← hs3]
  have sz : ∀ b ∈ fp, b < s2.heap.objs.size := fun b hb => by
    obtain ⟨o, e, _⟩ := T.obj _ _ st2 b hb
    exact Heap.lt_size e
  have f3 : ∀ b ∈ fp, FpOk X pins (upd H2 D (.lst [])) b ∧ b < s3.heap.objs.size := fun b hb => by
    have hlt := sz b hb
    refine ⟨⟨?_, (f2 b hb).2⟩, by rw [h3, Heap.size_push]; exact Nat.lt_succ_of_lt hlt⟩
    rw [upd_ne (by rw [← hD]; exact Nat.ne_of_lt hlt)]
    exact (f2 b hb).1
  have st3 : tn 0 s3.heap := T.keep _ _ _ st2 fun b _ o e => by rw [h3]; exact Heap.get?_push_of_some _ e
  have I4 := block_start I3 ok hN f3
  have pg := hg s3 (upd H2 D (.lst [])) s3.heap.objs.size (cellsFrom (s3.heap.objs.size + 1) scope.names (cloFrom X.env.cells scope.names [])) fp
  have pt := ht s3 (upd H2 D (.lst [])) s3.heap.objs.size (cellsFrom (s3.heap.objs.size + 1) scope.names (cloFrom X.env.cells scope.names [])) fp
  have pe := he s3 (upd H2 D (.lst [])) s3.heap.objs.size (cellsFrom (s3.heap.objs.size + 1) scope.names (cloFrom X.env.cells scope.names [])) fp
  show codeAny _ _ (.compStart (.ListComp elt [⟨tg, iter, ifs, 0⟩] scope pos) 0 (.ref it) (.ref D) (compEnvC scope (cellsFrom (s3.heap.objs.size + 1) scope.names (cloFrom X.env.cells scope.names [])) s3.heap.objs.size X.env)) (compPost (model X.prog X.w) X.A X.xe use Qf (.ref D) s3.heap.objs.size) { s3 with heap := pushCells (s3.heap.push { cls := .type "dict", data := .dict #[] }) scope.names }
  have nfp : ∀ b ∈ fp, (upd H2 D (.lst [])) b = none := fun b hb => (f3 b hb).1.1
  generalize hce : compEnvC scope (cellsFrom (s3.heap.objs.size + 1) scope.names (cloFrom X.env.cells scope.names [])) s3.heap.objs.size X.env = ce at I4 pg pt pe ⊢
  have cL : ce.locals = s3.heap.objs.size := by subst hce; rfl
  generalize hH3 : upd H2 D (.lst []) = H3 at I3 I4 pg pt pe w0 nfp f3
  generalize hs4 : ({ s3 with heap := pushCells (s3.heap.push { cls := .type "dict", data := .dict #[] }) scope.names } : Shared) = s4 at I4 ⊢
  have st4 : tn 0 s4.heap := T.keep _ _ _ st3 fun b _ o e => by rw [← hs4]; exact pushCells_keeps _ _ _ _ (Heap.get?_push_of_some _ e)
  have stat : ∀ {σ' : St} {H' : Hp} {s' : Shared}, Inv (X.blk s3 H3 scope ce fp) [] σ' H' s' → (∀ b ∈ fp, H' b = none) → ∀ b ∈ fp, FpOk (X.blk s3 H3 scope ce fp) [] H' b := fun {σ' H' s'} I' hn b hb =>
    ⟨hn b hb, (I'.ok.exf b hb).1, I'.ok.exfs b hb, .inl hb, fun x c e => (I'.ok.exf b hb).2 x c e, fun p hp => absurd (show p ∈ ([] : List (Addr × Obj)) ++ [] from hp) (by simp)⟩
  have loop : codeAny (model X.prog X.w) X.A (.compLoop (.ListComp elt [⟨tg, iter, ifs, 0⟩] scope pos) 0 (.ref it) (.ref D) ce) (compPost (model X.prog X.w) X.A X.xe use Qf (.ref D) s3.heap.objs.size) s4 := by
    refine compLoop_any (fun n s' => ∃ i H', Inv (X.blk s3 H3 scope ce fp) [] (wipe σ (own.map (·.2))) H' s' ∧ tn i s'.heap ∧ (∀ b ∈ fp, H' b = none) ∧ W i n H') ?_ m0 ⟨0, H3, I4, st4, nfp, w0⟩
    rintro n s5 ⟨i, H5, I5, st5, n5, w5⟩
    rcases turn i n H5 w5 with ⟨stop, qq⟩ | ⟨go, Nx, hNx, step⟩
    · have td := T.done (X.blk s3 H3 scope ce fp) rfl rfl rfl hc i [] s5 _ H5 (fun _ _ => False) I5 (stat I5 n5) st5 stop
      refine thnF td fun r s6 ⟨hr, I6⟩ => ?_
      subst hr
      -- back in the def's context
      have I7 : Inv X pins σ H5 s6 := I3.call' (ch := fp) I6.os I6.base I6.hok I6.bare fun b hb => ⟨(f3 b hb).1.2.2.2.1, (f3 b hb).1.2.1, (f3 b hb).1.2.2.2.2.1, (f3 b hb).1.2.2.2.2.2⟩
      have nC : H5 s3.heap.objs.size = none := by
        have z : H5 ce.locals = none := I6.free
        rw [cL] at z
        exact z
      obtain ⟨m, hn, _⟩ := I6.loc
      have hn : s6.heap.Ns ce.locals m := hn
      rw [cL] at hn
      exact hRR D s3.heap.objs.size s6 m H5 I7 qq hn (I3.fpOk (Nat.le_refl _) nC)
    · have ti := T.item (X.blk s3 H3 scope ce fp) rfl rfl rfl hc i [] s5 _ H5 (fun _ _ => False) I5 (stat I5 n5) st5 go
      refine thnF ti fun r s6 ⟨u, hr, h6⟩ => ?_
      subst hr
      refine thnF h6 fun _ s7 ⟨x, H7, I7, r7, y7, st7, n7⟩ => ?_
      have I7' := I7.pinned (stat I7 n7) (T.obj _ _ st7)
      refine thnF (pg _ s7 _ H7 x u _ I7' r7 (step x H7 y7)) fun _ s8 ⟨σ8, H8, I8, hw8, q8⟩ => ?_
      refine thnF (pt _ s8 σ8 H8 _ I8 q8) fun b s9 ⟨H9, I9, q9⟩ => ?_
      -- the turn's end
      have fin : ∀ {s' : Shared} {H' : Hp}, Inv (X.blk s3 H3 scope ce fp) ([] ++ pinsAt fp s7.heap) σ8 H' s' → Nx H' → ∃ m, m < n ∧ ∃ i H', Inv (X.blk s3 H3 scope ce fp) [] (wipe σ (own.map (·.2))) H' s' ∧ tn i s'.heap ∧ (∀ b ∈ fp, H' b = none) ∧ W i m H' := fun {s' H'} I' nx => by
        obtain ⟨m', hm, w'⟩ := hNx H' nx
        have pin' : ∀ b ∈ fp, ∀ o, s7.heap.get? b = some o → s'.heap.get? b = some o ∧ H' b = none := fun b hb o e =>
          let z := I'.pin (b, o) (List.mem_append_right _ (List.mem_append_right _ (mem_pinsAt hb e)))
          ⟨z.1, z.2.1⟩
        have hl : (wipe σ (own.map (·.2))).length = σ8.length := by rw [← hw8, wipe_length]
        refine ⟨m', hm, i + 1, H', (I'.unpinned (pins := [])).weak hl (fun j v e => ?_), T.keep _ _ _ st7 fun b hb o e => (pin' b hb o e).1, fun b hb => ?_, w'⟩
        · rw [← hw8] at e
          exact (wipe_some e).1
        · obtain ⟨o, e, _⟩ := T.obj _ _ st7 b hb
          exact (pin' b hb o e).2
      cases b with
      | false =>
        simp only [Bool.false_eq_true, if_false] at q9 ⊢
        exact fin I9 q9
      | true =>
        simp only [if_true] at q9 ⊢
        refine thnF (pe _ s9 σ8 H9 _ I9 q9) fun z s10 ⟨yv, H10, I10, r10, acc, hD10, hz10, nx⟩ => ?_
        exact app_ok (X := X.blk s3 H3 scope ce fp) I10 hD10 hz10 r10 fun s11 I11 => fin I11 nx
  exact codeAny_compStart_list loop (T.self X.A 0 _ _ _ st4 loop)
/-- as a value -/
theorem pe_lc {elt tg iter : Expr} {ifs : List Expr} {scope : Scope} {own : List (Str × Nat)} {pos : Pos} {wi : TI} {g : TG} {tt : TT} {te : TE} (hc : X.calm = true) (hN : X.N.Nodup) (hi : PI X tg iter wi) (ok : BlkOk X.N X.env.scope scope own)
    (hg : ∀ (s : Shared) (H : Hp) (C : Addr) (cl : List (Str × Addr)) (fp : List Addr), PG (X.blk s H scope (compEnvC scope cl C X.env) fp) tg g) (ht : ∀ (s : Shared) (H : Hp) (C : Addr) (cl : List (Str × Addr)) (fp : List Addr), PTs (X.blk s H scope (compEnvC scope cl C X.env) fp) ifs tt)
    (he : ∀ (s : Shared) (H : Hp) (C : Addr) (cl : List (Str × Addr)) (fp : List Addr), PE (X.blk s H scope (compEnvC scope cl C X.env) fp) elt te) (hs : ∀ x, foldedSetIterable iter X.env x = pure x := by intro _; rfl) :
    PE X (.ListComp elt [⟨tg, iter, ifs, 0⟩] scope pos) (tLc wi g tt te (own.map (·.2))) := by
  intro pins s σ H Q I h
  rw [eval_ListComp]
  refine lc_core hc hN I hi ok hg ht he hs h fun D C s' m H' I' q hn f => ⟨m, hn, fun h'' sb => ?_⟩
  obtain ⟨f0, f1, f2, f3, f4, f5⟩ := f
  exact ⟨.ref D, H', I'.turned (t' := s'.toks) (fun b o hb e => (sb.2 b hb).trans e) f0 f1 f3 f4 f5, rfl, q⟩
/-- name = [..] on one line, the name a local -/
theorem ps_setLc {i : Nat} {y : Str} {py : Pos} {elt tg iter : Expr} {ifs : List Expr} {scope : Scope} {own : List (Str × Nat)} {pos spos : Pos} {wi : TI} {g : TG} {tt : TT} {te : TE} (hc : X.calm = true) (hN : X.N.Nodup) (hy : X.N[i]? = some y) (hyl : X.env.scope.names.lookup y = some .local)
    (hsw : swapsWith (.ListComp elt [⟨tg, iter, ifs, 0⟩] scope pos) (some (.Name y py)) spos.line X.env = pure true) (hi : PI X tg iter wi) (ok : BlkOk X.N X.env.scope scope own)
    (hg : ∀ (s : Shared) (H : Hp) (C : Addr) (cl : List (Str × Addr)) (fp : List Addr), PG (X.blk s H scope (compEnvC scope cl C X.env) fp) tg g) (ht : ∀ (s : Shared) (H : Hp) (C : Addr) (cl : List (Str × Addr)) (fp : List Addr), PTs (X.blk s H scope (compEnvC scope cl C X.env) fp) ifs tt)
    (he : ∀ (s : Shared) (H : Hp) (C : Addr) (cl : List (Str × Addr)) (fp : List Addr), PE (X.blk s H scope (compEnvC scope cl C X.env) fp) elt te) (hs : ∀ x, foldedSetIterable iter X.env x = pure x := by intro _; rfl) :
    PS X (.Assign [.Name y py] (.ListComp elt [⟨tg, iter, ifs, 0⟩] scope pos) spos) (tAsg (tLc wi g tt te (own.map (·.2))) (gName i)) := by
  intro pins s σ H D I h
  rw [exec_Assign_Name_used _ _ _ _ hsw]
  refine wpAny_bind (wpAny_standAt (wpAny_bind ?_))
  show wpAny _ X.A (do let _ ← comprehension (.ListComp elt [⟨tg, iter, ifs, 0⟩] scope pos) scope X.env (firstIterPos [⟨tg, iter, ifs, 0⟩] pos) (newList []) false (eval iter X.env) (some (assign (.Name y py) X.env))) _ _ s
  have h : tLc wi g tt te (own.map (·.2)) σ H (fun x H1 => gName i x σ H1 D.nx) := h
  refine wpAny_bind (thn (lc_core (Qf := fun _ s' => SP X pins D .next s') hc hN I hi ok hg ht he hs h fun L C s' m H' I' q hn f => ?_) fun _ s' hq => wpAny_pure (wpAny_pure hq))
  show wpAny _ _ (assign (.Name y py) X.env (.ref L)) _ _ _
  refine wpAny_assign_Name (store_ok2 (v := V.ref L) I' hN hy (.inl hyl) rfl (fun s2 I2 ⟨a, sb, ha⟩ => ?_) (.inr hyl))
  obtain ⟨f0, f1, f2, f3, f4, f5⟩ := f
  have haC : C ≠ a := by
    rcases ha with z | z
    · rw [z]; exact f1
    · exact fun e => f4 y a z e.symm
  refine ⟨m, hn.sameBut sb haC, fun h3 sb3 => ?_⟩
  exact ⟨_, H', I2.turned (t' := s2.toks) (fun b o hb e => (sb3.2 b hb).trans e) f0 f1 f3 f4 f5, q⟩
theorem sw_true {elt : Expr} {gs : List Comprehension} {scope : Scope} {pos py : Pos} {y : Str} {l : Nat} {env : Env} (hk : env.scope.kind = .function) (hy : env.scope.names.lookup y = some .local) (hl : (py.line == pos.line) = true)
    (ha : (scope.names.any fun (n, k) => n == y && (k == .local || k == .cell)) = false) : swapsWith (.ListComp elt gs scope pos) (some (.Name y py)) l env = pure true := by
  have ky : env.kindOf y = some .local := hy
  have hb : env.blockKind = .function := by unfold Env.blockKind; rw [hk]; rfl
  unfold swapsWith
  simp only [hb, ky, ha, Expr.pos, hl]
  rfl
end

/-! ### the forms one uses -/
/-- over a range: Pv by the turn and the heap (the new list at D within) -/
theorem lc_range {lo : Int} {n : Nat} {g : TG} {tt : TT} {te : TE} {vs : List Nat} {σ : St} {H1 : Hp} {D : Addr} {Qd : Hp → Prop} (Pv : Nat → Hp → Prop) (h0 : Pv 0 (upd H1 D (.lst [])))
    (hs : ∀ i H, i < n → Pv i H → g (.int (lo + i)) (wipe σ vs) H fun σ2 H2 => wipe σ2 vs = wipe σ vs ∧ tt σ2 H2 fun b H3 =>
      if b = true then te σ2 H3 fun y H4 => ∃ acc, H4 D = some (.lst acc) ∧ acc.length < sizeLine ∧ Pv (i + 1) (upd H4 D (.lst (acc ++ [y]))) else Pv (i + 1) H3) (hd : ∀ H, Pv n H → Qd H) :
    ∃ W : Nat → Nat → Hp → Prop, (∃ m, W 0 m (upd H1 D (.lst []))) ∧ ∀ i m H, W i m H →
      ((Itr lo n).stop i H ∧ Qd H) ∨ ((Itr lo n).go i H ∧ ∃ Nx : Hp → Prop, (∀ H', Nx H' → ∃ m', m' < m ∧ W (i + 1) m' H') ∧ ∀ x H', (Itr lo n).yld i H x H' → g x (wipe σ vs) H' fun σ2 H2 => wipe σ2 vs = wipe σ vs ∧ tt σ2 H2 fun b H3 =>
        if b = true then te σ2 H3 fun y H4 => ∃ acc, H4 D = some (.lst acc) ∧ acc.length < sizeLine ∧ Nx (upd H4 D (.lst (acc ++ [y]))) else Nx H3) := by
  refine ⟨fun i m H => m = n - i ∧ i ≤ n ∧ Pv i H, ⟨n, by simp, Nat.zero_le _, h0⟩, ?_⟩
  rintro i m H ⟨rfl, hi, p⟩
  by_cases hlt : i < n
  · refine .inr ⟨hlt, Pv (i + 1), fun H' p' => ⟨n - (i + 1), by omega, rfl, hlt, p'⟩, fun x H' y => ?_⟩
    obtain ⟨e, y⟩ := y
    subst e y
    exact hs i _ hlt p
  · have e : i = n := by omega
    subst e
    exact .inl ⟨Nat.le_refl _, hd H p⟩
/-- over a list that the block leaves as it is -/
theorem lc_list {K : PySem.W.Frag} {a : Addr} {xs : List V} {g : TG} {tt : TT} {te : TE} {vs : List Nat} {σ : St} {H1 : Hp} {D : Addr} {Qd : Hp → Prop} (Pv : Nat → Hp → Prop) (h0 : Pv 0 (upd H1 D (.lst []))) (hl : ∀ i H, i ≤ xs.length → Pv i H → SqL K H a xs)
    (hs : ∀ i x H, xs[i]? = some x → Pv i H → g x (wipe σ vs) H fun σ2 H2 => wipe σ2 vs = wipe σ vs ∧ tt σ2 H2 fun b H3 =>
      if b = true then te σ2 H3 fun y H4 => ∃ acc, H4 D = some (.lst acc) ∧ acc.length < sizeLine ∧ Pv (i + 1) (upd H4 D (.lst (acc ++ [y]))) else Pv (i + 1) H3) (hd : ∀ H, Pv xs.length H → Qd H) :
    ∃ W : Nat → Nat → Hp → Prop, (∃ m, W 0 m (upd H1 D (.lst []))) ∧ ∀ i m H, W i m H →
      ((Itl K a).stop i H ∧ Qd H) ∨ ((Itl K a).go i H ∧ ∃ Nx : Hp → Prop, (∀ H', Nx H' → ∃ m', m' < m ∧ W (i + 1) m' H') ∧ ∀ x H', (Itl K a).yld i H x H' → g x (wipe σ vs) H' fun σ2 H2 => wipe σ2 vs = wipe σ vs ∧ tt σ2 H2 fun b H3 =>
        if b = true then te σ2 H3 fun y H4 => ∃ acc, H4 D = some (.lst acc) ∧ acc.length < sizeLine ∧ Nx (upd H4 D (.lst (acc ++ [y]))) else Nx H3) := by
  refine ⟨fun i m H => m = xs.length - i ∧ i ≤ xs.length ∧ Pv i H, ⟨xs.length, by simp, Nat.zero_le _, h0⟩, ?_⟩
  rintro i m H ⟨rfl, hi, p⟩
  have q := hl i H hi p
  by_cases hlt : i < xs.length
  · refine .inr ⟨⟨xs, xs[i], q, by simp [hlt]⟩, Pv (i + 1), fun H' p' => ⟨xs.length - (i + 1), by omega, rfl, hlt, p'⟩, fun x H' y => ?_⟩
    obtain ⟨e, y⟩ := y
    subst e
    exact hs i x _ (y xs q) p
  · have e : i = xs.length := by omega
    subst e
    exact .inl ⟨⟨xs, q, Nat.le_refl _⟩, hd H p⟩
def blkC (N : List Str) (sc scope : Scope) (own : List (Str × Nat)) : Bool :=
  (match scope.kind with | .function => true | _ => false) && (scope.names.all fun y => decide (scope.names.lookup y.1 = some y.2)) && (own.all fun p => decide (N[p.2]? = some p.1)) &&
    (scope.names.all fun y => match y.2 with
      | .free => (match sc.names.lookup y.1 with | some .cell => true | some .free => true | _ => false)
      | .local => decide (y.1 ∈ own.map (·.1)) || decide (y.1 ∉ N)
      | .cell => decide (y.1 ∈ own.map (·.1)) || decide (y.1 ∉ N)
      | _ => true)
theorem blkOk_by {N : List Str} {sc scope : Scope} {own : List (Str × Nat)} (h : blkC N sc scope own = true) : BlkOk N sc scope own := by
  unfold blkC at h
  simp only [Bool.and_eq_true, List.all_eq_true, decide_eq_true_eq] at h
  obtain ⟨⟨⟨h1, h2⟩, h3⟩, h4⟩ := h
  refine ⟨?_, h2, h3, fun y hy e => ?_, fun y hy e => ?_⟩
  · split at h1
    · assumption
    · cases h1
  · have q := h4 y hy
    simp only [e] at q
    split at q <;> first | exact .inl (by assumption) | exact .inr (by assumption) | cases q
  · have q := h4 y hy
    rcases e with e | e <;> (simp only [e, Bool.or_eq_true, decide_eq_true_eq] at q; exact q)
end L2

namespace L2
open PySem PySem.Spec PyProof.Rows

section
variable {prog : Program} {w : World} {A : Around} {R : Result → Shared → Prop} {s : Shared} {elt t0 i0 t1 i1 : Expr} {ifs0 ifs1 : List Expr} {scope : Scope} {pos : Pos} {it acc : Value} {env : Env}
end

section
variable {X : Cx}
end
end L2

namespace L2
open PySem PySem.Spec PyProof.Rows

/-! ### lists of pairs as tables -/
section
variable {κ : Type} [DecidableEq κ]
def valV (kvs : List (κ × V)) (k : κ) : Option V := (kvs.find? fun kv => decide (kv.1 = k)).map (·.2)
/-- in its place, or at the end -/
def putK (kvs : List (κ × V)) (k : κ) (v : V) : List (κ × V) :=
  if (kvs.any fun kv => decide (kv.1 = k)) = true then kvs.map (fun kv => if kv.1 = k then (kv.1, v) else kv) else kvs ++ [(k, v)]

theorem valV_pos {p : κ × V} {r : List (κ × V)} {k : κ} (e : p.1 = k) : valV (p :: r) k = some p.2 := by simp [valV, List.find?_cons, e]
theorem valV_neg {p : κ × V} {r : List (κ × V)} {k : κ} (e : ¬ p.1 = k) : valV (p :: r) k = valV r k := by simp [valV, List.find?_cons, e]
theorem valV_any (k : κ) : ∀ kvs : List (κ × V), (kvs.any fun kv => decide (kv.1 = k)) = (valV kvs k).isSome
  | [] => rfl
  | p :: r => by
    rw [List.any_cons]
    by_cases e : p.1 = k
    · simp only [valV_pos e, decide_eq_true e, Bool.true_or, Option.isSome_some]
    · rw [valV_neg e, decide_eq_false e, Bool.false_or]; exact valV_any k r
theorem length_putK (kvs : List (κ × V)) (k : κ) (v : V) : (putK kvs k v).length ≤ kvs.length + 1 := by
  unfold putK
  split
  · rw [List.length_map]; omega
  · rw [List.length_append, List.length_cons, List.length_nil]; omega

theorem RelO.isSome_eq {o : Option V} {u : Option Value} (r : RelO o u) : o.isSome = u.isSome := by
  cases o with
  | none => cases u with
    | none => rfl
    | some _ => exact (show False from r).elim
  | some _ => cases u with
    | none => exact (show False from r).elim
    | some _ => rfl
theorem RelO.getD {o : Option V} {u : Option Value} {d : V} {d' : Value} (r : RelO o u) (rd : RelV d d') : RelV (o.getD d) (u.getD d') := by
  cases o with
  | none => cases u with
    | none => exact rd
    | some _ => exact (show False from r).elim
  | some _ => cases u with
    | none => exact (show False from r).elim
    | some _ => exact r

/-- raw tables of the same keys -/
theorem KV.val {kvs : List (κ × V)} {vs : List (κ × Value)} (r : KV kvs vs) (k : κ) : RelO (valV kvs k) (valueAt vs k) := by
  unfold KV at r
  induction r with
  | nil => exact True.intro
  | @cons p q ps qs h t ih =>
    obtain ⟨h1, h2⟩ := h
    by_cases e : p.1 = k
    · have e' : q.1 = k := h1.symm.trans e
      have b : valueAt (q :: qs) k = some q.2 := by simp [valueAt, List.find?_cons, e']
      rw [valV_pos e, b]; exact h2
    · have e' : ¬ q.1 = k := fun z => e (h1.trans z)
      have b : valueAt (q :: qs) k = valueAt qs k := by simp [valueAt, List.find?_cons, e']
      rw [valV_neg e, b]; exact ih
theorem KV.any {kvs : List (κ × V)} {vs : List (κ × Value)} (r : KV kvs vs) (k : κ) : (kvs.any fun kv => decide (kv.1 = k)) = vs.any fun kv => decide (kv.1 = k) := by
  unfold KV at r
  induction r with
  | nil => rfl
  | cons h t ih => rw [List.any_cons, List.any_cons, ih, h.1]
theorem KV.repl {kvs : List (κ × V)} {vs : List (κ × Value)} (r : KV kvs vs) (k : κ) {y : V} {u : Value} (ry : RelV y u) :
    KV (kvs.map fun kv => if kv.1 = k then (kv.1, y) else kv) (vs.map fun kv => if kv.1 = k then (kv.1, u) else kv) := by
  unfold KV at r ⊢
  induction r with
  | nil => exact .nil
  | @cons p q ps qs h t ih =>
    rw [List.map_cons, List.map_cons]
    refine .cons ?_ ih
    obtain ⟨h1, h2⟩ := h
    by_cases e : p.1 = k
    · rw [if_pos e, if_pos (h1.symm.trans e)]; exact ⟨h1, ry⟩
    · rw [if_neg e, if_neg (fun z => e (h1.trans z))]; exact ⟨h1, h2⟩
theorem KV.put {kvs : List (κ × V)} {vs : List (κ × Value)} (r : KV kvs vs) (k : κ) {y : V} {u : Value} (ry : RelV y u) : KV (putK kvs k y) (stored vs k u) := by
  unfold putK stored
  rw [r.any k]
  by_cases e : (vs.any fun kv => decide (kv.1 = k)) = true
  · rw [if_pos e, if_pos e]; exact r.repl k ry
  · rw [if_neg e, if_neg e]; exact Paired.snoc r ⟨rfl, ry⟩
theorem KV.length {kvs : List (κ × V)} {vs : List (κ × Value)} (r : KV kvs vs) : kvs.length = vs.length := Paired.length r
end

/-! ### a tracked dict, its keys ints and texts or tuples of these -/
theorem kV_is {P : Program} {w : World} {k : Key} {u : Value} (r : RelV (kV k) u) : (mixKind P w).is k u = true := by
  cases k with
  | inl i => obtain ⟨t, e⟩ := (show ∃ t, u = Value.int i t from r); subst e; exact mixKind_int P w i t
  | inr x => obtain ⟨t, e⟩ := (show ∃ t, u = Value.str x t from r); subst e; exact mixKind_str P w x t
theorem items_are {P : Program} {w : World} : ∀ {ks : List Key} {us : List Value}, Vals (ks.map kV) us → ItemsAre (mixKind P w) ks us
  | [], _, r => by rw [List.map_nil] at r; cases r; exact .nil
  | k :: ks, _, r => by
    rw [List.map_cons] at r
    cases r with
    | cons h t => exact .cons (kV_is h) (items_are t)

/-- raw entries of a dict with tuple keys -/
abbrev KT (H : Hp) : List (List Key × V) → List (List Key × Addr × Value) → Prop := Paired fun p q => p.1 = q.1 ∧ H q.2.1 = some (.tup (p.1.map kV)) ∧ RelV p.2 q.2.2
theorem KT.val {H : Hp} {kvs : List (List Key × V)} {xs : List (List Key × Addr × Value)} (r : KT H kvs xs) (k : List Key) : RelO (valV kvs k) ((atKey xs k).map (·.2)) := by
  induction r with
  | nil => exact True.intro
  | @cons p q ps qs h t ih =>
    obtain ⟨h1, _, h2⟩ := h
    by_cases e : p.1 = k
    · have e' : q.1 = k := h1.symm.trans e
      have b : atKey (q :: qs) k = some q.2 := by simp [atKey, List.find?_cons, e']
      rw [valV_pos e, b]; exact h2
    · have e' : ¬ q.1 = k := fun z => e (h1.trans z)
      have b : atKey (q :: qs) k = atKey qs k := by simp [atKey, List.find?_cons, e']
      rw [valV_neg e, b]; exact ih
theorem KT.repl {H : Hp} {kvs : List (List Key × V)} {xs : List (List Key × Addr × Value)} (r : KT H kvs xs) (k : List Key) {y : V} {u : Value} (ry : RelV y u) :
    KT H (kvs.map fun kv => if kv.1 = k then (kv.1, y) else kv) (xs.map (putAt k u)) := by
  induction r with
  | nil => exact .nil
  | @cons p q ps qs h t ih =>
    rw [List.map_cons, List.map_cons]
    refine .cons ?_ ih
    obtain ⟨h1, h2, h3⟩ := h
    unfold putAt
    by_cases e : p.1 = k
    · rw [if_pos e, if_pos (h1.symm.trans e)]; exact ⟨h1, h2, ry⟩
    · rw [if_neg e, if_neg (fun z => e (h1.trans z))]; exact ⟨h1, h2, h3⟩
theorem KT.put {H : Hp} {kvs : List (List Key × V)} {xs : List (List Key × Addr × Value)} (r : KT H kvs xs) (k : List Key) {b : Addr} {y : V} {u : Value} (hb : H b = some (.tup (k.map kV))) (ry : RelV y u) :
    KT H (putK kvs k y) (storedH xs k b u) := by
  have e : (kvs.any fun kv => decide (kv.1 = k)) = (atKey xs k).isSome := by
    rw [valV_any, (r.val k).isSome_eq, Option.isSome_map]
  unfold putK storedH
  rw [e]
  by_cases q : (atKey xs k).isSome = true
  · rw [if_pos q, if_pos q]; exact r.repl k ry
  · rw [if_neg q, if_neg q]; exact Paired.snoc r ⟨rfl, hb, ry⟩
theorem KT.keeps {H H' : Hp} {kvs : List (List Key × V)} {xs : List (List Key × Addr × Value)} (r : KT H kvs xs) (ht : ∀ b ys, H b = some (.tup ys) → H' b = some (.tup ys)) : KT H' kvs xs :=
  Paired.mapP r fun _ _ z => ⟨z.1, ht _ _ z.2.1, z.2.2⟩

section
variable {P : Program} {w : World} {H : Hp} {h : Heap} {a : Addr}
theorem rd_of {u : HO} (ok : HOk P w H h) (e : Rd H a u) : ObjOk P w H h a u := e.ok ok
theorem dk_rd {kvs : List (Key × V)} (ok : HOk P w H h) (e : Rd H a (.dK kvs)) : kvs.length ≤ sizeLine ∧ (a == sysModules) = false ∧ ∃ vs, KV kvs vs ∧ h.DictOf (mixKind P w) a vs :=
  show ObjOk P w H h a (.dK kvs) from rd_of ok e
theorem dk_of {kvs : List (Key × V)} (ok : HOk P w H h) (e : H a = some (.dK kvs)) : kvs.length ≤ sizeLine ∧ (a == sysModules) = false ∧ ∃ vs, KV kvs vs ∧ h.DictOf (mixKind P w) a vs := dk_rd ok (.inl e)
/-- a tracked tuple of ints and texts is a key -/
theorem key_of {ks : List Key} (ok : HOk P w H h) (e : H a = some (.tup (ks.map kV))) : (tupleKind (mixKind P w)).is h ks a := by
  obtain ⟨_, its, r, o, h1, h2, n, h3⟩ := (show ObjOk P w H h a (.tup (ks.map kV)) from ok a _ e)
  exact ⟨o, its.toArray, n, h1, h2, h3, by simpa using items_are r⟩
theorem dt_rd {kvs : List (List Key × V)} (ok : HOk P w H h) (e : Rd H a (.dT kvs)) : kvs.length ≤ sizeLine ∧ (a == sysModules) = false ∧
    ∃ xs, KT H kvs xs ∧ h.DictOfH (tupleKind (mixKind P w)) a xs := by
  obtain ⟨z, y, xs, r, o, es, ep, h1, h2, h3, h4, h5⟩ := (show ObjOk P w H h a (.dT kvs) from rd_of ok e)
  refine ⟨z, y, xs, r, o, es, ep, h1, h2, h3, h4, fun x hx => ?_, h5⟩
  have all : ∀ {l : List (List Key × V)} {m : List (List Key × Addr × Value)}, KT H l m → ∀ x ∈ m, (tupleKind (mixKind P w)).is h x.1 x.2.1 := by
    intro l m q
    induction q with
    | nil => intro x hx; exact nomatch hx
    | @cons p q ps qs hq t ih =>
      intro x hx
      rcases List.mem_cons.mp hx with e | hx
      · subst e
        exact key_of ok (by rw [← hq.1]; exact hq.2.1)
      · exact ih x hx
  exact all r x hx
theorem dt_of {kvs : List (List Key × V)} (ok : HOk P w H h) (e : H a = some (.dT kvs)) : kvs.length ≤ sizeLine ∧ (a == sysModules) = false ∧
    ∃ xs, KT H kvs xs ∧ h.DictOfH (tupleKind (mixKind P w)) a xs := dt_rd ok (.inl e)
end

/-- what the dict at a holds at the key y -/
def DGet (H : Hp) (a : Addr) (y : V) (r : Option V) : Prop :=
  (∃ kvs k, Rd H a (.dK kvs) ∧ y = kV k ∧ r = valV kvs k) ∨ ∃ kvs k b, Rd H a (.dT kvs) ∧ y = .ref b ∧ H b = some (.tup (k.map kV)) ∧ r = valV kvs k
/-- the heap behind a[y] = v -/
def DPut (H : Hp) (a : Addr) (y v : V) (H' : Hp) : Prop :=
  (∃ kvs k, H a = some (.dK kvs) ∧ y = kV k ∧ kvs.length < sizeLine ∧ H' = upd H a (.dK (putK kvs k v))) ∨
  ∃ kvs k b, H a = some (.dT kvs) ∧ y = .ref b ∧ H b = some (.tup (k.map kV)) ∧ kvs.length < sizeLine ∧ H' = upd H a (.dT (putK kvs k v))
theorem DGet.k {H : Hp} {a : Addr} {kvs : List (Key × V)} {k : Key} (e : H a = some (.dK kvs)) : DGet H a (kV k) (valV kvs k) := .inl ⟨kvs, k, .inl e, rfl, rfl⟩
theorem DPut.k {H : Hp} {a : Addr} {kvs : List (Key × V)} {k : Key} {v : V} (e : H a = some (.dK kvs)) (hl : kvs.length < sizeLine) : DPut H a (kV k) v (upd H a (.dK (putK kvs k v))) := .inl ⟨kvs, k, e, rfl, hl, rfl⟩

section
variable {X : Cx} {pins : List (Addr × Obj)} {σ : St} {H : Hp} {s : Shared} {a : Addr} {y v : V} {u r : Value} {o : Option V} {A : Around} {E : Value → Shared → Prop}

theorem Inv.big (I : Inv X pins σ H s) : sysModules < s.heap.objs.size := by
  have h : mainGlobals < s.heap.objs.size := (I.mod.glob.keeps I.bk).lt
  exact Nat.lt_trans (by decide) h

/-- d[y], there -/
theorem d_getItem {Q : Value → Shared → Prop} (hu : A.units + 1 < cLine) (I : Inv X pins σ H s) (g : DGet H a y (some v)) (ry : RelV y u) (h : ∀ w' s', Inv X pins σ H s' → RelV v w' → Q w' s') :
    wpAny (model X.prog X.w) A (getItem (.ref a) u) Q E s := by
  rcases g with ⟨kvs, k, e, ey, l⟩ | ⟨kvs, k, b, e, ey, eb, l⟩
  · subst ey
    obtain ⟨z, hd, vs, rel, dd⟩ := dk_rd I.hok e
    obtain ⟨w', hw, rw'⟩ := RelO.some_of (v := v) (o := valueAt vs k) (by rw [l]; exact rel.val k)
    exact wpAny_getItem_of (kV_is ry) dd.mapOf hw (h w' _ (I.tok _) rw')
  · subst ey
    cases (show u = Value.ref b from ry)
    obtain ⟨z, hd, xs, rel, dd⟩ := dt_rd I.hok e
    obtain ⟨w', hw, rw'⟩ := RelO.some_of (v := v) (o := (atKey xs k).map (·.2)) (by rw [l]; exact rel.val k)
    obtain ⟨p, hp, hp2⟩ := Option.map_eq_some_iff.mp hw
    refine wpAny_getItem_heap (tupleKind_room_in1 hu) (key_of I.hok eb) dd hp ?_
    rw [hp2]
    exact h w' _ (I.tok _) rw'
/-- a dict's object is replaced -/
theorem d_write {h' : Heap} {t' : Nat} {ob : HO} (I : Inv X pins σ H s) (mu : Mut (H a)) (hs : Heap.SameBut a s.heap h') (he : ∃ q, h'.get? a = some q) (new : ObjOk X.prog X.w (upd H a ob) h' a ob) :
    Inv X pins σ (upd H a ob) { s with heap := h', toks := t' } :=
  I.write (x := a) (e := a) mu (.inl rfl) (fun b q hb z => (hs.2 b hb).trans z) he new
theorem dk_new {P : Program} {w : World} {H' : Hp} {h' : Heap} {kvs : List (Key × V)} {vs : List (Key × Value)} (z : kvs.length ≤ sizeLine) (hd : (a == sysModules) = false) (rel : KV kvs vs) (dd : h'.DictOf (mixKind P w) a vs) :
    ObjOk P w H' h' a (.dK kvs) := ⟨z, hd, vs, rel, dd⟩
/-- d[y] = v -/
theorem d_setItem {H' : Hp} {Q : Unit → Shared → Prop} (hu : A.units + 1 < cLine) (I : Inv X pins σ H s) (g : DPut H a y v H') (ry : RelV y u) (rv : RelV v r) (h : ∀ s', Inv X pins σ H' s' → Q () s') :
    wpAny (model X.prog X.w) A (setItem (.ref a) u r) Q E s := by
  rcases g with ⟨kvs, k, e, ey, l, eH⟩ | ⟨kvs, k, b, e, ey, eb, l, eH⟩
  · subst ey eH
    obtain ⟨z, hd, vs, rel, dd⟩ := dk_of I.hok e
    have hz : vs.length ≤ sizeLine := by rw [← rel.length]; exact z
    have hl : (putK kvs k v).length ≤ sizeLine := by have := length_putK kvs k v; omega
    refine wpAny_setItem_pairs (hsz := hz) (kV_is ry) dd fun h' dd' hs => h _ ?_
    have he : ∃ q, h'.get? a = some q := let ⟨q, _, _, hq, _⟩ := dd'; ⟨q, hq⟩
    exact d_write I (by rw [e]; exact True.intro) hs he (dk_new hl hd (rel.put k rv) dd')
  · subst ey eH
    cases (show u = Value.ref b from ry)
    obtain ⟨z, hd, xs, rel, dd⟩ := dt_of I.hok e
    have hz : xs.length ≤ sizeLine := by rw [← Paired.length rel]; exact z
    have hl : (putK kvs k v).length ≤ sizeLine := by have := length_putK kvs k v; omega
    refine wpAny_setItem_heap (hsz := hz) (tupleKind_room_in1 hu) (key_of I.hok eb) dd fun h' dd' hs => h _ ?_
    obtain ⟨q, es, ep, hq, h2, h3, h4, _, h5⟩ := dd'
    refine d_write I (by rw [e]; exact True.intro) hs ⟨q, hq⟩ ⟨hl, hd, _, (rel.put k eb rv).keeps fun c ys ec => ?_, q, es, ep, hq, h2, h3, h4, h5⟩
    rw [upd_ne (ne_of ec e (fun z => nomatch z))]
    exact ec
end

section
variable {X : Cx} {pins : List (Addr × Obj)} {σ : St} {H : Hp} {s : Shared} {a : Addr} {kvs : List (Key × V)} {k : Key} {u : Value} {A : Around} {E : Value → Shared → Prop}
end

/-! ### readings and rules -/
/-- the element of a subscription, not a slice -/
def NoSl (i : Expr) : Prop := ∀ ov iv, subscripted i false ov iv = operate [ov, iv] (getItem ov iv)
theorem subD_of {prog : Program} {w : World} {A : Around} {E : Value → Shared → Prop} {s : Shared} {env : Env} {value slice : Expr} {pos : Pos} {T id : String} {Q : Value → Shared → Prop}
    (hl : typeLookup (.type T) "__getitem__" = pure (some (.builtin id))) (hs : NoSl slice)
    (h : wpAny (model prog w) A (eval value env) (fun o s₁ => wpAny (model prog w) A (eval slice env) (fun i s₂ => s₂.TypeIs o T ∧ wpAny (model prog w) A (getItem o i) Q E s₂) E s₁) E s) :
    wpAny (model prog w) A (eval (.Subscript value slice pos) env) Q E s := by
  refine Subscript_ (wpAny_mono h (fun o s₁ h₁ => wpAny_mono h₁ (fun i s₂ h₂ => ?_) fun _ _ x => x) fun _ _ x => x)
  obtain ⟨hT, h₂⟩ := h₂
  unfold subscriptTail
  refine wpAny_bind ?_
  rw [getitemInPython_of_ne hT.not_modules]
  refine wpAny_bind (wpAny_specialOf hT hl ?_)
  have fin : wpAny (model prog w) A (subscripted slice false o i) (fun r s₃ => wpAny (model prog w) A (letTemporaryGo value o r >>= fun _ => pure r) Q E s₃) E s₂ := by
    rw [hs o i]
    exact wpAny_operating (wpAny_mono h₂ (fun r s₃ h₃ => wpAny_bind (wpAny_letTemporaryGo (wpAny_pure h₃))) fun _ _ x => x)
  first
    | exact wpAny_pure (wpAny_bind fin)
    | exact wpAny_bind (wpAny_pure (wpAny_bind fin))
    | exact wpAny_bind fin

theorem dict_typeIs {X : Cx} {pins : List (Addr × Obj)} {σ : St} {H : Hp} {s : Shared} {a : Addr} {y : V} {o : Option V} (I : Inv X pins σ H s) (g : DGet H a y o) : s.TypeIs (.ref a) "dict" := by
  rcases g with ⟨kvs, k, e, _, _⟩ | ⟨kvs, k, b, e, _, _, _⟩
  · obtain ⟨_, _, vs, _, dd⟩ := dk_rd I.hok e
    exact dd.typeIs
  · obtain ⟨_, _, xs, _, dd⟩ := dt_rd I.hok e
    exact dd.typeIs

/-- d[y] -/
def tDGet (td ty : TE) : TE := fun σ H Q => td σ H fun x H1 => ty σ H1 fun y H2 => ∃ a v, x = .ref a ∧ DGet H2 a y (some v) ∧ Q v H2
/-- d[y] = v -/
def sDPut (td ty tv : TE) : TS := fun D σ H => tv σ H fun v H1 => td σ H1 fun x H2 => ty σ H2 fun y H3 => ∃ a H4, x = .ref a ∧ DPut H3 a y v H4 ∧ D.nx σ H4

section
variable {X : Cx} {o i e value : Expr} {pos pos' tpos : Pos} {td ty tv : TE}
theorem pe_dget (hu : X.A.units + 1 < cLine) (ho : PE X o td) (hi : PE X i ty) (hs : NoSl i) : PE X (.Subscript o i pos) (tDGet td ty) := by
  intro pins s σ H Q I h
  refine subD_of PySem.F.slot_dict_getitem.lookup hs (thn (ho pins s σ H _ I h) fun u s1 ⟨x, H1, I1, rx, q1⟩ => thn (hi pins s1 σ H1 _ I1 q1) fun iv s2 ⟨y, H2, I2, ry, a, v, ex, g, q2⟩ => ?_)
  subst ex
  obtain rfl : u = Value.ref a := rx
  exact ⟨dict_typeIs I2 g, d_getItem hu I2 g ry fun w' s3 I3 rw' => ⟨v, H2, I3, rw', q2⟩⟩
theorem ps_dput (hu : X.A.units + 1 < cLine) (ho : PE X o td) (hi : PE X i ty) (hv : PE X value tv) (hs : swapsWith value (some (.Subscript o i pos')) pos.line X.env = pure false) :
    PS X (.Assign [.Subscript o i pos'] value pos) (sDPut td ty tv) := by
  intro pins s σ H D I h
  refine wpAny_Assign_Subscript (thn (hv pins s σ H _ I h) fun r s1 ⟨v, H1, I1, rv, q1⟩ => thn (ho pins s1 σ H1 _ I1 q1) fun u s2 ⟨x, H2, I2, rx, q2⟩ => thn (hi pins s2 σ H2 _ I2 q2) fun iv s3 ⟨y, H3, I3, ry, a, H4, ex, g, q3⟩ => ?_) hs
  subst ex
  obtain rfl : u = Value.ref a := rx
  exact d_setItem hu I3 g ry rv fun s4 I4 => ⟨σ, H4, I4, q3⟩
end

/-! ### displays -/
theorem dk_empty {P : Program} {w : World} {H : Hp} (h : Heap) (hb : sysModules < h.objs.size) : ObjOk P w H (h.push { cls := .type "dict", data := .dict #[] }) h.objs.size (.dK []) :=
  ⟨Nat.zero_le _, beq_eq_false_iff_ne.mpr (Ne.symm (Nat.ne_of_lt hb)), [], .nil, Heap.DictOf.new h⟩
/-- {}, to be a dict of the kind that is wanted -/
def tDNewK : TE := fun _ H Q => ∀ p, H p = none → Q (.ref p) (upd H p (.dK []))
section
variable {X : Cx} {pos : Pos}
theorem pe_dnewK : PE X (.Dict [] [] pos) tDNewK := fun pins s σ H Q I h =>
  wpAny_Dict_empty ⟨.ref s.heap.objs.size, _, I.laid (a := s.heap.objs.size) (o := .dK []) (t' := s.toks) (fun _ _ q => Heap.get?_push_of_some _ q) (Nat.le_refl _) (dk_empty s.heap I.big), rfl, h _ (I.hok.fresh (Nat.le_refl _))⟩
end

/-! ### methods -/
structure M2 (X : Cx) (o : Expr) (m : Str) (apos : Pos) (e f : Expr) (cpos : Pos) : Prop where
  base : attributeBase o m X.env (eval o X.env) = eval o X.env
  few : ((backTo cpos (starEach [e, f] X.env)).all (fun x => !x.1) && (backToKw cpos (keywordEach [] X.env)).all (fun x => x.1.isSome)
    && decide (([e, f] : List Expr).length + ([] : List Keyword).length + (if ([] : List Keyword).isEmpty then 0 else 1) < 30)) = true
  line : (apos.endLine == cpos.line) = true
  trees : backTo cpos (starEach [e, f] X.env) = [(false, eval e X.env), (false, eval f X.env)]

/-- a is a dict, whatever its keys -/
def IsD (H : Hp) (a : Addr) : Prop := (∃ kvs, Rd H a (.dK kvs)) ∨ ∃ kvs, Rd H a (.dT kvs)
theorem isD_at {X : Cx} {pins : List (Addr × Obj)} {σ : St} {H : Hp} {s : Shared} {a : Addr} (I : Inv X pins σ H s) (d : IsD H a) :
    s.TypeIs (.ref a) "dict" ∧ (∀ b, Value.ref a = .ref b → ∃ ob, s.heap.get? b = some ob ∧ ob.dict = none) ∧ (a == sysModules) = false := by
  rcases d with ⟨kvs, e⟩ | ⟨kvs, e⟩
  · obtain ⟨_, hd, vs, _, dd⟩ := dk_rd I.hok e
    refine ⟨dd.typeIs, fun b q => ?_, hd⟩
    cases q
    obtain ⟨ob, _, _, h1, h2, _⟩ := dd
    exact ⟨ob, h1, h2.2.1⟩
  · obtain ⟨_, hd, xs, _, dd⟩ := dt_rd I.hok e
    refine ⟨dd.typeIs, fun b q => ?_, hd⟩
    cases q
    obtain ⟨ob, _, _, h1, h2, _⟩ := dd
    exact ⟨ob, h1, h2.2.1⟩

section
variable {X : Cx} {pins : List (Addr × Obj)} {σ : St} {H : Hp} {s : Shared} {a : Addr} {y d : V} {u r : Value} {o : Option V} {A : Around} {E : Value → Shared → Prop}
/-- d.get(y, x) -/
theorem d_get2 {Q : Value → Shared → Prop} (hu : A.units + 1 < cLine) (I : Inv X pins σ H s) (g : DGet H a y o) (ry : RelV y u) (rd : RelV d r) (h : ∀ w' s', Inv X pins σ H s' → RelV (o.getD d) w' → Q w' s') :
    wpAny (model X.prog X.w) A (call (.builtin "dict.get") [.ref a, u, r]) Q E s := by
  rcases g with ⟨kvs, k, e, ey, l⟩ | ⟨kvs, k, b, e, ey, eb, l⟩
  · subst ey
    obtain ⟨z, hd, vs, rel, dd⟩ := dk_rd I.hok e
    refine call_meetsIn PySem.F.slot_dict_get dd.typeIs PySem.F.entry_dict_get (PySem.F.args_dict_get_3 _ _ _) (meets_dict_get_default (mixKind X.prog X.w) a (kV_is ry) hd r) ⟨_, dd.mapOf, h _ _ (I.tok _) ?_⟩
    rw [l]
    exact (rel.val k).getD rd
  · subst ey
    cases (show u = Value.ref b from ry)
    obtain ⟨z, hd, xs, rel, dd⟩ := dt_rd I.hok e
    refine call_meetsIn PySem.F.slot_dict_get dd.typeIs PySem.F.entry_dict_get (PySem.F.args_dict_get_3 _ _ _) (meetsH_dict_get_default (tupleKind (mixKind X.prog X.w)) a b hd r) ⟨tupleKind_room_in1 hu, k, xs, key_of I.hok eb, dd, h _ _ (I.tok _) ?_⟩
    rw [l]
    exact (rel.val k).getD rd
end

def tDGet2 (td ty tx : TE) : TE := fun σ H Q => td σ H fun x H1 => ∃ a, x = .ref a ∧ IsD H1 a ∧ ty σ H1 fun y H2 => tx σ H2 fun z H3 => ∃ o, DGet H3 a y o ∧ Q (o.getD z) H3
section
variable {X : Cx} {o e f : Expr} {apos cpos : Pos} {td ty tx : TE}
theorem pe_dget2 (hu : X.A.units + 1 < cLine) (ho : PE X o td) (he : PE X e ty) (hf : PE X f tx) (m : M2 X o "get" apos e f cpos) : PE X (.Call (.Attribute o "get" apos) [e, f] [] cpos) (tDGet2 td ty tx) := by
  intro pins s σ H Q I h
  refine wpAny_Call_method m.base m.few m.line PySem.F.plainAttrs_dict PySem.F.slot_dict_get PySem.F.type_dict_get (thn (ho pins s σ H _ I h) fun u s1 ⟨x, H1, I1, rx, a, ex, d, q1⟩ => ?_)
  subst ex
  obtain rfl : u = Value.ref a := rx
  obtain ⟨t1, t2, _⟩ := isD_at I1 d
  refine ⟨t1, t2, ?_⟩
  rw [m.trees]
  refine Calls.callWith_builtin rfl (Calls.evalArgs_plain (Calls.spliced_cons (thn (he pins s1 σ H1 _ I1 q1) fun iv s2 ⟨y, H2, I2, ry, q2⟩ =>
    Calls.spliced_cons (thn (hf pins s2 σ H2 _ I2 q2) fun fv s3 ⟨z, H3, I3, rz, ov, g, q3⟩ => Calls.spliced_nil ?_))))
  exact d_get2 hu I3 g ry rz fun w' s4 I4 rw' => ⟨_, H3, I4, rw', q3⟩
end

/-! ### dict(d): a copy -/
section
variable {X : Cx} {pins : List (Addr × Obj)} {σ : St} {H : Hp} {s : Shared} {a : Addr} {kvs : List (Key × V)} {A : Around} {E : Value → Shared → Prop}
end

section
variable {X : Cx} {pins : List (Addr × Obj)} {σ : St} {H : Hp} {s : Shared} {a : Addr} {y : V} {u : Value} {A : Around} {E : Value → Shared → Prop}
end
end L2

namespace L2
open PySem PySem.Spec PyProof.Rows

section
variable {prog : Program} {w : World} {A : Around} {E : Value → Shared → Prop}

end

section
variable {X : Cx}
end
end L2

namespace L2
open PySem PySem.Spec PyProof.Rows

section
variable {X : Cx} {pins : List (Addr × Obj)} {σ : St} {H : Hp} {s : Shared} {h' : Heap}
/-- several records of ours have turned -/
theorem Inv.turnedL {t' : Nat} {ch : List Addr} (I : Inv X pins σ H s) (k : ∀ b o, b ∉ ch → s.heap.get? b = some o → h'.get? b = some o) (hf : ∀ b ∈ ch, FpOk X pins H b) : Inv X pins σ H { s with heap := h', toks := t' } := by
  have nit : ∀ b u, H b = some u → b ∉ ch := fun b u e z => by
    have q := (hf b z).1
    rw [q] at e; cases e
  refine I.step (g' := s.gens) (d' := s.drawn) (ch := ch) (fun b hb => ⟨(hf b hb).2.2.2.1, (hf b hb).2.1, (hf b hb).2.2.2.2.1, (hf b hb).2.2.2.2.2⟩) (fun b o _ _ hc e _ => k b o hc e) (fun b o _ _ hc e _ => ⟨o.slots, k b o hc e⟩)
    (fun _ _ _ _ n => n) (fun b o hc e => ⟨o, k b o hc e⟩) (fun _ _ e => e) (fun _ _ _ e => e) (fun b ps e => ⟨#[], by rw [e]; simp⟩) (fun m hm => ?_) (fun b u e => ?_) I.bare
  · obtain ⟨o, es, ep, ho, r⟩ := hm
    exact ⟨o, es, ep, k _ o (fun z => (hf _ z).2.1 rfl) ho, r⟩
  · refine (I.hok b u e).stay (fun c v hc q => k c v ?_ q) (fun _ q => q) fun _ _ q => q
    rcases hc with z | z
    · rw [z]; exact nit b u e
    · exact nit c _ z
/-- .. and one new object is laid -/
theorem Inv.turnedNew {t' : Nat} {ch : List Addr} {T : Addr} {ob : HO} (I : Inv X pins σ H s) (k : ∀ b o, b ∉ ch → s.heap.get? b = some o → h'.get? b = some o) (hf : ∀ b ∈ ch, FpOk X pins H b) (hT : s.heap.objs.size ≤ T)
    (new : ObjOk X.prog X.w (upd H T ob) h' T ob) : Inv X pins σ (upd H T ob) { s with heap := h', toks := t' } := by
  have hn : H T = none := I.hok.fresh hT
  have nit : ∀ b u, H b = some u → b ∉ ch := fun b u e z => by
    have q := (hf b z).1
    rw [q] at e; cases e
  refine I.step (g' := s.gens) (d' := s.drawn) (ch := ch) (fun b hb => ⟨(hf b hb).2.2.2.1, (hf b hb).2.1, (hf b hb).2.2.2.2.1, (hf b hb).2.2.2.2.2⟩) (fun b o _ _ hc e _ => k b o hc e) (fun b o _ _ hc e _ => ⟨o.slots, k b o hc e⟩)
    (fun b o _ e n => ?_) (fun b o hc e => ⟨o, k b o hc e⟩) (fun b xs e => ?_) (fun b o u e => ?_) (fun b ps e => ⟨#[], ?_⟩) (fun m hm => ?_) (fun b u e => ?_) I.bare
  · rw [upd_ne (Nat.ne_of_lt (Nat.lt_of_lt_of_le (Heap.lt_size e) hT))]; exact n
  · rw [upd_ne (ne_of_none e hn)]; exact e
  · rw [upd_ne (ne_of_none e hn)]; exact e
  · rw [upd_ne (ne_of_none e hn), e]; simp
  · obtain ⟨o, es, ep, ho, r⟩ := hm
    exact ⟨o, es, ep, k _ o (fun z => (hf _ z).2.1 rfl) ho, r⟩
  · by_cases hb : b = T
    · subst hb
      rw [upd_same] at e
      cases e
      exact new
    · rw [upd_ne hb] at e
      refine (I.hok b u e).stay (fun c v hc q => k c v ?_ q) (fun c q => by rw [upd_ne (ne_of_none q hn)]; exact q) fun c xs q => by rw [upd_ne (ne_of_none q hn)]; exact q
      rcases hc with z | z
      · rw [z]; exact nit b u e
      · exact nit c _ z

/-! ### locking a thing while a statement runs -/
theorem Inv.lock {d : Addr} {u : HO} (I : Inv X pins σ H s) (h : H d = some u) (mu : Mut (some u)) : ∃ od, Inv X pins σ (upd H d (.frz od u)) s := by
  have x := I.hok d u h
  have ex : ∃ od, s.heap.get? d = some od := by
    cases u with
    | lst xs => obtain ⟨_, _, _, _, e⟩ := x; exact ⟨_, e⟩
    | dK kvs => obtain ⟨_, _, _, _, o, _, _, e, _⟩ := x; exact ⟨o, e⟩
    | dT kvs => obtain ⟨_, _, _, _, o, _, _, e, _⟩ := x; exact ⟨o, e⟩
    | set S n => obtain ⟨o, _, _, _, e, _⟩ := x; exact ⟨o, e⟩
    | ins C dx fs => obtain ⟨_, _, _, e, _⟩ := x; exact ⟨_, e⟩
    | ext φ => obtain ⟨_, ⟨_, e⟩, _⟩ := x; exact ⟨_, e⟩
    | _ => exact False.elim mu
  obtain ⟨od, e⟩ := ex
  have new : ObjOk X.prog X.w (upd H d (.frz od u)) s.heap d (.frz od u) := by
    refine ⟨e, x.stay (fun b v _ q => q) (fun b q => ?_) fun b xs q => ?_⟩
    · rw [upd_ne (fun z => by rw [z, h] at q; cases q; exact mu)]; exact q
    · rw [upd_ne (fun z => by rw [z, h] at q; cases q; exact mu)]; exact q
  exact ⟨od, I.write (x := d) (e := d) (t' := s.toks) (h' := s.heap) (by rw [h]; exact mu) (.inl rfl) (fun b v _ q => q) ⟨od, e⟩ new⟩
theorem Inv.nofrz {d : Addr} {u : HO} (I : Inv X pins σ H s) (h : H d = some u) (mu : Mut (some u)) : ∀ o' u', X.H_0 d ≠ some (.frz o' u') := fun o' u' e => by
  have q := I.base.frzs d o' u' e
  rw [h] at q
  cases q
  exact mu
theorem Inv.unlock {d : Addr} {od : Obj} {u : HO} (I : Inv X pins σ H s) (h : H d = some (.frz od u)) (hn : ∀ o' u', X.H_0 d ≠ some (.frz o' u')) : Inv X pins σ (upd H d u) s := by
  have neH : ∀ b o, H b = some o → (∀ o' u', o ≠ .frz o' u') → b ≠ d := fun b o e hne z => by
    rw [z, h] at e
    cases e
    exact hne _ _ rfl
  have neN : ∀ b, H b = none → b ≠ d := fun b e z => by rw [z, h] at e; cases e
  refine ⟨I.ok, I.os, I.bare, ⟨I.base.keep, I.base.slot, fun b o e n hx => ?_, I.base.there, fun b xs e => ?_, fun b o x e => ?_, fun b ps e => ?_⟩, I.loc, I.cell, ?_, fun x c e => ?_, fun p hp => ?_, fun b o e => ?_, I.len⟩
  · rw [upd_ne (neN b (I.base.free b o e n hx))]; exact I.base.free b o e n hx
  · have q := I.base.tups b xs e
    rw [upd_ne (neH b _ q (fun _ _ z => nomatch z))]; exact q
  · have q := I.base.frzs b o x e
    rw [upd_ne (fun z => by rw [z] at e; exact hn _ _ e)]; exact q
  · obtain ⟨m, q⟩ := I.base.tbls b ps e
    exact ⟨m, by rw [upd_ne (neH b _ q (fun _ _ z => nomatch z))]; exact q⟩
  · rw [upd_ne (neN _ I.free)]; exact I.free
  · rw [upd_ne (neN c (I.freeC x c e))]; exact I.freeC x c e
  · obtain ⟨e, n, r⟩ := I.pin p hp
    exact ⟨e, by rw [upd_ne (neN _ n)]; exact n, r⟩
  · by_cases hb : b = d
    · rw [hb, upd_same] at e
      cases e
      rw [hb]
      obtain ⟨_, x⟩ := I.hok d _ h
      exact x.stay (fun c v _ q => q) (fun c q => by rw [upd_ne (neH c _ q (fun _ _ z => nomatch z))]; exact q) fun c xs q => by rw [upd_ne (neH c _ q (fun _ _ z => nomatch z))]; exact q
    · rw [upd_ne hb] at e
      exact (I.hok b o e).stay (fun c v _ q => q) (fun c q => by rw [upd_ne (neH c _ q (fun _ _ z => nomatch z))]; exact q) fun c xs q => by rw [upd_ne (neH c _ q (fun _ _ z => nomatch z))]; exact q
end
/-- the statement runs while the thing at d is locked (read, not written); d and what stands there are the reading's choice -/
def tLock (t : TS) : TS := fun D σ H => ∃ d u, H d = some u ∧ Mut (some u) ∧ ∀ od, t ⟨fun σ' H' => H' d = some (.frz od u) ∧ D.nx σ' (upd H' d u), fun v H' => H' d = some (.frz od u) ∧ D.rt v (upd H' d u), fun σ' H' => H' d = some (.frz od u) ∧ D.bk σ' (upd H' d u), fun σ' H' => H' d = some (.frz od u) ∧ D.ct σ' (upd H' d u)⟩ σ (upd H d (.frz od u))
section
variable {X : Cx}
theorem ps_lock {st : Stmt} {t : TS} (h : PS X st t) : PS X st (tLock t) := by
  intro pins s σ H D I hw
  obtain ⟨d, u, hd, mu, hw⟩ := hw
  obtain ⟨od, I1⟩ := I.lock hd mu
  refine thn (h pins s σ _ _ I1 (hw od)) fun f s1 q => ?_
  cases f with
  | next => obtain ⟨σ', H', I2, e, q⟩ := q; exact ⟨σ', _, I2.unlock e (I.nofrz hd mu), q⟩
  | brk => obtain ⟨σ', H', I2, e, q⟩ := q; exact ⟨σ', _, I2.unlock e (I.nofrz hd mu), q⟩
  | cont => obtain ⟨σ', H', I2, e, q⟩ := q; exact ⟨σ', _, I2.unlock e (I.nofrz hd mu), q⟩
  | ret v => obtain ⟨x, σ', H', I2, r, e, q⟩ := q; exact ⟨x, σ', _, I2.unlock e (I.nofrz hd mu), r, q⟩

/-! ### one iterator just laid -/
theorem pi_one {tg : Expr} {pins : List (Addr × Obj)} {σ : St} {H : Hp} {s : Shared} {R : It → Hp → Prop} {J : It} {tn : Nat → Heap → Prop} {tk : Nat} (I : Inv X pins σ H s) (o : Obj)
    (T : Turn X.prog X.w X.K tg J [s.heap.objs.size] s.heap.objs.size tn) (st : tn 0 (s.heap.push o)) (q : R J H) : PIE X pins σ tg R (.ref s.heap.objs.size) { s with heap := s.heap.push o, toks := tk } := by
  refine ⟨s.heap.objs.size, [s.heap.objs.size], tn, J, H, rfl, I.kept fun b ob e => Heap.get?_push_of_some _ e, T, st, fun b hb => ?_, q⟩
  have e : b = s.heap.objs.size := by simpa using hb
  subst e
  exact I.fpOk (Nat.le_refl _) (I.hok.fresh (Nat.le_refl _))
end

/-! ### range with a step -/
/-- lo, lo + c, .. (n of them) -/
def Itc (lo c : Int) (n : Nat) : It := ⟨fun i _ => i < n, fun i H x H' => H' = H ∧ x = .int (lo + (i : Nat) * c), fun i _ => n ≤ i⟩
theorem turn_rangeC {P : Program} {w : World} {K : PySem.W.Frag} {tg : Expr} (it : Addr) (lo c : Int) (n : Nat) : Turn P w K tg (Itc lo c n) [it] it (fun i h => IsRangeIter h it (lo + (i : Nat) * c) ((n : Int) - (i : Nat)) c) where
  mem := by simp
  obj := fun i h st b hb => by
    have e : b = it := by simpa using hb
    subst e
    exact ⟨_, st, fun v z => nomatch z⟩
  keep := fun i h h' st k => k it (by simp) _ st
  item := by
    intro X hP hw hK hc i pins s σ H E I hf st hg
    subst hP hw hK
    obtain ⟨f0, f1, f2, f3, f4, f5⟩ := hf it (by simp)
    have W := Walks.range (prog := X.prog) (w := X.w) (I.ok.hd hc) it lo c n
    refine W.item i s _ _ hg st fun v h' tk hv st' kk => ?_
    obtain ⟨t, rfl⟩ := hv
    have I1 : Inv X pins σ H { s with heap := h', toks := tk } := I.turned (fun b o hb e => kk b o (by simpa using hb) e) f0 f1 f3 f4 f5
    exact ⟨_, rfl, go_of (s := { s with heap := h', toks := tk }) (n := "range_iterator") st' rfl rfl (by decide) ⟨.int (lo + (i : Nat) * c), H, I1, ⟨t, rfl⟩, ⟨rfl, rfl⟩, st', fun b hb => (hf b hb).1⟩⟩
  done := by
    intro X hP hw hK hc i pins s σ H E I hf st hg
    subst hP hw hK
    obtain ⟨f0, f1, f2, f3, f4, f5⟩ := hf it (by simp)
    exact wpAny_pyNext_range_end (I.ok.hd hc) st (by have : n ≤ i := hg; omega) fun h' eb => ⟨rfl, I.turned (t' := s.toks) (fun b o hb e => eb b o hb e) f0 f1 f3 f4 f5⟩
  self := fun A i s Q E st h => wpAny_pyIter_rangeiter st h
/-- range(i, j, c): small bounds, n items -/
def RgC (i j c : Int) (n : Nat) : Prop := c ≠ 0 ∧ c.natAbs < 1073741824 ∧ Builtin.Range.small i j c = true ∧ Builtin.Range.rangeSize i j c = n
theorem RgC.neg {i j : Int} (ha : -(2 ^ 62) ≤ i) (ha' : i < 2 ^ 62) (hb : -(2 ^ 62) ≤ j) (hb' : j < 2 ^ 62) : RgC i j (-1) (i - j).toNat :=
  ⟨by decide, by decide, PySem.W.small_down ha ha' hb hb', PySem.W.rangeSize_downNat i j⟩
def iRng3 (ta : TA) : TI := fun σ H R => ta σ H fun vs H1 => ∃ (i j c : Int) (n : Nat), vs = [.int i, .int j, .int c] ∧ RgC i j c n ∧ R (Itc i c n) H1
section
variable {X : Cx} {tg : Expr}
theorem pi_range3 {a b c : Expr} {ta : TA} {p pos : Pos} (hg : Gl X "range") (hm : X.mg "range" = none) (ha : PA X [a, b, c] ta)
    (hs : starEach [a, b, c] X.env = (false, eval a X.env) :: starEach [b, c] X.env := by rfl) (hpl : (backTo pos (starEach [b, c] X.env)).any (·.1) = false := by rfl) :
    PI X tg (.Call (.Name "range" p) [a, b, c] [] pos) (iRng3 ta) := by
  intro pins s σ H R I h
  refine Call_ (ld_blt I hg hm boot_range (PyProof.Rows.callWith_type1 (thn (ha pos pins s σ H _ I h) fun us s1 ⟨vs, H1, I1, r1, q1⟩ => ?_) hs hpl))
  obtain ⟨i, j, k, n, e, ⟨c0, c1, c2, c3⟩, q⟩ := q1
  subst e
  cases r1 with
  | cons r rr =>
    cases rr with
    | cons r' rr =>
      cases rr with
      | cons r'' rr =>
        cases rr
        obtain ⟨t, rfl⟩ := r
        obtain ⟨t', rfl⟩ := r'
        obtain ⟨t'', rfl⟩ := r''
        refine call_range_3 c0 ?_ (.inl (PyProof.noPylong_small c1))
        refine wpAny_pyIter_range (IsRange.new ..) c2 ?_
        have I2 : Inv X pins σ H1 { s1 with heap := s1.heap.push { cls := .type "range", data := .fields #[.int i t, .int j t', .int k t''] } } := I1.kept (t' := s1.toks) fun b o e => Heap.get?_push_of_some _ e
        refine pi_one (tk := s1.toks) I2 _ (turn_rangeC _ i k n) ?_ q
        have e1 : i + ((0 : Nat) : Int) * k = i := by simp
        have e2 : (n : Int) - ((0 : Nat) : Int) = Builtin.Range.rangeSize i j k := by rw [c3]; simp
        show IsRangeIter _ _ (i + ((0 : Nat) : Int) * k) ((n : Int) - ((0 : Nat) : Int)) k
        rw [e1, e2]
        exact Heap.get?_push_size _ rfl
end
/-- the turns of a step range, for the for loop -/
theorem for_rangeC {lo c : Int} {n : Nat} {g : TG} {tb : TS} {D : Ends} {σ : St} {H : Hp} (Pv : Nat → St → Hp → Prop) (h0 : Pv 0 σ H)
    (hs : ∀ i σ H, i < n → Pv i σ H → g (.int (lo + (i : Nat) * c)) σ H fun σ2 H2 => tb { D with nx := Pv (i + 1), ct := Pv (i + 1), bk := D.nx } σ2 H2) (hd : ∀ σ H, Pv n σ H → D.nx σ H) :
    ∃ W : Nat → Nat → St → Hp → Prop, (∃ m, W 0 m σ H) ∧ ∀ i m σ H, W i m σ H →
      ((Itc lo c n).stop i H ∧ D.nx σ H) ∨ ((Itc lo c n).go i H ∧ ∃ N : St → Hp → Prop, (∀ σ' H', N σ' H' → ∃ m', m' < m ∧ W (i + 1) m' σ' H') ∧ ∀ x H', (Itc lo c n).yld i H x H' → g x σ H' fun σ2 H2 => tb { D with nx := N, ct := N, bk := D.nx } σ2 H2) := by
  refine ⟨fun i m σ H => m = n - i ∧ i ≤ n ∧ Pv i σ H, ⟨n, by simp, Nat.zero_le _, h0⟩, ?_⟩
  rintro i m σ H ⟨rfl, hi, p⟩
  by_cases hlt : i < n
  · refine .inr ⟨hlt, Pv (i + 1), fun σ' H' p' => ⟨n - (i + 1), by omega, rfl, hlt, p'⟩, fun x H' y => ?_⟩
    obtain ⟨e, y⟩ := y
    subst e y
    exact hs i σ _ hlt p
  · have e : i = n := by omega
    subst e
    exact .inl ⟨Nat.le_refl _, hd σ H p⟩

/-! ### reversed(list) -/
section
variable {X : Cx} {tg : Expr}
end

/-! ### a str -/

/-! ### a dict's keys: any dict's entries -/
section
variable {prog : Program} {w : World} {A : Around} {E : Value → Shared → Prop} {s : Shared}
theorem iter_keys {d : Addr} {o : Obj} {es : Array DictEntry} {ep : Nat} {Q : Value → Shared → Prop} (hd : (d == sysModules) = false) (ho : s.heap.get? d = some o) (hc : o.ExactDict) (hdat : o.data = .dict es ep)
    (hQ : Q (.ref s.heap.objs.size) { s with heap := s.heap.push { cls := .type "dict_keyiterator", data := .fields #[.ref d, .int 0 0, .int es.size 0, .int ep 0] } }) :
    wpAny (model prog w) A (pyIter (.ref d)) Q E s := by
  have hT : s.TypeIs (.ref d) "dict" := ⟨o, ho, hc.1⟩
  refine wpAny_pyIter_slot hT F.slot_dict_iter (wpAny_call_entry F.slot_dict_iter hT F.entry_dict_iter ?_ (F.args_dict_iter_1 _))
  unfold Builtin.«dict.__iter__»
  refine wpAny_bind ?_
  unfold Builtin.Dict.dictSlotNone
  refine wpAny_bind (wpAny_notOrdered_dict hT ?_)
  show wpAny _ _ (pure (Value.ref d)) _ _ s
  refine wpAny_pure ?_
  show wpAny _ _ (Builtin.Dict.showsAll d >>= _) _ _ s
  unfold Builtin.Dict.showsAll
  rw [if_neg (by rw [hd]; exact Bool.false_ne_true)]
  refine wpAny_bind (wpAny_pure ?_)
  refine wpAny_bind (wpAny_dictEntries ho hdat ?_)
  refine wpAny_bind (wpAny_dictEpoch ho hdat ?_)
  refine wpAny_bind (wpAny_newObj_type (wpAny_pure ⟨_, rfl, "dict_keyiterator", _, ⟨_, Heap.get?_push_size _ rfl, rfl⟩, F.slot_dict_keyiterator_next.lookup, ?_⟩))
  simpa [rawInt] using hQ
theorem next_key_item {it d : Addr} {i n ep : Nat} {od : Obj} {es : Array DictEntry} {en : DictEntry} {Q : Option Value → Shared → Prop} (hit : s.heap.IsKeyIter it d i n ep) (hod : s.heap.get? d = some od) (hdd : od.data = .dict es ep)
    (hsz : es.size = n) (hx : es[i]? = some en) (hQ : ∀ h', h'.IsKeyIter it d (i + 1) n ep → Heap.SameBut it s.heap h' → Q (some en.key) { s with heap := h' }) : wpAny (model prog w) A (pyNext (.ref it)) Q E s := by
  obtain ⟨o, ho, hc, hd⟩ := id hit
  unfold pyNext
  refine wpAny_bind (wpAny_attempt (wpAny_callSpecial?_slot (name := Str.ofString "__next__") hit.typeIs F.slot_dict_keyiterator_next
    (wpAny_call_entry F.slot_dict_keyiterator_next hit.typeIs F.entry_dict_keyiterator_next ?_ (F.args_dict_keyiterator_next_1 _))))
  refine wpAny_bind (wpAny_pure ?_)
  refine wpAny_bind ?_
  refine wpAny_bind ?_
  first | refine wpAny_bind (wpAny_typeNameOfWhole_keyiter hit.typeIs (wpAny_pure ?_)) | refine wpAny_bind (wpAny_typeNameOf_keyiter hit.typeIs (wpAny_pure ?_))
  refine wpAny_bind (wpAny_fieldsOf ho hd ?_)
  have hown : Builtin.Dict_items.ownsTuple "dict_keyiterator" = false := by decide
  simp only [hown, Bool.false_eq_true, if_false]
  show wpAny _ _ (if (Value.ref d == Value.none) = true then _ else _) _ _ s
  rw [if_neg (show ¬ ((Value.ref d == Value.none) = true) from Bool.false_ne_true)]
  refine wpAny_bind (wpAny_pure ?_)
  refine wpAny_bind (wpAny_dictEntries hod hdd ?_)
  rw [if_neg (by rw [hsz]; simp)]
  refine wpAny_bind (wpAny_pure ?_)
  refine wpAny_bind (wpAny_dictEpoch hod hdd ?_)
  rw [if_neg (by simp)]
  refine wpAny_pure ?_
  obtain ⟨hlt', hen⟩ := Array.getElem?_eq_some_iff.mp hx
  simp only [show ¬ ((i : Int) < 0) from by omega, if_false, Int.toNat_natCast, Array.getElem?_eq_getElem hlt']
  refine wpAny_bind ?_
  first | refine wpAny_bind (wpAny_typeNameOfWhole_keyiter hit.typeIs (wpAny_pure ?_)) | refine wpAny_bind (wpAny_typeNameOf_keyiter hit.typeIs (wpAny_pure ?_))
  refine wpAny_bind (wpAny_isOneOf_keyiter hit.typeIs ?_)
  show wpAny _ _ (setField (.ref it) 1 (rawInt ((i : Int) + 1)) >>= _) _ _ s
  refine wpAny_bind (wpAny_setField ho hd (by simp) ?_)
  have hit' : (s.heap.update it (Obj.mapFields (·.setIfInBounds 1 (rawInt ((i : Int) + 1))))).IsKeyIter it d (i + 1) n ep :=
    ⟨_, Heap.get?_update_self _ ho (Obj.isFreed_of_fields (Obj.data_mapFields hd _)), (Obj.cls_mapFields ..).trans hc, by rw [Obj.data_mapFields hd]; simp [rawInt]⟩
  refine wpAny_bind (wpAny_holding ?_)
  refine wpAny_bind (wpAny_isOneOf_keyiter (s := { s with heap := s.heap.update it (Obj.mapFields (·.setIfInBounds 1 (rawInt ((i : Int) + 1)))) }) hit'.typeIs ?_)
  show wpAny _ _ (pure es[i].key) _ _ _
  rw [hen]
  exact wpAny_pure (wpAny_pure ⟨_, rfl, wpAny_pure (hQ _ hit' (Heap.SameBut.update ..))⟩)
theorem next_key_end {it d : Addr} {i n ep : Nat} {od : Obj} {es : Array DictEntry} {Q : Option Value → Shared → Prop} (hh : A.handled = none) (hit : s.heap.IsKeyIter it d i n ep) (hod : s.heap.get? d = some od) (hdd : od.data = .dict es ep)
    (hsz : es.size = n) (hge : n ≤ i) (hQ : ∀ h', Heap.ExtBut it s.heap h' → Q none { s with heap := h' }) : wpAny (model prog w) A (pyNext (.ref it)) Q E s := by
  obtain ⟨o, ho, hc, hd⟩ := id hit
  unfold pyNext
  refine wpAny_bind (wpAny_attempt (wpAny_callSpecial?_slot (name := Str.ofString "__next__") hit.typeIs F.slot_dict_keyiterator_next
    (wpAny_call_entry F.slot_dict_keyiterator_next hit.typeIs F.entry_dict_keyiterator_next ?_ (F.args_dict_keyiterator_next_1 _))))
  refine wpAny_bind (wpAny_pure ?_)
  refine wpAny_bind ?_
  refine wpAny_bind ?_
  first | refine wpAny_bind (wpAny_typeNameOfWhole_keyiter hit.typeIs (wpAny_pure ?_)) | refine wpAny_bind (wpAny_typeNameOf_keyiter hit.typeIs (wpAny_pure ?_))
  refine wpAny_bind (wpAny_fieldsOf ho hd ?_)
  have hown : Builtin.Dict_items.ownsTuple "dict_keyiterator" = false := by decide
  simp only [hown, Bool.false_eq_true, if_false]
  show wpAny _ _ (if (Value.ref d == Value.none) = true then _ else _) _ _ s
  rw [if_neg (show ¬ ((Value.ref d == Value.none) = true) from Bool.false_ne_true)]
  refine wpAny_bind (wpAny_pure ?_)
  refine wpAny_bind (wpAny_dictEntries hod hdd ?_)
  rw [if_neg (by rw [hsz]; simp)]
  refine wpAny_bind (wpAny_pure ?_)
  refine wpAny_bind (wpAny_dictEpoch hod hdd ?_)
  rw [if_neg (by simp)]
  refine wpAny_pure ?_
  have hge' : es.size ≤ i := by rw [hsz]; exact hge
  simp only [show ¬ ((i : Int) < 0) from by omega, if_false, Int.toNat_natCast, Array.getElem?_eq_none hge']
  refine wpAny_bind ?_
  first | refine wpAny_bind (wpAny_typeNameOfWhole_keyiter hit.typeIs (wpAny_pure ?_)) | refine wpAny_bind (wpAny_typeNameOf_keyiter hit.typeIs (wpAny_pure ?_))
  show wpAny _ _ (setField (.ref it) 0 .none >>= _) _ _ s
  refine wpAny_bind (wpAny_setField ho hd (by simp) ?_)
  show wpAny _ _ (newExc (.type "StopIteration") [] >>= _) _ _ _
  refine wpAny_bind ?_
  simp only [newExc, newTuple]
  refine wpAny_bind (wpAny_newObj_type ?_ (by size_fits))
  refine wpAny_bind (m := firstArgMember _ _) (wpAny_of_eq (a := Value.none) (by first | rfl | (simp only [firstArgMember]; rfl)) ?_)
  refine wpAny_newObj_type ?_ (by size_fits)
  simp only [raiseNew]
  refine wpAny_bind (wpAny_handled ?_)
  rw [show A.in1.handled = none from hh]
  refine wpAny_bind (wpAny_pure (wpAny_throw ?_))
  refine wpAny_bind (wpAny_isInstance (T := "StopIteration") (b := true) ⟨_, Heap.get?_push_size _ rfl, rfl⟩ isSubtype_stop ?_)
  exact wpAny_pure (hQ _ (((Heap.SameBut.update ..).extBut.push _).push _))
end

/-! ### a locked dict -/
theorem kv_get {κ : Type} {kvs : List (κ × V)} {vs : List (κ × Value)} (h : KV kvs vs) : ∀ {i : Nat} {k : κ} {v : V}, kvs[i]? = some (k, v) → ∃ u, vs[i]? = some (k, u) ∧ RelV v u := by
  unfold KV at h
  induction h with
  | nil => intro i k v e; simp at e
  | @cons a b l₁ l₂ r t ih =>
    intro i k v e
    cases i with
    | zero =>
      simp only [List.getElem?_cons_zero, Option.some.injEq] at e
      subst e
      refine ⟨b.2, ?_, r.2⟩
      simp only [List.getElem?_cons_zero]
      exact congrArg some (Prod.ext r.1.symm rfl)
    | succ j =>
      simp only [List.getElem?_cons_succ] at e ⊢
      exact ih e
theorem paired_get {α β : Type} {G : α → β → Prop} {l₁ : List α} {l₂ : List β} (h : Paired G l₁ l₂) : ∀ {i : Nat} {a : α}, l₁[i]? = some a → ∃ b, l₂[i]? = some b ∧ G a b := by
  induction h with
  | nil => intro i a e; simp at e
  | @cons a b l₁ l₂ r t ih =>
    intro i a' e
    cases i with
    | zero =>
      simp only [List.getElem?_cons_zero, Option.some.injEq] at e
      subst e
      exact ⟨b, rfl, r⟩
    | succ j =>
      simp only [List.getElem?_cons_succ] at e ⊢
      exact ih e
theorem relV_key {k : Key} {u : Value} (h : keyIs k u = true) : RelV (kV k) u := by
  rcases keyIs_shape h with ⟨i, t, rfl, rfl⟩ | ⟨x, t, rfl, rfl⟩
  · exact ⟨t, rfl⟩
  · exact ⟨t, rfl⟩
section
variable {X : Cx} {pins : List (Addr × Obj)} {σ : St} {H : Hp} {s : Shared} {d : Addr} {o : Obj}
theorem Inv.frzK {kvs : List (Key × V)} (I : Inv X pins σ H s) (h : H d = some (.frz o (.dK kvs))) :
    (d == sysModules) = false ∧ s.heap.get? d = some o ∧ o.ExactDict ∧ ∃ (es : Array DictEntry) (ep : Nat) (vs : List (Key × Value)), o.data = .dict es ep ∧ es.size = kvs.length ∧ KV kvs vs ∧ s.heap.DictAt (mixKind X.prog X.w) d vs ep := by
  obtain ⟨hd, z, hs, vs, kv, o', es, ep, ho, hx, hdt, r⟩ := I.hok d _ h
  rw [hd] at ho
  cases ho
  refine ⟨hs, hd, hx, es, ep, vs, hdt, ?_, kv, o, es, hd, hx, hdt, r⟩
  have l1 := r.2.1.length
  have l2 : kvs.length = vs.length := Paired.length kv
  rw [Array.length_toList] at l1
  omega
/-- the same for tuple keys -/
theorem Inv.frzT {kvs : List (List Key × V)} (I : Inv X pins σ H s) (h : H d = some (.frz o (.dT kvs))) :
    (d == sysModules) = false ∧ s.heap.get? d = some o ∧ o.ExactDict ∧ ∃ (es : Array DictEntry) (ep : Nat), o.data = .dict es ep ∧ es.size = kvs.length ∧
      ∀ (i : Nat) (k : List Key) (v : V), kvs[i]? = some (k, v) → ∃ (en : DictEntry) (q : Addr), es[i]? = some en ∧ en.key = .ref q ∧ H q = some (.tup (k.map kV)) := by
  obtain ⟨hd, z, hs, xs, pr, o', es, ep, ho, hx, hdt, he, _⟩ := I.hok d _ h
  rw [hd] at ho
  cases ho
  refine ⟨hs, hd, hx, es, ep, hdt, ?_, fun i k v e => ?_⟩
  · have l1 : es.size = xs.length := size_of_entries he
    have l2 : kvs.length = xs.length := Paired.length pr
    omega
  · obtain ⟨b, hb, e1, e2, _⟩ := paired_get pr e
    have q := entry_at he i
    rw [hb] at q
    exact ⟨_, b.2.1, q, rfl, e2⟩
end

/-- the keys of the locked dict at d, in their order -/
def Itk (d : Addr) (o : Obj) (kvs : List (Key × V)) : It :=
  ⟨fun i H => H d = some (.frz o (.dK kvs)) ∧ i < kvs.length, fun i H x H' => H' = H ∧ ∃ k v, kvs[i]? = some (k, v) ∧ x = kV k, fun i H => H d = some (.frz o (.dK kvs)) ∧ kvs.length ≤ i⟩
/-- .. of tuple keys: the key's own tuple -/
def Itkt (d : Addr) (o : Obj) (kvs : List (List Key × V)) : It :=
  ⟨fun i H => H d = some (.frz o (.dT kvs)) ∧ i < kvs.length, fun i H x H' => H' = H ∧ ∃ (k : List Key) (v : V) (q : Addr), kvs[i]? = some (k, v) ∧ x = .ref q ∧ H q = some (.tup (k.map kV)), fun i H => H d = some (.frz o (.dT kvs)) ∧ kvs.length ≤ i⟩
/-- the pairs, each a new tuple -/
def Iti (d : Addr) (o : Obj) (kvs : List (Key × V)) : It :=
  ⟨fun i H => H d = some (.frz o (.dK kvs)) ∧ i < kvs.length, fun i H x H' => ∃ T k v, kvs[i]? = some (k, v) ∧ x = .ref T ∧ H T = none ∧ H' = upd H T (.tup [kV k, v]), fun i H => H d = some (.frz o (.dK kvs)) ∧ kvs.length ≤ i⟩
theorem dict_ep {o : Obj} {es es' : Array DictEntry} {ep ep' : Nat} (h : o.data = .dict es ep) (h' : o.data = .dict es' ep') : es' = es ∧ ep' = ep := by
  rw [h] at h'
  cases h'
  exact ⟨rfl, rfl⟩
section
variable {P : Program} {w : World} {K : PySem.W.Frag} {tg : Expr} {d : Addr} {o : Obj} {es : Array DictEntry} {ep : Nat}
theorem turn_keys {kvs : List (Key × V)} (it : Addr) (hod : o.data = .dict es ep) : Turn P w K tg (Itk d o kvs) [it] it (fun i h => h.IsKeyIter it d i kvs.length ep) where
  mem := by simp
  obj := fun i h st b hb => by
    have e : b = it := by simpa using hb
    subst e
    obtain ⟨oi, e, c, dd⟩ := st
    exact ⟨oi, e, fun v z => by rw [dd] at z; cases z⟩
  keep := fun i h h' st k => st.at fun oi e => k it (by simp) oi e
  item := by
    intro X hP hw hK hc i pins s σ H E I hf st hg
    subst hP hw hK
    obtain ⟨hd, hi⟩ := hg
    obtain ⟨f0, f1, f2, f3, f4, f5⟩ := hf it (by simp)
    obtain ⟨hs, hgd, hx, es', ep', vs, hdt, hsz, kv, hm⟩ := I.frzK hd
    obtain ⟨rfl, rfl⟩ := dict_ep hod hdt
    obtain ⟨⟨k, v⟩, hkv⟩ : ∃ p, kvs[i]? = some p := ⟨kvs[i], List.getElem?_eq_getElem hi⟩
    obtain ⟨u, hu, ru⟩ := kv_get kv hkv
    have hl : kvs.length = vs.length := Paired.length kv
    rw [hl] at st
    refine wpAny_pyNext_dict_item st hm hu fun key h' hkey st' sb => ?_
    have I1 : Inv X pins σ H { s with heap := h' } := I.turned (t' := s.toks) (fun b ob hb e => (sb.2 b hb).trans e) f0 f1 f3 f4 f5
    obtain ⟨oi, e, c, dd⟩ := id st'
    refine ⟨key, rfl, go_of (s := { s with heap := h' }) e c dd (by decide) ⟨kV k, H, I1, relV_key (show keyIs k key = true from hkey), ⟨rfl, k, v, hkv, rfl⟩, ?_, fun b hb => (hf b hb).1⟩⟩
    show h'.IsKeyIter it d (i + 1) kvs.length _
    rw [hl]
    exact st'
  done := by
    intro X hP hw hK hc i pins s σ H E I hf st hg
    subst hP hw hK
    obtain ⟨hd, hi⟩ := hg
    obtain ⟨f0, f1, f2, f3, f4, f5⟩ := hf it (by simp)
    obtain ⟨hs, hgd, hx, es', ep', vs, hdt, hsz, kv, hm⟩ := I.frzK hd
    obtain ⟨rfl, rfl⟩ := dict_ep hod hdt
    exact next_key_end (I.ok.hd hc) st hgd hdt hsz hi fun h' eb => ⟨rfl, I.turned (t' := s.toks) (fun b ob hb e => eb b ob hb e) f0 f1 f3 f4 f5⟩
  self := fun A i s Q E st h => wpAny_pyIter_keyiter st h
theorem turn_keysT {kvs : List (List Key × V)} (it : Addr) (hod : o.data = .dict es ep) : Turn P w K tg (Itkt d o kvs) [it] it (fun i h => h.IsKeyIter it d i kvs.length ep) where
  mem := by simp
  obj := fun i h st b hb => by
    have e : b = it := by simpa using hb
    subst e
    obtain ⟨oi, e, c, dd⟩ := st
    exact ⟨oi, e, fun v z => by rw [dd] at z; cases z⟩
  keep := fun i h h' st k => st.at fun oi e => k it (by simp) oi e
  item := by
    intro X hP hw hK hc i pins s σ H E I hf st hg
    subst hP hw hK
    obtain ⟨hd, hi⟩ := hg
    obtain ⟨f0, f1, f2, f3, f4, f5⟩ := hf it (by simp)
    obtain ⟨hs, hgd, hx, es', ep', hdt, hsz, ent⟩ := I.frzT hd
    obtain ⟨rfl, rfl⟩ := dict_ep hod hdt
    obtain ⟨⟨k, v⟩, hkv⟩ : ∃ p, kvs[i]? = some p := ⟨kvs[i], List.getElem?_eq_getElem hi⟩
    obtain ⟨en, q, hen, hkey, hq⟩ := ent i k v hkv
    refine next_key_item st hgd hdt hsz hen fun h' st' sb => ?_
    have I1 : Inv X pins σ H { s with heap := h' } := I.turned (t' := s.toks) (fun b ob hb e => (sb.2 b hb).trans e) f0 f1 f3 f4 f5
    obtain ⟨oi, e, c, dd⟩ := id st'
    exact ⟨en.key, rfl, go_of (s := { s with heap := h' }) e c dd (by decide) ⟨.ref q, H, I1, hkey, ⟨rfl, k, v, q, hkv, rfl, hq⟩, st', fun b hb => (hf b hb).1⟩⟩
  done := by
    intro X hP hw hK hc i pins s σ H E I hf st hg
    subst hP hw hK
    obtain ⟨hd, hi⟩ := hg
    obtain ⟨f0, f1, f2, f3, f4, f5⟩ := hf it (by simp)
    obtain ⟨hs, hgd, hx, es', ep', hdt, hsz, ent⟩ := I.frzT hd
    obtain ⟨rfl, rfl⟩ := dict_ep hod hdt
    exact next_key_end (I.ok.hd hc) st hgd hdt hsz hi fun h' eb => ⟨rfl, I.turned (t' := s.toks) (fun b ob hb e => eb b ob hb e) f0 f1 f3 f4 f5⟩
  self := fun A i s Q E st h => by
    refine wpAny_pyIter_slot st.typeIs F.slot_dict_keyiterator_iter (wpAny_call_entry F.slot_dict_keyiterator_iter st.typeIs F.entry_dict_keyiterator_iter ?_ (F.args_dict_keyiterator_iter_1 _))
    show wpAny _ _ (ret (.ref it)) _ _ s
    exact wpAny_pure ⟨_, rfl, "dict_keyiterator", _, st.typeIs, F.slot_dict_keyiterator_next.lookup, h⟩
theorem turn_items {kvs : List (Key × V)} {elts : List Expr} {kk : Nat} {tpos : Pos} (it : Addr) (hod : o.data = .dict es ep) :
    Turn P w K (.Tuple elts kk tpos) (Iti d o kvs) [it] it (fun i h => ∃ ok ov, IsItemIter h it d i kvs.length ep ok ov) where
  mem := by simp
  obj := fun i h st b hb => by
    have e : b = it := by simpa using hb
    subst e
    obtain ⟨ok, ov, e⟩ := st
    exact ⟨_, e, fun v z => nomatch z⟩
  keep := fun i h h' st k => let ⟨ok, ov, e⟩ := st; ⟨ok, ov, k it (by simp) _ e⟩
  item := by
    intro X hP hw hK hc i pins s σ H E I hf st hg
    subst hP hw hK
    obtain ⟨hd, hi⟩ := hg
    obtain ⟨hs, hgd, hx, es', ep', vs, hdt, hsz, kv, hm⟩ := I.frzK hd
    obtain ⟨rfl, rfl⟩ := dict_ep hod hdt
    obtain ⟨⟨k, v⟩, hkv⟩ : ∃ p, kvs[i]? = some p := ⟨kvs[i], List.getElem?_eq_getElem hi⟩
    obtain ⟨u, hu, ru⟩ := kv_get kv hkv
    have hl : kvs.length = vs.length := Paired.length kv
    obtain ⟨ok, ov, he⟩ := st
    rw [hl] at he
    have hlt : it < s.heap.objs.size := Heap.lt_size he
    refine wpAny_pyNext_items_item he hm hu fun key h' hkey ho hT hz hk => ?_
    refine ⟨_, rfl, wpAny_letOwnedTupleGo_items (s := { s with heap := h' }) ho fun h'' he' sb => ?_⟩
    have hT2 : h''.get? s.heap.objs.size = some { cls := .type "tuple", data := .seq #[key, u] } := (sb.2 _ (Nat.ne_of_gt hlt)).trans hT
    have new : ObjOk X.prog X.w (upd H s.heap.objs.size (.tup [kV k, v])) h'' s.heap.objs.size (.tup [kV k, v]) :=
      ⟨by show 2 ≤ sizeLine; decide, [key, u], .cons (relV_key (show keyIs k key = true from hkey)) (.cons ru .nil), ⟨_, hT2, rfl, _, rfl⟩⟩
    have I1 : Inv X pins σ (upd H s.heap.objs.size (.tup [kV k, v])) { s with heap := h'' } :=
      I.turnedNew (t' := s.toks) (ch := [it]) (fun b ob hb e => (sb.2 b (by simpa using hb)).trans (hk b ob (by simpa using hb) e)) hf (Nat.le_refl _) new
    refine ⟨.ref s.heap.objs.size, _, I1, rfl, ⟨_, k, v, hkv, rfl, I.hok.fresh (Nat.le_refl _), rfl⟩, ⟨key, u, ?_⟩, fun b hb => ?_⟩
    · rw [hl]; exact he'
    · have e : b = it := by simpa using hb
      rw [e, upd_ne (Nat.ne_of_lt hlt)]
      exact (hf it (by simp)).1
  done := by
    intro X hP hw hK hc i pins s σ H E I hf st hg
    subst hP hw hK
    obtain ⟨hd, hi⟩ := hg
    obtain ⟨f0, f1, f2, f3, f4, f5⟩ := hf it (by simp)
    obtain ⟨hs, hgd, hx, es', ep', vs, hdt, hsz, kv, hm⟩ := I.frzK hd
    obtain ⟨rfl, rfl⟩ := dict_ep hod hdt
    have hl : kvs.length = vs.length := Paired.length kv
    obtain ⟨ok, ov, he⟩ := st
    rw [hl] at he
    exact wpAny_pyNext_items_end (I.ok.hd hc) he hm (List.getElem?_eq_none (by omega)) fun h' eb => ⟨rfl, I.turned (t' := s.toks) (fun b ob hb e => eb b ob hb e) f0 f1 f3 f4 f5⟩
  self := fun A i s Q E st h => let ⟨_, _, e⟩ := st; PySem.W.kcp_self e h
end

/-! ### for k in d, d.keys(), d.values(), d.items() -/
/-- the dict is locked (tLock, or by the caller) -/
def iKeys (td : TE) : TI := fun σ H R => td σ H fun x H1 => ∃ d o, x = .ref d ∧ ((∃ kvs, H1 d = some (.frz o (.dK kvs)) ∧ R (Itk d o kvs) H1) ∨ ∃ kvs, H1 d = some (.frz o (.dT kvs)) ∧ R (Itkt d o kvs) H1)
def iItems (td : TE) : TI := fun σ H R => td σ H fun x H1 => ∃ d o kvs, x = .ref d ∧ H1 d = some (.frz o (.dK kvs)) ∧ R (Iti d o kvs) H1
section
variable {X : Cx} {tg e : Expr} {td : TE} {apos cpos : Pos}
theorem pi_keys (he : PE X e td) : PI X tg e (iKeys td) := by
  intro pins s σ H R I h
  refine thn (he pins s σ H _ I h) fun u s1 ⟨x, H1, I1, rx, d, o, ex, q⟩ => ?_
  subst ex
  obtain rfl : u = Value.ref d := rx
  rcases q with ⟨kvs, hd, q⟩ | ⟨kvs, hd, q⟩
  · obtain ⟨hs, hgd, hx, es, ep, vs, hdt, hsz, kv, hm⟩ := I1.frzK hd
    refine iter_keys hs hgd hx hdt (pi_one (tk := s1.toks) I1 _ (turn_keys _ hdt) ⟨_, Heap.get?_push_size _ rfl, rfl, ?_⟩ q)
    rw [hsz] <;> rfl
  · obtain ⟨hs, hgd, hx, es, ep, hdt, hsz, ent⟩ := I1.frzT hd
    refine iter_keys hs hgd hx hdt (pi_one (tk := s1.toks) I1 _ (turn_keysT _ hdt) ⟨_, Heap.get?_push_size _ rfl, rfl, ?_⟩ q)
    rw [hsz] <;> rfl
theorem pi_items {elts : List Expr} {kk : Nat} {tpos : Pos} (he : PE X e td) (hbase : attributeBase e "items" X.env (eval e X.env) = eval e X.env := by rfl) (hline : (apos.endLine == cpos.line) = true := by rfl) :
    PI X (.Tuple elts kk tpos) (.Call (.Attribute e "items" apos) [] [] cpos) (iItems td) := by
  intro pins s σ H R I h
  refine wpAny_Call_method (T := "dict") (id := "dict.items") hbase rfl hline F.plainAttrs_dict F.slot_dict_items F.type_dict_items (thn (he pins s σ H _ I h) fun u s1 ⟨x, H1, I1, rx, d, o, kvs, ex, hd, q⟩ => ?_)
  subst ex
  obtain rfl : u = Value.ref d := rx
  obtain ⟨hs, hgd, hx, es, ep, vs, hdt, hsz, kv, hm⟩ := I1.frzK hd
  have hl : kvs.length = vs.length := Paired.length kv
  refine ⟨hm.dictOf.typeIs, hm.dictOf.mapOf.noDict, ?_⟩
  have I2 : Inv X pins σ H1 { s1 with heap := s1.heap.push { cls := .type "dict_items", data := .fields #[.ref d] } } := I1.kept (t' := s1.toks) fun b ob q => Heap.get?_push_of_some _ q
  have fin : wpAny (model X.prog X.w) X.A (pyIter (.ref s1.heap.objs.size)) (PIE X pins σ (.Tuple elts kk tpos) R) X.xe { s1 with heap := s1.heap.push { cls := .type "dict_items", data := .fields #[.ref d] } } := by
    refine wpAny_pyIter_items (d := d) (knd := mixKind X.prog X.w) ⟨_, Heap.get?_push_size _ rfl, rfl, rfl⟩ (hm.push _) (pi_one (tk := s1.toks) I2 _ (turn_items _ hdt) ⟨.none, .none, ?_⟩ q)
    rw [hl]
    exact Heap.get?_push_size _ rfl
  show wpAny _ _ (callWith cpos (.builtin "dict.items") [.ref d] [] []) _ X.xe s1
  exact method_meetsIn F.slot_dict_items F.entry_dict_items rfl (PySem.evalArgs_none ⟨rfl, hm.dictOf.typeIs, F.args_dict_items_1 _, _, meets_dict_items (mixKind X.prog X.w) d hs, ⟨vs, hm.dictOf⟩, fin⟩)
end

/-! ### enumerate(list) -/
/-! ### zip(list, list) -/
theorem boot_zip5 : bootBuiltins "zip" = some (.type "zip") := by decide +kernel
/-- the lists at a and b as they stand at each turn, the items in new pairs -/
def Itz (K : PySem.W.Frag) (a b : Addr) : It :=
  ⟨fun i H => ∃ (xs ys : List V) (x y : V), SqL K H a xs ∧ SqL K H b ys ∧ xs[i]? = some x ∧ ys[i]? = some y,
    fun i H v H' => ∃ T x y, v = .ref T ∧ H T = none ∧ H' = upd H T (.tup [x, y]) ∧ (∀ xs, SqL K H a xs → xs[i]? = some x) ∧ ∀ ys, SqL K H b ys → ys[i]? = some y,
    fun i H => ∃ xs ys : List V, SqL K H a xs ∧ SqL K H b ys ∧ (xs.length ≤ i ∨ ys.length ≤ i)⟩
theorem turn_zip {P : Program} {w : World} {K : PySem.W.Frag} {elts : List Expr} {kk : Nat} {tpos : Pos} {a b z TI TO i1 i2 : Addr} (D : ZipApart z TI TO i1 i2 a b) :
    Turn P w K (.Tuple elts kk tpos) (Itz K a b) [z, TI, TO, i1, i2] z (fun i h => IsZip h z TI TO .none ∧ IsPair h TI (.ref i1) (.ref i2) ∧ (∃ x y, IsPair h TO x y) ∧ h.IsListIter i1 a i ∧ h.IsListIter i2 b i) where
  mem := by simp
  obj := fun i h st c hc => by
    obtain ⟨hz, hTI, ⟨x, y, hTO⟩, ⟨o1, e1, _, d1⟩, ⟨o2, e2, _, d2⟩⟩ := st
    have e' : c = z ∨ c = TI ∨ c = TO ∨ c = i1 ∨ c = i2 := by simpa using hc
    rcases e' with q | q | q | q | q
    · rw [q]; exact ⟨_, hz, fun v q => nomatch q⟩
    · rw [q]; exact ⟨_, hTI, fun v q => nomatch q⟩
    · rw [q]; exact ⟨_, hTO, fun v q => nomatch q⟩
    · rw [q]; exact ⟨o1, e1, fun v q => by rw [d1] at q; cases q⟩
    · rw [q]; exact ⟨o2, e2, fun v q => by rw [d2] at q; cases q⟩
  keep := fun i h h' st k => by
    obtain ⟨hz, hTI, ⟨x, y, hTO⟩, h1, h2⟩ := st
    exact ⟨k z (by simp) _ hz, k TI (by simp) _ hTI, ⟨x, y, k TO (by simp) _ hTO⟩, h1.at fun o q => k i1 (by simp) o q, h2.at fun o q => k i2 (by simp) o q⟩
  item := by
    intro X hP hw hK hc i pins s σ H E I hf st hg
    subst hP hw hK
    obtain ⟨hz, hTI, ⟨x0, y0, hTO⟩, h1, h2⟩ := st
    obtain ⟨xs, ys, x, y, hqx, hqy, hx, hy⟩ := hg
    obtain ⟨its, rv, p, _⟩ := I.list hqx
    obtain ⟨its2, rv2, p2, _⟩ := I.list hqy
    obtain ⟨u, hu, ru⟩ := rv.get hx
    obtain ⟨u2, hu2, ru2⟩ := rv2.get hy
    have hzl : z < s.heap.objs.size := Heap.lt_size hz
    refine wpAny_pyNext_zip_item D hz hTI hTO h1 h2 p.isList p2.isList (x := u) (y := u2) (by simpa using hu) (by simpa using hu2) fun h' z' TO' h1' h2' hT hsz hk => ?_
    refine ⟨_, rfl, wpAny_letOwnedTupleGo_zip (s := { s with heap := h' }) z' fun h'' z'' sb => ?_⟩
    have hT2 : h''.get? s.heap.objs.size = some { cls := .type "tuple", data := .seq #[u, u2] } := (sb.2 _ (Nat.ne_of_gt hzl)).trans hT
    have new : ObjOk X.prog X.w (upd H s.heap.objs.size (.tup [x, y])) h'' s.heap.objs.size (.tup [x, y]) :=
      ⟨by show 2 ≤ sizeLine; decide, [u, u2], .cons ru (.cons ru2 .nil), ⟨_, hT2, rfl, _, rfl⟩⟩
    have I1 : Inv X pins σ (upd H s.heap.objs.size (.tup [x, y])) { s with heap := h'' } :=
      I.turnedNew (t' := s.toks) (ch := [z, TI, TO, i1, i2]) (fun c o hb q => (sb.2 c (fun q' => hb (by simp [q']))).trans (hk c o (fun q' => hb (by simp [q'])) (fun q' => hb (by simp [q'])) (fun q' => hb (by simp [q'])) (fun q' => hb (by simp [q'])) q)) hf (Nat.le_refl _) new
    refine ⟨.ref s.heap.objs.size, _, I1, rfl, ⟨_, x, y, rfl, I.hok.fresh (Nat.le_refl _), rfl, fun l hl => by rw [I.list_inj hl hqx]; exact hx, fun l hl => by rw [I.list_inj hl hqy]; exact hy⟩, ⟨z'', ?_, ⟨u, u2, ?_⟩, ?_, ?_⟩, fun c hcm => ?_⟩
    · exact (sb.2 _ D.TIz).trans (hk _ _ D.TIz D.TITO D.TIi1 D.TIi2 hTI)
    · exact (sb.2 _ D.TOz).trans TO'
    · exact h1'.at fun o q => (sb.2 _ D.i1z).trans q
    · exact h2'.at fun o q => (sb.2 _ D.i2z).trans q
    · have hlt : c < s.heap.objs.size := by
        have e' : c = z ∨ c = TI ∨ c = TO ∨ c = i1 ∨ c = i2 := by simpa using hcm
        rcases e' with q | q | q | q | q
        · rw [q]; exact hzl
        · rw [q]; exact Heap.lt_size hTI
        · rw [q]; exact Heap.lt_size hTO
        · rw [q]; obtain ⟨_, e1, _⟩ := h1; exact Heap.lt_size e1
        · rw [q]; obtain ⟨_, e2, _⟩ := h2; exact Heap.lt_size e2
      rw [upd_ne (Nat.ne_of_lt hlt)]
      exact (hf c hcm).1
  done := by
    intro X hP hw hK hc i pins s σ H E I hf st hg
    subst hP hw hK
    obtain ⟨hz, hTI, ⟨x0, y0, hTO⟩, h1, h2⟩ := st
    obtain ⟨xs, ys, hqx, hqy, hend⟩ := hg
    obtain ⟨its, rv, p, _⟩ := I.list hqx
    obtain ⟨its2, rv2, p2, _⟩ := I.list hqy
    have l1 := rv.length
    have l2 := rv2.length
    have he : its.toArray[i]? = none ∨ its2.toArray[i]? = none := by
      rcases hend with q | q
      · exact .inl (by simp; omega)
      · exact .inr (by simp; omega)
    exact wpAny_pyNext_zip_end (I.ok.hd hc) D hz hTI hTO h1 h2 p.isList p2.isList he fun h' hk => ⟨rfl, I.turnedL (t' := s.toks) (ch := [z, TI, TO, i1, i2]) (fun c o hb q =>
      hk c o (fun q' => hb (by simp [q'])) (fun q' => hb (by simp [q'])) (fun q' => hb (by simp [q'])) (fun q' => hb (by simp [q'])) q) hf⟩
  self := fun A i s Q E st h => wpAny_pyIter_zip st.1 h
def iZip (K : PySem.W.Frag) (ta : TA) : TI := fun σ H R => ta σ H fun vs H1 => ∃ a b xs ys, vs = [.ref a, .ref b] ∧ SqL K H1 a xs ∧ SqL K H1 b ys ∧ R (Itz K a b) H1
theorem pi_zip {X : Cx} {e e2 : Expr} {ta : TA} {p pos tpos : Pos} {elts : List Expr} {kk : Nat} (hg : Gl X "zip") (hm : X.mg "zip" = none) (ha : PA X [e, e2] ta)
    (hs : starEach [e, e2] X.env = (false, eval e X.env) :: starEach [e2] X.env := by rfl) (hpl : (backTo pos (starEach [e2] X.env)).any (·.1) = false := by rfl) :
    PI X (.Tuple elts kk tpos) (.Call (.Name "zip" p) [e, e2] [] pos) (iZip X.K ta) := by
  intro pins s σ H R I h
  refine Call_ (ld_blt I hg hm boot_zip5 (PyProof.Rows.callWith_type1 (thn (ha pos pins s σ H _ I h) fun us s1 ⟨vs, H1, I1, r1, q1⟩ => ?_) hs hpl))
  obtain ⟨a, b, xs, ys, ex, hqx, hqy, q⟩ := q1
  subst ex
  cases r1 with
  | cons r rr =>
    cases rr with
    | cons r' rr =>
      cases rr
      cases r
      cases r'
      obtain ⟨its, rv, p1, _⟩ := I1.list hqx
      obtain ⟨its2, rv2, p2, _⟩ := I1.list hqy
      have la : a < s1.heap.objs.size := p1.lt
      have lb : b < s1.heap.objs.size := p2.lt
      refine call_zip_2 p1.isList p2.isList fun h' hz hTI hTO h1 h2 hsz hk => wpAny_pyIter_zip hz ?_
      have I2 : Inv X pins σ H1 { s1 with heap := h' } := I1.kept (t' := s1.toks) hk
      refine ⟨s1.heap.objs.size + 4, [s1.heap.objs.size + 4, s1.heap.objs.size + 2, s1.heap.objs.size + 3, s1.heap.objs.size, s1.heap.objs.size + 1], _, _, H1, rfl, I2, turn_zip (PySem.W.ktu_apart s1.heap.objs.size a b la lb), ⟨hz, hTI, ⟨_, _, hTO⟩, h1, h2⟩, fun c hcm => ?_, q⟩
      have e' : c = s1.heap.objs.size + 4 ∨ c = s1.heap.objs.size + 2 ∨ c = s1.heap.objs.size + 3 ∨ c = s1.heap.objs.size ∨ c = s1.heap.objs.size + 1 := by simpa using hcm
      have hle : s1.heap.objs.size ≤ c := by
        rcases e' with z | z | z | z | z
        · rw [z]; exact Nat.le_add_right _ _
        · rw [z]; exact Nat.le_add_right _ _
        · rw [z]; exact Nat.le_add_right _ _
        · rw [z]; exact Nat.le_refl _
        · rw [z]; exact Nat.le_add_right _ _
      exact I1.fpOk hle (I1.hok.fresh hle)
end L2

section 
namespace Bits
open PySem PyProof.Rows

end Bits
end 

section 
namespace TL
open PySem PySem.Builtin PySem.Builtin.Str PySem.StrLaws

/-! ### the list functions -/

/-! ### the model's split and partition are these -/

/-! ### computing spl and par -/

/-! ### digits -/

/-! ### words: x.split() -/
end TL
end 

namespace L2
open PySem PySem.Spec PyProof.Rows

section
variable {X : Cx} {pins : List (Addr × Obj)} {σ : St} {H : Hp} {s : Shared} {Q : VK}
end

section
variable {X : Cx}

/-! ### of a text alone -/

/-! ### of a text and a text -/

end

section
variable {X : Cx} {o e : Expr} {to te : TE}

end
end L2

namespace L2
open PySem PySem.Spec PyProof.Rows

section
variable {X : Cx}
end

/-! ### slices of a text -/

end L2

namespace Att
open PySem PySem.W PySem.Calls PyProof.Rows

/-! ### the script -/

/-! ### the attachment: holds_open's last premise (the goal 'hc' behind k_head) from a wpAny of the law's body -/

/-! ### rules over ANY heap (no ledger) from facts about the written part K: the library's own take a ledger (News) for what they write -/
section
variable {prog : Program} {w : World} {A : Around} {E : Value → Shared → Prop} {s : Shared} {K : Frag}

/-! the whole heap as the ledger: makes every rule that writes through a ledger a rule over any heap -/

end
end Att

namespace L2
open PySem PySem.Spec PyProof.Rows

end L2

namespace L2
open PySem PySem.Spec PyProof.Rows

end L2

/- THE LAST THEOREM (shape; LID, My.* are yours):
   My.Adr: a structure of the addresses that your layer names (classes, functions); My.Txt K t: a structure (Prop) of the equations over K;
   My.txt_mk : {K} {implicit addresses ..} (e1 : nsIn K mainGlobals "law" = some (some (.ref f))) (e2 : K.lookup f = some ⟨oc, od, .func (fnOf "law" "law" params body scope dV kV doc pm an cdv ct), sl⟩) (e3 : codeIn K cdv "law" = true) .. : ∃ t, My.Txt K t

set_option maxRecDepth 100000 in
set_option maxHeartbeats 0 in
theorem PySem.Challenge.cw_LID_holds : PySem.Challenge.rw_LID.Holds := by
  w_on; o_law; k_head; (case hw => w_witness2)
  k_fill
  refine L2.walk_of (l := PySem.Challenge.rw_LID) (n := 63) (k := 40) (x := "script") (CX := fun w => ..) (sp := fun _ => My.sp_law) rfl (by decide) rfl ⟨rfl, by decide, by decide⟩ (fun w h Y => PySem.W.kIn_of Y) ?F ?S ?C
  case F =>
    intro w mg fa h KX G hmg
    have T : ∃ t, My.Txt (L2.KOf KX) t := by
      dsimp only [L2.KOf]                          -- K must stand as «<heap const> w.params» for k_is
      refine' My.txt_mk ?e1 ?e2 ?e3 ..
      (case e1 => PySem.W.k_is)                    -- in the order: a name -> its address -> its object -> its parts
      (case e2 => PySem.W.k_is)
      ..
    obtain ⟨t, T⟩ := T
    have e0 := hmg.symm.trans (PySem.W.mg_of KX G T.law)
    cases e0                                       -- fa is the law's own address
    exact ⟨_, fun s u => .of_eq rfl, fun base kb nb => My.law_fn T kb nb⟩     -- if «.of_eq rfl» comes too early: refine' ⟨_, ?b, fun base kb nb => My.law_fn T kb nb⟩; exact fun s u => .of_eq rfl
  case S => exact fun w H a ns hl hO hS => ..
  case C => exact ..
(the tactic k_is has no namespace: write k_is) -/

/-! SHORT WORDS over the layer: a def of the text, its body, what a loop and a test want. -/
namespace L2
open PySem PySem.Spec PyProof.Rows

/-! ### the text by places -/
/-- the j-th statement of a class's body -/
def inClass (s : Stmt) (j : Nat) : Stmt := match s with
  | .ClassDef _ _ _ body _ _ _ _ _ _ _ => body.getD j (.Pass ⟨0, 0, 0, 0⟩)
  | _ => .Pass ⟨0, 0, 0, 0⟩
def defArgs (s : Stmt) : Arguments := match s with
  | .FunctionDef _ a _ _ _ _ _ _ _ _ => a
  | _ => { posonlyargs := [], args := [], vararg := none, kwonlyargs := [], kw_defaults := [], kwarg := none, defaults := [] }
def defBody (s : Stmt) : List Stmt := match s with
  | .FunctionDef _ _ b _ _ _ _ _ _ _ => b
  | _ => []
def defScope (s : Stmt) : Scope := match s with
  | .FunctionDef _ _ _ _ _ _ sc _ _ _ => sc
  | _ => { kind := .function, names := [], isGenerator := false, isCoroutine := false }

/-! ### no exception leaves a def -/
abbrev CX0 : CXT := fun _ _ _ _ _ _ => False
abbrev E0 : XK := fun _ _ _ => False
theorem pass0 {X : Cx} : Passes CX0 X E0 := fun _ _ _ _ _ _ _ h => h.elim

/-! ### a def (or method) of the text as it stands behind the top -/
structure Fun (K : PySem.W.Frag) (x qual : Str) (st : Stmt) (f : Addr) (fd : FuncData) : Prop where
  ex : ∃ (oc : Value) (od : Option Addr) (kV doc pm : Value) (an : Option Addr) (cdv ct : Value) (osl : Array (Option Value)),
    fd = PySem.W.fnOf x qual (defArgs st) (defBody st) (defScope st) .none kV doc pm an cdv ct ∧ K.lookup f = some ⟨oc, od, .func fd, osl⟩ ∧ PySem.W.codeIn K cdv qual = true
  kp : PySem.W.keepIn K (.ref f) = true
section
variable {P : Program} {w : World} {K : PySem.W.Frag} {mg : Str → Option Value} {base : Heap}
/-- THE RULE for a def: its body as a term of rules, and the reading of that term -/
theorem Fun.ok {x qual : Str} {st : Stmt} {f : Addr} {fd : FuncData} {N ps : List Str} {k : Nat} {sp : Sp} (F : Fun K x qual st f fd) (S : FnScope N ps (defScope st)) (len : ∀ vs H Q E, sp vs H Q E → vs.length = ps.length)
    (hbody : ∀ (cdv : Value) (A : Around) (outer : List Env) (s : Shared) (H : Hp) (vs : List V) (Q : VK) (E : XK), Room k (A.deeper (envOfC qual (defScope st) s.heap.objs.size f cdv)) → sp vs H Q E →
      ∃ t, PSs (cxOf CX0 P w K mg base N qual (defScope st) f cdv A outer s H E).nox (defBody st) t ∧ t { nx := fun _ H' => Q .non H', rt := Q } (start N vs) H) : FnOk P w K mg base CX0 (k + 1) f fd ps sp := by
  obtain ⟨oc, od, kV, doc, pm, an, cdv, ct, osl, rfl, lk, hcd⟩ := F.ex
  refine fn_of lk hcd S len fun A outer s H vs Q E hr hsp => ?_
  obtain ⟨t, h, q⟩ := hbody cdv A outer s H vs Q E hr hsp
  exact ⟨t, h.nox, q⟩
/-- how its arguments bind (no defaults): h is «fun _ _ _ _ _ _ us hl => match us, hl with | [_, _], _ => rfl», one _ a parameter -/
theorem Fun.binds {x qual : Str} {st : Stmt} {f : Addr} {fd : FuncData} {ps : List Str} (F : Fun K x qual st f fd)
    (h : ∀ (kV doc pm : Value) (an : Option Addr) (cdv ct : Value) (us : List Value), us.length = ps.length → bindArgs (PySem.W.fnOf x qual (defArgs st) (defBody st) (defScope st) .none kV doc pm an cdv ct) ⟨us, []⟩ = pure (ps.zip us)) : Binds K fd ps [] := by
  obtain ⟨oc, od, kV, doc, pm, an, cdv, ct, osl, rfl, lk, hcd⟩ := F.ex
  exact .all (h kV doc pm an cdv ct)
theorem fun_mk {x qual : Str} {st : Stmt} {f : Addr} {oc : Value} {od an : Option Addr} {osl : Array (Option Value)} {kV doc pm cdv ct : Value} (l : K.lookup f = some ⟨oc, od, .func (PySem.W.fnOf x qual (defArgs st) (defBody st) (defScope st) .none kV doc pm an cdv ct), osl⟩)
    (c : PySem.W.codeIn K cdv qual = true) (k : PySem.W.keepIn K (.ref f) = true) : Fun K x qual st f (PySem.W.fnOf x qual (defArgs st) (defBody st) (defScope st) .none kV doc pm an cdv ct) := ⟨⟨oc, od, kV, doc, pm, an, cdv, ct, osl, rfl, l, c⟩, k⟩
end
theorem hu_of {A : Around} {k : Nat} (hr : Room k A) : A.units + 1 < cLine := Nat.lt_of_le_of_lt (Nat.add_le_add_left (by decide : 1 ≤ 64) _) hr.units

/-! ### expressions in short: the name that stands in the i-th slot -/
section
variable {X : Cx}
theorem pv (i : Nat) {x : Str} {pos : Pos} (hN : X.N[i]? = some x := by rfl) (hv : Vis X.env.scope x := by first | exact Or.inl rfl | exact Or.inr (Or.inl rfl) | exact Or.inr (Or.inr rfl)) (hd : (x == ("__debug__" : Str)) = false := by decide)
    (hcd : (x == ("__classdict__" : Str)) = false := by decide) : PE X (.Name x pos) (tVar i) := pe_var hN hv hd hcd
end

/-! ### tests -/
theorem iteF {A B : Prop} (h : B) : if false = true then A else B := by
  rw [if_neg Bool.false_ne_true]
  exact h
theorem iteT {A B : Prop} (h : A) : if true = true then A else B := by
  rw [if_pos rfl]
  exact h
theorem ite2 {c A B : Prop} [Decidable c] (h1 : c → A) (h2 : ¬ c → B) : if c then A else B := by
  by_cases h : c
  · rw [if_pos h]
    exact h1 h
  · rw [if_neg h]
    exact h2 h

/-! ### heaps -/
/-- all that was tracked is as it was -/
def Same (H H' : Hp) : Prop := ∀ b o, H b = some o → H' b = some o
theorem Same.refl (H : Hp) : Same H H := fun _ _ h => h
theorem Same.trans {H H1 H2 : Hp} (a : Same H H1) (b : Same H1 H2) : Same H H2 := fun c o h => b c o (a c o h)
theorem Same.free {H H' : Hp} (e : Same H H') {l : Addr} (h : H' l = Option.none) : H l = Option.none := by
  cases q : H l with
  | none => rfl
  | some o =>
    rw [e l o q] at h
    cases h
theorem Same.seq {K : PySem.W.Frag} {H H' : Hp} {a : Addr} {xs : List V} (e : Same H H') (h : SqL K H a xs) : SqL K H' a xs := by
  rcases h with (h | ⟨o, h⟩) | h
  · exact .inl (.inl (e _ _ h))
  · exact .inl (.inr ⟨o, e _ _ h⟩)
  · exact .inr h

/-! ### a dict's pairs: keys that differ -/
section
variable {κ : Type} [DecidableEq κ]
end
/-! ### lists -/
theorem at_of {xs : List V} {z : Int} {j : Nat} {v : V} (e : z = (j : Int)) (h : xs[j]? = some v) : atI xs z = some v := by
  rw [e]
  exact atI_nat h
theorem nd_ix {α : Type} {l : List α} (hN : l.Nodup) {i j : Nat} {x : α} (a : l[i]? = some x) (b : l[j]? = some x) : i = j := by
  obtain ⟨h1, e1⟩ := List.getElem?_eq_some_iff.mp a
  obtain ⟨h2, e2⟩ := List.getElem?_eq_some_iff.mp b
  exact (List.getElem_inj hN).mp (e1.trans e2.symm)
/-- a new instance and its __init__ leave all that was tracked as it was -/
theorem Same.made {H H1 : Hp} {x dx C : Addr} (nx : H x = Option.none) (nd : H dx = Option.none) (k : ∀ b o, (upd (upd H dx (.own x)) x (.ins C dx [])) b = some o → b ≠ x → H1 b = some o) : Same H H1 := fun b o e =>
  k b o (by rw [upd_ne (ne_of_none e nx), upd_ne (ne_of_none e nd)]; exact e) (ne_of_none e nx)
end L2
end
section
set_option linter.all false
namespace SM
open Kg33

theorem has_with {s c d : Nat} : has (with_ s c) d = (has s d || d == c) := by
  unfold with_
  split
  · rename_i h
    by_cases e : d = c
    · subst e; simp [h]
    · simp [e]
  · rename_i h
    have h' : s.testBit c = false := by simpa [has] using h
    unfold has
    have hr0 : s % 2 ^ (c + 1) < 2 ^ (c + 1) := Nat.mod_lt _ (Nat.two_pow_pos _)
    have es : s = 2 ^ (c + 1) * (s / 2 ^ (c + 1)) + s % 2 ^ (c + 1) := (Nat.div_add_mod _ _).symm
    have hrb : (s % 2 ^ (c + 1)).testBit c = false := by
      rw [Nat.testBit_mod_two_pow]; simp [h']
    have hr : s % 2 ^ (c + 1) < 2 ^ c := by
      apply Nat.lt_of_not_le
      intro hle
      have : s % 2 ^ (c+1) = 2 ^ c + (s % 2 ^ (c+1) - 2 ^ c) := by omega
      rw [this, Nat.testBit_two_pow_add_eq] at hrb
      have h2 : s % 2 ^ (c+1) - 2 ^ c < 2 ^ c := by
        have : 2 ^ (c+1) = 2 ^ c + 2 ^ c := by rw [Nat.pow_succ]; omega
        omega
      rw [Nat.testBit_lt_two_pow h2] at hrb
      simp at hrb
    generalize hq : s / 2 ^ (c + 1) = q at *
    generalize hrr : s % 2 ^ (c + 1) = r at *
    have e2 : s + 2 ^ c = 2 ^ (c + 1) * q + (2 ^ c + r) := by omega
    have hb2 : 2 ^ c + r < 2 ^ (c + 1) := by
      have : 2 ^ (c+1) = 2 ^ c + 2 ^ c := by rw [Nat.pow_succ]; omega
      omega
    rw [e2, Nat.testBit_two_pow_mul_add _ hb2]
    rw [es, Nat.testBit_two_pow_mul_add _ hr0]
    by_cases hj : d < c + 1
    · simp only [hj, if_true]
      by_cases hd : d = c
      · subst hd
        rw [Nat.testBit_two_pow_add_eq, hrb]; simp
      · have : d < c := by omega
        rw [Nat.testBit_two_pow_add_gt this]; simp [hd]
    · simp only [hj, if_false]
      have : ¬ d = c := by omega
      simp [this]

theorem has_eq {a b : Nat} (h : ∀ c, has a c = has b c) : a = b := Nat.eq_of_testBit_eq h

theorem near_lt {c d : Nat} (h : d ∈ near c) : d < 60 := by
  unfold near at h
  rw [List.mem_filter, List.mem_range] at h
  exact h.1
theorem near_len : ∀ c, c < 60 → (near c).length ≤ 8 := by decide +kernel

/-- the squares that opening these opens -/
inductive Reach (mines marks o : Nat) (cs : List Nat) : Nat → Prop where
  | start {c} : c ∈ cs → has o c = false → has marks c = false → Reach mines marks o cs c
  | step {c d} : Reach mines marks o cs c → about mines c = 0 → d ∈ near c → has o d = false → has marks d = false → Reach mines marks o cs d

/-- between two turns: what is open so far, what waits -/
structure Mid (mines marks o : Nat) (cs : List Nat) (r : List Nat) (o' : Nat) : Prop where
  sub : ∀ c, has o c = true → has o' c = true
  own : ∀ c, has o' c = true → has o c = true ∨ Reach mines marks o cs c
  wait : ∀ c ∈ r, has o c = true ∨ has marks c = true ∨ Reach mines marks o cs c
  init : ∀ c ∈ cs, has o' c = true ∨ has marks c = true ∨ c ∈ r
  closed : ∀ c d, has o' c = true → has o c = false → about mines c = 0 → d ∈ near c → has o' d = true ∨ has marks d = true ∨ d ∈ r
  low : ∀ c ∈ r, c < 60

theorem Mid.start {mines marks o : Nat} {cs : List Nat} (h : ∀ c ∈ cs, c < 60) : Mid mines marks o cs cs o := by
  refine ⟨fun _ h => h, fun _ h => .inl h, fun c hc => ?_, fun c hc => .inr (.inr hc), fun c d h1 h2 => ?_, h⟩
  · by_cases h1 : has o c = true
    · exact .inl h1
    · by_cases h2 : has marks c = true
      · exact .inr (.inl h2)
      · exact .inr (.inr (.start hc (by simpa using h1) (by simpa using h2)))
  · rw [h1] at h2; cases h2

/-- a square that is open or marked already is passed over; r may come in any order -/
theorem Mid.skip {mines marks o : Nat} {cs r r' : List Nat} {o' c : Nat} (M : Mid mines marks o cs r o') (hm : ∀ d, d ∈ r ↔ d = c ∨ d ∈ r') (h : has o' c = true ∨ has marks c = true) : Mid mines marks o cs r' o' := by
  refine ⟨M.sub, M.own, fun d hd => M.wait d ((hm d).2 (.inr hd)), fun d hd => ?_, fun a d h1 h2 h3 h4 => ?_, fun d hd => M.low d ((hm d).2 (.inr hd))⟩
  · rcases M.init d hd with h1 | h1 | h1
    · exact .inl h1
    · exact .inr (.inl h1)
    · rcases (hm d).1 h1 with e | e
      · subst e; rcases h with h | h
        · exact .inl h
        · exact .inr (.inl h)
      · exact .inr (.inr e)
  · rcases M.closed a d h1 h2 h3 h4 with h5 | h5 | h5
    · exact .inl h5
    · exact .inr (.inl h5)
    · rcases (hm d).1 h5 with e | e
      · subst e; rcases h with h | h
        · exact .inl h
        · exact .inr (.inl h)
      · exact .inr (.inr e)

theorem Mid.reach {mines marks o : Nat} {cs r r' : List Nat} {o' c : Nat} (M : Mid mines marks o cs r o') (hc : c ∈ r) (h1 : has o' c = false) (h2 : has marks c = false) : Reach mines marks o cs c := by
  rcases M.wait c hc with h | h | h
  · rw [M.sub c h] at h1; cases h1
  · rw [h] at h2; cases h2
  · exact h

/-- a square is opened: without mines about it all about it wait, else nothing more -/
theorem Mid.open0 {mines marks o : Nat} {cs r r' : List Nat} {o' c : Nat} (M : Mid mines marks o cs r o') (hm : ∀ d, d ∈ r ↔ d = c ∨ d ∈ r') (h1 : has o' c = false) (h2 : has marks c = false) (h0 : about mines c ≠ 0) : Mid mines marks o cs r' (with_ o' c) := by
  have hR := M.reach (r' := r') ((hm c).2 (.inl rfl)) h1 h2
  refine ⟨fun d hd => ?_, fun d hd => ?_, fun d hd => M.wait d ((hm d).2 (.inr hd)), fun d hd => ?_, fun a d h3 h4 h5 h6 => ?_, fun d hd => M.low d ((hm d).2 (.inr hd))⟩
  · rw [has_with, M.sub d hd]; rfl
  · rw [has_with, Bool.or_eq_true] at hd
    rcases hd with hd | hd
    · exact M.own d hd
    · have e : d = c := by simpa using hd
      subst e; exact .inr hR
  · rcases M.init d hd with h | h | h
    · exact .inl (by rw [has_with, h]; rfl)
    · exact .inr (.inl h)
    · rcases (hm d).1 h with e | e
      · exact .inl (by rw [has_with, e]; simp)
      · exact .inr (.inr e)
  · rw [has_with, Bool.or_eq_true] at h3
    rcases h3 with h3 | h3
    · rcases M.closed a d h3 h4 h5 h6 with h | h | h
      · exact .inl (by rw [has_with, h]; rfl)
      · exact .inr (.inl h)
      · rcases (hm d).1 h with e | e
        · exact .inl (by rw [has_with, e]; simp)
        · exact .inr (.inr e)
    · have e : a = c := by simpa using h3
      subst e; exact absurd h5 h0

theorem Mid.openAll {mines marks o : Nat} {cs r r' r2 : List Nat} {o' c : Nat} (M : Mid mines marks o cs r o') (hm : ∀ d, d ∈ r ↔ d = c ∨ d ∈ r') (hn : ∀ d, d ∈ r2 ↔ d ∈ near c ∨ d ∈ r') (h1 : has o' c = false) (h2 : has marks c = false) (h0 : about mines c = 0) : Mid mines marks o cs r2 (with_ o' c) := by
  have hR := M.reach (r' := r') ((hm c).2 (.inl rfl)) h1 h2
  refine ⟨fun d hd => ?_, fun d hd => ?_, fun d hd => ?_, fun d hd => ?_, fun a d h3 h4 h5 h6 => ?_, fun d hd => ?_⟩
  · rw [has_with, M.sub d hd]; rfl
  · rw [has_with, Bool.or_eq_true] at hd
    rcases hd with hd | hd
    · exact M.own d hd
    · have e : d = c := by simpa using hd
      subst e; exact .inr hR
  · rcases (hn d).1 hd with h | h
    · by_cases g1 : has o d = true
      · exact .inl g1
      · by_cases g2 : has marks d = true
        · exact .inr (.inl g2)
        · exact .inr (.inr (.step hR h0 h (by simpa using g1) (by simpa using g2)))
    · exact M.wait d ((hm d).2 (.inr h))
  · rcases M.init d hd with h | h | h
    · exact .inl (by rw [has_with, h]; rfl)
    · exact .inr (.inl h)
    · rcases (hm d).1 h with e | e
      · exact .inl (by rw [has_with, e]; simp)
      · exact .inr (.inr ((hn d).2 (.inr e)))
  · rw [has_with, Bool.or_eq_true] at h3
    rcases h3 with h3 | h3
    · rcases M.closed a d h3 h4 h5 h6 with h | h | h
      · exact .inl (by rw [has_with, h]; rfl)
      · exact .inr (.inl h)
      · rcases (hm d).1 h with e | e
        · exact .inl (by rw [has_with, e]; simp)
        · exact .inr (.inr ((hn d).2 (.inr e)))
    · have e : a = c := by simpa using h3
      subst e; exact .inr (.inr ((hn d).2 (.inl h6)))
  · rcases (hn d).1 hd with h | h
    · exact near_lt h
    · exact M.low d ((hm d).2 (.inr h))

/-- at the end just what can be reached is open -/
theorem Mid.done {mines marks o : Nat} {cs : List Nat} {o' : Nat} (M : Mid mines marks o cs [] o') (c : Nat) : has o' c = true ↔ has o c = true ∨ Reach mines marks o cs c := by
  refine ⟨M.own c, fun h => ?_⟩
  rcases h with h | h
  · exact M.sub c h
  · induction h with
    | start h1 h2 h3 =>
      rcases M.init _ h1 with h | h | h
      · exact h
      · rw [h] at h3; cases h3
      · cases h
    | @step a b h1 h2 h3 h4 h5 ih =>
      have h6 : has o a = false := by cases h1 <;> assumption
      rcases M.closed _ _ ih h6 h2 h3 with h | h | h
      · exact h
      · rw [h] at h5; cases h5
      · cases h

theorem Mid.unique {mines marks o : Nat} {cs cs' : List Nat} {o' o2 : Nat} (hcs : ∀ c, c ∈ cs ↔ c ∈ cs') (M : Mid mines marks o cs [] o') (M' : Mid mines marks o cs' [] o2) : o' = o2 := by
  have mono : ∀ {a b : List Nat} {c}, (∀ c, c ∈ a → c ∈ b) → Reach mines marks o a c → Reach mines marks o b c := by
    intro a b c hab h
    induction h with
    | start h1 h2 h3 => exact .start (hab _ h1) h2 h3
    | step h1 h2 h3 h4 h5 ih => exact .step ih h2 h3 h4 h5
  apply has_eq
  intro c
  rw [Bool.eq_iff_iff, M.done, M'.done]
  exact ⟨fun h => h.imp id (mono fun c => (hcs c).1), fun h => h.imp id (mono fun c => (hcs c).2)⟩

/-- how much is left to do -/
def closedN (o : Nat) : Nat := ((List.range 60).filter fun c => !has o c).length
theorem filter_len_lt {α : Type} {p q : α → Bool} : ∀ (l : List α) (x : α), x ∈ l → p x = true → q x = false → (∀ y ∈ l, q y = true → p y = true) → (l.filter q).length + 1 ≤ (l.filter p).length
  | [], _, h, _, _, _ => by cases h
  | a :: l, x, h, hp, hq, hs => by
    have hle : (l.filter q).length ≤ (l.filter p).length := by
      have : ∀ (m : List α), (∀ y ∈ m, q y = true → p y = true) → (m.filter q).length ≤ (m.filter p).length := by
        intro m
        induction m with
        | nil => intro _; exact Nat.le_refl _
        | cons b m ih =>
          intro hm
          have i := ih fun y hy => hm y (List.mem_cons_of_mem _ hy)
          by_cases hb : q b = true
          · rw [List.filter_cons_of_pos hb, List.filter_cons_of_pos (hm b (List.mem_cons_self) hb)]; simpa using i
          · rw [List.filter_cons_of_neg hb]
            by_cases hb' : p b = true
            · rw [List.filter_cons_of_pos hb']; simp; omega
            · rw [List.filter_cons_of_neg hb']; exact i
      exact this l fun y hy => hs y (List.mem_cons_of_mem _ hy)
    rcases List.mem_cons.1 h with e | h
    · subst e
      rw [List.filter_cons_of_pos hp, List.filter_cons_of_neg (by simp [hq])]
      simp; exact hle
    · have i := filter_len_lt l x h hp hq fun y hy => hs y (List.mem_cons_of_mem _ hy)
      by_cases hb : q a = true
      · rw [List.filter_cons_of_pos hb, List.filter_cons_of_pos (hs a (List.mem_cons_self) hb)]; simp; exact i
      · rw [List.filter_cons_of_neg hb]
        by_cases hb' : p a = true
        · rw [List.filter_cons_of_pos hb']; simp; omega
        · rw [List.filter_cons_of_neg hb']; exact i
theorem closedN_with {o c : Nat} (hc : c < 60) (h : has o c = false) : closedN (with_ o c) + 1 ≤ closedN o := by
  refine filter_len_lt _ c (List.mem_range.2 hc) (by simp [h]) (by simp [has_with]) fun y _ hy => ?_
  rw [has_with] at hy
  cases e : has o y with
  | false => rfl
  | true => rw [e] at hy; simp at hy
theorem closedN_le (o : Nat) : closedN o ≤ 60 := by
  have h := List.length_filter_le (fun c => !has o c) (List.range 60)
  rw [List.length_range] at h; exact h

theorem spread_mid {mines marks o : Nat} {cs : List Nat} : ∀ (k : Nat) (r : List Nat) (o' : Nat), Mid mines marks o cs r o' → r.length + 8 * closedN o' < k → Mid mines marks o cs [] (spread mines marks k r o')
  | 0, _, _, _, h => by omega
  | k + 1, [], o', M, _ => by unfold spread; exact M
  | k + 1, c :: r, o', M, h => by
    unfold spread
    rw [List.length_cons] at h
    split
    · rename_i h1
      exact spread_mid k r o' (M.skip (c := c) (by simp) h1) (by omega)
    · rename_i h1
      have h2 : has o' c = false := by simpa using (fun e => h1 (.inl e) : ¬ _)
      have h3 : has marks c = false := by simpa using (fun e => h1 (.inr e) : ¬ _)
      have hc := M.low c List.mem_cons_self
      have q := closedN_with hc h2
      split
      · rename_i h0
        refine spread_mid k _ _ (M.openAll (c := c) (r' := r) (by simp) (by simp) h2 h3 h0) ?_
        rw [List.length_append]
        have := near_len c hc
        omega
      · rename_i h0
        exact spread_mid k _ _ (M.open0 (c := c) (by simp) h2 h3 h0) (by omega)

/-- the specification's spread, at its fuel -/
theorem spread_done {mines marks o : Nat} {cs : List Nat} (h : ∀ c ∈ cs, c < 60) (hl : cs.length ≤ 500) : Mid mines marks o cs [] (spread mines marks 1000 cs o) :=
  spread_mid 1000 cs o (Mid.start h) (by have := closedN_le o; omega)

end SM
end
section
set_option linter.all false
namespace SM
open Kg33

/-- all ways to lay mines or none on so many squares -/
def fills : Nat → List (List Bool)
  | 0 => [[]]
  | k + 1 => (fills k).map (false :: ·) ++ (fills k).map (true :: ·)
def trues : List Bool → Nat
  | [] => 0
  | b :: r => (if b then 1 else 0) + trues r
/-- what is known of the squares themselves, from the i-th on -/
def okFrom (s : Seen) : Nat → List Bool → Bool
  | _, [] => true
  | i, b :: r => (if b then decide (8 < at_ s i) else decide (at_ s i ≠ 10)) && okFrom s (i + 1) r
def agreesAll (s : Seen) (f : List Bool) : Bool := (List.range 60).all (agrees s f)

theorem fills_length : ∀ (k : Nat) (r : List Bool), r ∈ fills k → r.length = k
  | 0, r, h => by simp [fills] at h; simp [h]
  | k + 1, r, h => by
    simp only [fills, List.mem_append, List.mem_map] at h
    rcases h with ⟨a, ha, rfl⟩ | ⟨a, ha, rfl⟩ <;> simp [fills_length k a ha]
theorem mem_fills : ∀ (r : List Bool), r ∈ fills r.length
  | [] => by simp [fills]
  | false :: r => by simp [fills, mem_fills r]
  | true :: r => by simp [fills, mem_fills r]

theorem countP_zero {α : Type} {p : α → Bool} {l : List α} (h : ∀ x ∈ l, p x = false) : l.countP p = 0 := by
  rw [List.countP_eq_zero]; intro x hx; rw [h x hx]; simp
theorem countP_congr' {α : Type} {p q : α → Bool} {l : List α} (h : ∀ x ∈ l, p x = q x) : l.countP p = l.countP q := by
  apply List.countP_congr; intro x hx; rw [h x hx]

theorem near_le : ∀ c, c < 60 → ∀ d ∈ near c, d ≤ c + 7 := by decide +kernel
theorem near_ge : ∀ c, c < 60 → ∀ d ∈ near c, c ≤ d + 7 := by decide +kernel

/-- what is done decides a square seven behind -/
theorem agrees_early {s : Seen} {d r : List Bool} {c : Nat} (hc : c < 60) (h : c + 7 < d.length) : agrees s (d ++ r) c = agrees s d c := by
  unfold agrees
  have e : ((near c).filter fun x => (d ++ r).getD x false) = ((near c).filter fun x => d.getD x false) := by
    apply List.filter_congr
    intro x hx
    have := near_le c hc x hx
    rw [List.getD_eq_getElem?_getD, List.getD_eq_getElem?_getD, List.getElem?_append_left (by omega)]
  rw [e]

theorem ways_eq (s : Seen) : ∀ (k left : Nat) (done : List Bool), done.length + k = 60 →
    ways s k left done = (fills k).countP fun r => decide (trues r = left) && (okFrom s done.length r && agreesAll s (done ++ r))
  | 0, left, done, h => by
    simp only [ways, fills, List.countP_cons, List.countP_nil, trues, okFrom, List.append_nil, agreesAll]
    by_cases h1 : left = 0
    · subst h1; simp
    · have : ¬ 0 = left := fun e => h1 e.symm
      simp [h1, this]
  | k + 1, left, done, h => by
    have go : ∀ (b : Bool) (lf : Nat), (if 7 ≤ done.length ∧ agrees s (done ++ [b]) (done.length - 7) = false then 0 else ways s k lf (done ++ [b])) =
        (fills k).countP fun r => decide (trues r = lf) && (okFrom s (done.length + 1) r && agreesAll s (done ++ b :: r)) := by
      intro b lf
      split
      · rename_i h1
        symm
        apply countP_zero
        intro r hr
        have e : agreesAll s (done ++ b :: r) = false := by
          unfold agreesAll
          rw [List.all_eq_false]
          refine ⟨done.length - 7, List.mem_range.2 (by omega), ?_⟩
          have := agrees_early (s := s) (d := done ++ [b]) (r := r) (c := done.length - 7) (by omega) (by simp; omega)
          rw [List.append_assoc] at this
          rw [show done ++ b :: r = done ++ ([b] ++ r) from rfl, this, h1.2]; simp
        rw [e]; simp
      · rw [ways_eq s k lf (done ++ [b]) (by simp; omega)]
        apply countP_congr'
        intro r _
        rw [List.append_assoc, List.length_append]; rfl
    rw [ways, fills, List.countP_append, List.countP_map, List.countP_map]
    simp only [go]
    congr 1
    · split
      · rename_i h1
        symm; apply countP_zero
        intro r _
        simp [okFrom, h1]
      · rename_i h1
        apply countP_congr'
        intro r _
        simp [okFrom, h1, trues]
    · split
      · rename_i h1
        symm; apply countP_zero
        intro r _
        rcases h1 with h1 | h1
        · have : ¬ 8 < at_ s done.length := by omega
          simp [okFrom, this]
        · have : ¬ 1 + trues r = 0 := by omega
          simp [okFrom, trues, h1, this]
      · rename_i h1
        have h2 : 8 < at_ s done.length := by omega
        have h3 : left ≠ 0 := by omega
        apply countP_congr'
        intro r _
        have e : (decide (trues r = left - 1)) = decide (1 + trues r = left) := by
          apply decide_eq_decide.2; omega
        simp [okFrom, h2, trues, e]

/-- a way that fits what is seen -/
def fits (s : Seen) (f : List Bool) : Bool := okFrom s 0 f && agreesAll s f
theorem count_eq (s : Seen) (m : Nat) : count s m = (fills 60).countP fun f => decide (trues f = m) && fits s f := by
  unfold count
  rw [ways_eq s 60 m [] rfl]; rfl

theorem okFrom_iff (s : Seen) : ∀ (f : List Bool) (i : Nat), okFrom s i f = true ↔ ∀ j, j < f.length → (f.getD j false = true → 8 < at_ s (i + j)) ∧ (f.getD j false = false → at_ s (i + j) ≠ 10)
  | [], i => by simp [okFrom]
  | b :: r, i => by
    rw [okFrom, Bool.and_eq_true, okFrom_iff s r (i + 1)]
    constructor
    · rintro ⟨h1, h2⟩ j hj
      cases j with
      | zero => cases b <;> simp at h1 ⊢ <;> exact h1
      | succ j =>
        have := h2 j (by simpa using hj)
        rw [show i + 1 + j = i + (j + 1) by omega] at this
        simpa using this
    · intro h
      refine ⟨?_, fun j hj => ?_⟩
      · have := h 0 (by simp)
        cases b <;> simp at this ⊢ <;> exact this
      · have := h (j + 1) (by simpa using hj)
        rw [show i + 1 + j = i + (j + 1) by omega]
        simpa using this

theorem at_set {s : Seen} {c j v : Nat} (hc : c < s.length) : at_ (s.set c v) j = if j = c then v else at_ s j := by
  unfold at_
  rw [List.getD_eq_getElem?_getD, List.getD_eq_getElem?_getD, List.getElem?_set]
  by_cases h : c = j
  · subst h; simp [hc]
  · have : ¬ j = c := fun e => h e.symm
    simp [h, this]

/-- a square of which nothing is seen known as a mine: those of the ways that have one there -/
theorem fits_set {s : Seen} {c : Nat} (hl : s.length = 60) (hc : c < 60) (h9 : at_ s c = 9) (f : List Bool) (hf : f.length = 60) : fits (s.set c 10) f = (fits s f && f.getD c false) := by
  have hc' : c < s.length := by omega
  unfold fits
  have e : agreesAll (s.set c 10) f = agreesAll s f := by
    unfold agreesAll
    have : ∀ x, agrees (s.set c 10) f x = agrees s f x := by
      intro x
      unfold agrees
      rw [at_set hc']
      by_cases hx : x = c
      · subst hx; simp [h9]
      · simp [hx]
    rw [show agrees (s.set c 10) f = agrees s f from funext this]
  rw [e]
  rw [Bool.eq_iff_iff]
  simp only [Bool.and_eq_true, okFrom_iff, Nat.zero_add, at_set hc']
  constructor
  · rintro ⟨h1, h2⟩
    refine ⟨⟨fun j hj => ?_, h2⟩, ?_⟩
    · have := h1 j hj
      by_cases hx : j = c
      · subst hx; rw [h9]; simp
      · simpa [hx] using this
    · have := (h1 c (by omega)).2
      cases e : f.getD c false with
      | true => rfl
      | false => exact absurd (this e) (by simp)
  · rintro ⟨⟨h1, h2⟩, h3⟩
    refine ⟨fun j hj => ?_, h2⟩
    by_cases hx : j = c
    · subst hx; rw [h3]; simp
    · simpa [hx] using h1 j hj

theorem under_eq {s : Seen} (m : Nat) {c : Nat} (hl : s.length = 60) (hc : c < 60) (h : at_ s c ≤ 10) : under s m c = (fills 60).countP fun f => (decide (trues f = m) && fits s f) && f.getD c false := by
  unfold under
  split
  · rename_i h8
    symm; apply countP_zero
    intro f hf
    have hfl := fills_length 60 f hf
    cases e : f.getD c false with
    | false => simp
    | true =>
      have : okFrom s 0 f = false := by
        rw [← Bool.not_eq_true, okFrom_iff]
        intro q
        have := (q c (by omega)).1 e
        rw [Nat.zero_add] at this; omega
      simp [fits, this]
  · split
    · rename_i h10
      rw [count_eq]
      apply countP_congr'
      intro f hf
      have hfl := fills_length 60 f hf
      cases e : f.getD c false with
      | true => simp
      | false =>
        have : okFrom s 0 f = false := by
          rw [← Bool.not_eq_true, okFrom_iff]
          intro q
          have := (q c (by omega)).2 e
          rw [Nat.zero_add] at this; exact this h10
        simp [fits, this]
    · rename_i h8 h10
      have h9 : at_ s c = 9 := by omega
      rw [count_eq]
      apply countP_congr'
      intro f hf
      rw [fits_set hl hc h9 f (fills_length 60 f hf), Bool.and_assoc]
end SM
end
section
set_option linter.all false
namespace SM
open Kg33

def sumL {α : Type} (l : List α) (f : α → Nat) : Nat := (l.map f).sum
theorem sumL_nil {α : Type} (f : α → Nat) : sumL [] f = 0 := rfl
theorem sumL_cons {α : Type} (a : α) (l : List α) (f : α → Nat) : sumL (a :: l) f = f a + sumL l f := by
  unfold sumL; rw [List.map_cons, List.sum_cons]
theorem sumL_append {α : Type} (l m : List α) (f : α → Nat) : sumL (l ++ m) f = sumL l f + sumL m f := by
  induction l with
  | nil => simp [sumL]
  | cons a l ih => rw [List.cons_append, sumL_cons, sumL_cons, ih]; omega
theorem sumL_map {α β : Type} (g : α → β) (l : List α) (f : β → Nat) : sumL (l.map g) f = sumL l fun x => f (g x) := by
  unfold sumL; rw [List.map_map]; rfl
theorem sumL_congr {α : Type} {l : List α} {f g : α → Nat} (h : ∀ x ∈ l, f x = g x) : sumL l f = sumL l g := by
  induction l with
  | nil => rfl
  | cons a l ih => rw [sumL_cons, sumL_cons, h a (by simp), ih fun x hx => h x (by simp [hx])]
theorem sumL_zero {α : Type} (l : List α) : sumL l (fun _ => 0) = 0 := by
  induction l with
  | nil => rfl
  | cons a l ih => rw [sumL_cons, ih]
theorem sumL_add {α : Type} (l : List α) (f g : α → Nat) : sumL l (fun x => f x + g x) = sumL l f + sumL l g := by
  induction l with
  | nil => rfl
  | cons a l ih => rw [sumL_cons, sumL_cons, sumL_cons, ih]; omega
theorem sumL_mul {α : Type} (l : List α) (f : α → Nat) (c : Nat) : sumL l (fun x => c * f x) = c * sumL l f := by
  induction l with
  | nil => rfl
  | cons a l ih => rw [sumL_cons, sumL_cons, ih, Nat.mul_add]
theorem sumL_comm {α β : Type} (l : List α) (m : List β) (f : α → β → Nat) : sumL l (fun x => sumL m (f x)) = sumL m fun y => sumL l fun x => f x y := by
  induction l with
  | nil => rw [sumL_nil]; exact (sumL_zero m).symm
  | cons a l ih =>
    rw [sumL_cons, ih, ← sumL_add]
    apply sumL_congr
    intro y _
    rw [sumL_cons]
theorem sumL_filter {α : Type} (l : List α) (p : α → Bool) (f : α → Nat) : sumL (l.filter p) f = sumL l fun x => if p x = true then f x else 0 := by
  induction l with
  | nil => rfl
  | cons a l ih =>
    rw [sumL_cons]
    by_cases h : p a = true
    · rw [List.filter_cons_of_pos h, sumL_cons, ih, if_pos h]
    · rw [List.filter_cons_of_neg h, ih, if_neg h]; omega
theorem countP_sumL {α : Type} (l : List α) (p : α → Bool) : l.countP p = sumL l fun x => if p x = true then 1 else 0 := by
  induction l with
  | nil => rfl
  | cons a l ih => rw [sumL_cons, List.countP_cons, ih]; omega
theorem sumL_flatMap {α β : Type} (l : List α) (g : α → List β) (f : β → Nat) : sumL (l.flatMap g) f = sumL l fun x => sumL (g x) f := by
  induction l with
  | nil => rfl
  | cons a l ih => rw [List.flatMap_cons, sumL_append, sumL_cons, ih]

/-- sums over all ways, the first part ahead -/
theorem sumL_fills_add : ∀ (a b : Nat) (f : List Bool → Nat), sumL (fills (a + b)) f = sumL (fills a) fun d => sumL (fills b) fun r => f (d ++ r)
  | 0, b, f => by
    rw [Nat.zero_add]
    show _ = sumL [[]] _
    rw [sumL_cons, sumL_nil]; rfl
  | a + 1, b, f => by
    rw [show a + 1 + b = (a + b) + 1 by omega]
    show sumL ((fills (a + b)).map (false :: ·) ++ (fills (a + b)).map (true :: ·)) f = sumL ((fills a).map (false :: ·) ++ (fills a).map (true :: ·)) _
    rw [sumL_append, sumL_append, sumL_map, sumL_map, sumL_map, sumL_map, sumL_fills_add a b, sumL_fills_add a b]; rfl
/-- .. one square more at the end -/
theorem sumL_fills_snoc (a : Nat) (f : List Bool → Nat) : sumL (fills (a + 1)) f = sumL (fills a) fun d => f (d ++ [false]) + f (d ++ [true]) := by
  rw [sumL_fills_add a 1]
  apply sumL_congr
  intro d _
  show sumL [[false], [true]] _ = _
  rw [sumL_cons, sumL_cons, sumL_nil]; rfl
theorem trues_append (a b : List Bool) : trues (a ++ b) = trues a + trues b := by
  induction a with
  | nil => simp [trues]
  | cons x a ih => rw [List.cons_append, trues, trues, ih]; omega
theorem okFrom_append (s : Seen) : ∀ (a b : List Bool) (i : Nat), okFrom s i (a ++ b) = (okFrom s i a && okFrom s (i + a.length) b)
  | [], b, i => by simp [okFrom]
  | x :: a, b, i => by
    rw [List.cons_append, okFrom, okFrom, okFrom_append s a b (i + 1), Bool.and_assoc, List.length_cons, show i + 1 + a.length = i + (a.length + 1) by omega]
theorem trues_le : ∀ (f : List Bool), trues f ≤ f.length
  | [] => Nat.le_refl _
  | b :: r => by
    have := trues_le r
    rw [trues, List.length_cons]
    cases b <;> simp <;> omega
end SM
end
section
set_option linter.all false
namespace SM
open Kg33 PySem

theorem band_nat (a b : Nat) : Builtin.bitAnd (a : Int) (b : Int) = ((a &&& b : Nat) : Int) := by
  have h1 : decide (0 ≤ (a : Int)) = true := by simp
  have h2 : decide (0 ≤ (b : Int)) = true := by simp
  unfold Builtin.bitAnd
  rw [h1, h2]; simp
theorem bor_nat (a b : Nat) : Builtin.bitOr (a : Int) (b : Int) = ((a ||| b : Nat) : Int) := by
  unfold Builtin.bitOr Builtin.bitNot
  have h1 : decide (0 ≤ -(a : Int) - 1) = false := by rw [decide_eq_false_iff_not]; omega
  have h2 : decide (0 ≤ -(b : Int) - 1) = false := by rw [decide_eq_false_iff_not]; omega
  unfold Builtin.bitAnd
  rw [h1, h2]
  simp only [Builtin.bitNot]
  have e1 : (-(-(a : Int) - 1) - 1).toNat = a := by omega
  have e2 : (-(-(b : Int) - 1) - 1).toNat = b := by omega
  rw [e1, e2]; omega
theorem or_eq_xor_add_and (a b : Nat) : a ||| b = (a ^^^ b) + (a &&& b) := by
  induction a using Nat.strongRecOn generalizing b with
  | _ a ih =>
    by_cases ha : a = 0
    · subst ha; simp
    · have i := ih (a / 2) (by omega) (b / 2)
      have e1 : a ||| b = 2 * (a / 2 ||| b / 2) + (a ||| b) % 2 := by rw [← Nat.or_div_two]; omega
      have e2 : a ^^^ b = 2 * (a / 2 ^^^ b / 2) + (a ^^^ b) % 2 := by rw [← Nat.xor_div_two]; omega
      have e3 : a &&& b = 2 * (a / 2 &&& b / 2) + (a &&& b) % 2 := by rw [← Nat.and_div_two]; omega
      have f1 : (a ||| b) % 2 = (a ^^^ b) % 2 + (a &&& b) % 2 := by
        have g1 : (a ||| b).testBit 0 = (a.testBit 0 || b.testBit 0) := Nat.testBit_or ..
        have g2 : (a ^^^ b).testBit 0 = (a.testBit 0 ^^ b.testBit 0) := Nat.testBit_xor ..
        have g3 : (a &&& b).testBit 0 = (a.testBit 0 && b.testBit 0) := Nat.testBit_and ..
        rw [Nat.testBit_zero, Nat.testBit_zero, Nat.testBit_zero] at g1 g2 g3
        have b1 : (a ||| b) % 2 < 2 := Nat.mod_lt _ (by decide)
        have b2 : (a ^^^ b) % 2 < 2 := Nat.mod_lt _ (by decide)
        have b3 : (a &&& b) % 2 < 2 := Nat.mod_lt _ (by decide)
        clear e1 e2 e3 i
        generalize (a ||| b) % 2 = x at *
        generalize (a ^^^ b) % 2 = y at *
        generalize (a &&& b) % 2 = z at *
        by_cases h1 : a % 2 = 1 <;> by_cases h2 : b % 2 = 1 <;> simp [h1, h2] at g1 g2 g3 <;> omega
      rw [e1, e2, e3, i, f1]; omega
theorem bxor_nat (a b : Nat) : Builtin.bitXor (a : Int) (b : Int) = ((a ^^^ b : Nat) : Int) := by
  unfold Builtin.bitXor
  rw [bor_nat, band_nat, or_eq_xor_add_and]; omega

/-- (s >> c) & 1 -/
theorem bit_at (s c : Nat) : Builtin.bitAnd ((s : Int) / 2 ^ c) 1 = if has s c = true then 1 else 0 := by
  have e : (s : Int) / 2 ^ c = ((s / 2 ^ c : Nat) : Int) := by
    rw [show ((2 : Int) ^ c) = ((2 ^ c : Nat) : Int) by norm_cast]; norm_cast
  rw [e, show (1 : Int) = ((1 : Nat) : Int) from rfl, band_nat, Nat.and_one_is_mod]
  unfold has
  rw [Nat.testBit_eq_decide_div_mod_eq]
  have : s / 2 ^ c % 2 < 2 := Nat.mod_lt _ (by decide)
  by_cases h : s / 2 ^ c % 2 = 1
  · simp [h]
  · have h0 : s / 2 ^ c % 2 = 0 := by omega
    simp [h0]
theorem with_eq (s c : Nat) : with_ s c = s ||| 2 ^ c := by
  apply has_eq
  intro d
  rw [has_with]
  unfold has
  rw [Nat.testBit_or, Nat.testBit_two_pow]
  congr 1
  by_cases h : d = c
  · simp [h]
  · have : ¬ c = d := fun e => h e.symm
    simp [h, this]
theorem or_at (s c : Nat) : Builtin.bitOr (s : Int) (2 ^ c) = (with_ s c : Int) := by
  rw [show ((2 : Int) ^ c) = ((2 ^ c : Nat) : Int) by norm_cast, bor_nat, with_eq]
theorem xor_at (s c : Nat) : Builtin.bitXor (s : Int) (2 ^ c) = ((if has s c = true then s - 2 ^ c else s + 2 ^ c : Nat) : Int) := by
  rw [show ((2 : Int) ^ c) = ((2 ^ c : Nat) : Int) by norm_cast, bxor_nat]
  congr 1
  split
  · rename_i h
    have e : with_ (s ^^^ 2 ^ c) c = s := by
      apply has_eq
      intro d
      rw [has_with]
      have h' := h
      unfold has at h' ⊢
      rw [Nat.testBit_xor, Nat.testBit_two_pow]
      by_cases hd : d = c
      · subst hd; simp [h']
      · have : ¬ c = d := fun e => hd e.symm
        simp [hd, this]
    unfold with_ at e
    have hn : ¬ has (s ^^^ 2 ^ c) c = true := by
      unfold has at h ⊢
      rw [Nat.testBit_xor, Nat.testBit_two_pow, h]; simp
    rw [if_neg hn] at e
    omega
  · rename_i h
    have e : with_ s c = s ^^^ 2 ^ c := by
      apply has_eq
      intro d
      rw [has_with]
      have h' : s.testBit c = false := by simpa [has] using h
      unfold has
      rw [Nat.testBit_xor, Nat.testBit_two_pow]
      by_cases hd : d = c
      · subst hd; simp [h']
      · have : ¬ c = d := fun e => hd e.symm
        simp [hd, this]
    rw [← e]; unfold with_; rw [if_neg h]

/-! sizes -/
theorem lt60 {s c : Nat} (hs : s < 2 ^ 60) (h : has s c = true) : c < 60 := by
  apply Nat.lt_of_not_le
  intro hc
  unfold has at h
  rw [Nat.testBit_lt_two_pow (Nat.lt_of_lt_of_le hs (Nat.pow_le_pow_right (by decide) hc))] at h
  cases h
theorem lt_pow_of {s : Nat} (h : ∀ c, has s c = true → c < 60) : s < 2 ^ 60 := by
  apply Nat.lt_pow_two_of_testBit
  intro i hi
  cases e : s.testBit i with
  | false => rfl
  | true => have := h i e; omega
theorem with_lt {s c : Nat} (hs : s < 2 ^ 60) (hc : c < 60) : with_ s c < 2 ^ 60 := by
  apply lt_pow_of
  intro d hd
  rw [has_with, Bool.or_eq_true] at hd
  rcases hd with hd | hd
  · exact lt60 hs hd
  · have : d = c := by simpa using hd
    omega
theorem size_closed (o : Nat) : size o + closedN o = 60 := by
  unfold size closedN
  have : ∀ l : List Nat, (l.filter (has o)).length + (l.filter fun c => !has o c).length = l.length := by
    intro l
    induction l with
    | nil => rfl
    | cons a l ih =>
      cases e : has o a with
      | true => rw [List.filter_cons_of_pos e, List.filter_cons_of_neg (by simp [e])]; simp; omega
      | false => rw [List.filter_cons_of_neg (by simp [e]), List.filter_cons_of_pos (by simp [e])]; simp; omega
  have h := this (List.range 60)
  rw [List.length_range] at h; exact h
theorem filter_add_one {p q : Nat → Bool} {x : Nat} : ∀ (l : List Nat), l.Nodup → x ∈ l → p x = false → q x = true → (∀ y, y ≠ x → p y = q y) → (l.filter q).length = (l.filter p).length + 1
  | [], _, h, _, _, _ => by cases h
  | a :: l, hn, h, hp, hq, hs => by
    rw [List.nodup_cons] at hn
    rcases List.mem_cons.1 h with e | h'
    · subst e
      rw [List.filter_cons_of_pos hq, List.filter_cons_of_neg (by simp [hp])]
      have : l.filter q = l.filter p := by
        apply List.filter_congr
        intro y hy
        exact (hs y (fun e => hn.1 (e ▸ hy))).symm
      rw [this]; rfl
    · have i := filter_add_one l hn.2 h' hp hq hs
      have hax : a ≠ x := fun e => hn.1 (e ▸ h')
      cases e : p a with
      | true => rw [List.filter_cons_of_pos (by rw [← hs a hax]; exact e), List.filter_cons_of_pos e]; simp; exact i
      | false => rw [List.filter_cons_of_neg (by rw [← hs a hax]; simp [e]), List.filter_cons_of_neg (by simp [e])]; exact i
theorem size_with {o c : Nat} (hc : c < 60) (h : has o c = false) : size (with_ o c) = size o + 1 := by
  unfold size
  refine filter_add_one _ List.nodup_range (List.mem_range.2 hc) h (by simp [has_with]) fun y hy => ?_
  rw [has_with]; simp [hy]

def sizeN (n s : Nat) : Nat := ((List.range n).filter (has s)).length
theorem has_half (s c : Nat) : has s (c + 1) = has (s / 2) c := by
  unfold has; rw [Nat.testBit_succ]
theorem sizeN_succ (n s : Nat) : sizeN (n + 1) s = s % 2 + sizeN n (s / 2) := by
  unfold sizeN
  rw [List.range_succ_eq_map, List.filter_cons]
  have e : ((List.range n).map Nat.succ).filter (has s) = ((List.range n).filter (has (s / 2))).map Nat.succ := by
    rw [List.filter_map]
    congr 1
    apply List.filter_congr
    intro c _
    exact has_half s c
  rw [e]
  have h0 : has s 0 = decide (s % 2 = 1) := by unfold has; rw [Nat.testBit_zero]
  by_cases h : s % 2 = 1
  · rw [h0]; simp [h]; omega
  · have : s % 2 = 0 := by omega
    rw [h0]; simp [this]
theorem sizeN_last (n s : Nat) : sizeN (n + 1) s = sizeN n s + if has s n = true then 1 else 0 := by
  unfold sizeN
  rw [List.range_succ, List.filter_append]
  by_cases h : has s n = true
  · simp [h]
  · simp [h]
theorem size_eqN (s : Nat) : size s = sizeN 60 s := rfl
theorem size_half {s : Nat} (h : s < 2 ^ 60) : size s = s % 2 + size (s / 2) := by
  rw [size_eqN, size_eqN, sizeN_succ 59, sizeN_last 59 (s / 2)]
  have : has (s / 2) 59 = false := by
    rw [← has_half]
    cases e : has s 60 with
    | false => rfl
    | true => have := lt60 h e; omega
  rw [this]; simp
theorem size_zero : size 0 = 0 := by decide

theorem cleared_iff {mines o : Nat} (hm : mines < 2 ^ 60) (ho : o < 2 ^ 60) : cleared mines o = true ↔ o = (2 ^ 60 - 1) ^^^ mines := by
  unfold cleared
  rw [List.all_eq_true]
  constructor
  · intro h
    apply has_eq
    intro c
    by_cases hc : c < 60
    · have := h c (List.mem_range.2 hc)
      unfold has at this ⊢
      rw [Nat.testBit_xor, Nat.testBit_two_pow_sub_one]
      simp only [hc, decide_true]
      revert this
      cases o.testBit c <;> cases mines.testBit c <;> simp
    · have h1 : has o c = false := by
        cases e : has o c with
        | false => rfl
        | true => exact absurd (lt60 ho e) hc
      have h2 : mines.testBit c = false := by
        cases e : mines.testBit c with
        | false => rfl
        | true => exact absurd (lt60 hm e) hc
      rw [h1]
      unfold has
      rw [Nat.testBit_xor, Nat.testBit_two_pow_sub_one, h2]
      simp [hc]
  · intro h c hc
    rw [List.mem_range] at hc
    rw [h]
    unfold has
    rw [Nat.testBit_xor, Nat.testBit_two_pow_sub_one]
    simp only [hc, decide_true]
    cases mines.testBit c <;> simp
end SM
end
section
set_option linter.all false
namespace SM
open Kg33

theorem mem_unknown {s : Seen} {c : Nat} : c ∈ unknown s ↔ c < 60 ∧ at_ s c = 9 := by
  unfold unknown
  rw [List.mem_filter, List.mem_range]
  simp
theorem about_le (mines c : Nat) (hc : c < 60) : about mines c ≤ 8 := by
  unfold about
  exact Nat.le_trans (List.length_filter_le _ _) (near_len c hc)
theorem at_seenOf {mines o c : Nat} (hc : c < 60) : at_ (seenOf mines o) c = if has o c = true then about mines c else 9 := by
  unfold at_ seenOf
  rw [List.getD_eq_getElem?_getD, List.getElem?_map, List.getElem?_range hc]
  rfl
theorem safe_closed {mines o m c : Nat} (h : c ∈ safe (seenOf mines o) m) : c < 60 ∧ has o c = false := by
  unfold safe at h
  rw [List.mem_filter, mem_unknown] at h
  obtain ⟨⟨h1, h2⟩, _⟩ := h
  refine ⟨h1, ?_⟩
  rw [at_seenOf h1] at h2
  cases e : has o c with
  | false => rfl
  | true => rw [e, if_pos rfl] at h2; have := about_le mines c h1; omega

/-- what is opened is open, and nothing is shut -/
theorem spread_more {mines o : Nat} {l : List Nat} (hl : ∀ c ∈ l, c < 60 ∧ has o c = false) (hn : l ≠ []) (hlen : l.length ≤ 500) : closedN (spread mines 0 1000 l o) < closedN o := by
  have M := spread_done (mines := mines) (marks := 0) (o := o) (fun c hc => (hl c hc).1) hlen
  obtain ⟨c, hc⟩ := List.exists_mem_of_ne_nil l hn
  have h0 := hl c hc
  have h1 : has (spread mines 0 1000 l o) c = true := (M.done c).2 (.inr (.start hc h0.2 (by unfold has; simp)))
  have q := filter_len_lt (p := fun c => !has o c) (q := fun c => !has (spread mines 0 1000 l o) c) (List.range 60) c (List.mem_range.2 h0.1) (by simp [h0.2]) (by simp [h1]) fun y _ hy => by
    cases e : has o y with
    | false => rfl
    | true => have := M.sub y e; simp [this] at hy
  unfold closedN
  omega

theorem rounds_go {mines k n o : Nat} : rounds mines (k + 1) n o = if cleared mines o = true then some n else if safe (seenOf mines o) (size mines) = [] then none else rounds mines k (n + 1) (spread mines 0 1000 (safe (seenOf mines o) (size mines)) o) := by
  conv => lhs; unfold rounds
  split
  · rfl
  · split
    · rename_i h; rw [if_pos h]
    · rename_i h
      rw [if_neg (by intro e; exact h e)]

/-- more fuel than shut squares is as good as any -/
theorem rounds_fuel {mines : Nat} : ∀ (k k' n o : Nat), closedN o < k → closedN o < k' → rounds mines k n o = rounds mines k' n o
  | 0, _, _, _, h, _ => by omega
  | _, 0, _, _, _, h => by omega
  | k + 1, k' + 1, n, o, h, h' => by
    rw [rounds_go, rounds_go]
    split
    · rfl
    · split
      · rfl
      · rename_i hn
        have hl : (safe (seenOf mines o) (size mines)).length ≤ 500 := by
          unfold safe unknown
          refine Nat.le_trans (List.length_filter_le _ _) (Nat.le_trans (List.length_filter_le _ _) ?_)
          rw [List.length_range]; decide
        have q := spread_more (mines := mines) (o := o) (fun c hc => safe_closed hc) hn hl
        exact rounds_fuel k k' (n + 1) _ (by omega) (by omega)
end SM
end
section
set_option linter.all false
namespace SM
open Kg33

theorem find_min {l p q : List Nat} {b : Nat} {f : Nat → Nat} (h : l = p ++ b :: q) (h1 : ∀ d ∈ l, f b ≤ f d) (h2 : ∀ d ∈ p, f b < f d) : l.find? (fun c => l.all fun d => decide (f c ≤ f d)) = some b := by
  have hp : ∀ (l' : List Nat), l' = l → (p ++ b :: q).find? (fun c => l'.all fun d => decide (f c ≤ f d)) = some b := by
    intro l' hl
    rw [List.find?_append]
    have e : p.find? (fun c => l'.all fun d => decide (f c ≤ f d)) = none := by
      rw [List.find?_eq_none]
      intro d hd hall
      rw [List.all_eq_true] at hall
      have := of_decide_eq_true (hall b (by rw [hl, h]; simp))
      have := h2 d hd
      omega
    rw [e]
    have e2 : (l'.all fun d => decide (f b ≤ f d)) = true := by
      rw [List.all_eq_true]
      intro d hd
      rw [hl] at hd
      exact decide_eq_true (h1 d hd)
    rw [List.find?_cons, e2]; rfl
  have := hp l rfl
  rw [← h] at this
  exact this

theorem has_foldl : ∀ (l : List Nat) (s c : Nat), has (l.foldl with_ s) c = (has s c || decide (c ∈ l))
  | [], s, c => by simp
  | a :: l, s, c => by
    rw [List.foldl_cons, has_foldl l, has_with]
    by_cases h : c = a
    · subst h; simp
    · have hb : (c == a) = false := by simpa using h
      rw [hb, Bool.or_false]; simp [h]
theorem has_zero (c : Nat) : has 0 c = false := by unfold has; simp
theorem has_setOf (l : List Nat) (c : Nat) : has (setOf l) c = decide (c ∈ l) := by
  unfold setOf; rw [has_foldl, has_zero, Bool.false_or]
theorem setOf_lt {l : List Nat} (h : ∀ c ∈ l, c < 60) : setOf l < 2 ^ 60 := by
  apply lt_pow_of
  intro c hc
  rw [has_setOf] at hc
  exact h c (of_decide_eq_true hc)
/-- a set built square by square is the set -/
theorem setOf_eq {l : List Nat} {n : Nat} (h : ∀ c, has n c = decide (c ∈ l)) : setOf l = n := by
  apply has_eq
  intro c
  rw [has_setOf, h]
theorem setOf_snoc (l : List Nat) (c : Nat) : setOf (l ++ [c]) = with_ (setOf l) c := by
  unfold setOf; rw [List.foldl_append]; rfl
end SM
end
section
set_option linter.all false
namespace SM
open Kg33 (has with_ near)

structure GameOk (g : Kg33.Game) : Prop where
  m : g.mines < 2 ^ 60
  o : g.open_ < 2 ^ 60
  k : g.marks < 2 ^ 60

def refusal (g : Kg33.Game) (c : Int) : Int := if Kg33.onBoard c = false then -8 else if g.over ≠ 0 then -9 else 0

/-- what opening squares that are no mines makes of a game -/
def safeRes (g : Kg33.Game) (cs : List Nat) : Kg33.Game :=
  { g with open_ := Kg33.spread g.mines g.marks 1000 cs g.open_, over := if Kg33.size g.open_ < Kg33.size (Kg33.spread g.mines g.marks 1000 cs g.open_) ∧ Kg33.cleared g.mines (Kg33.spread g.mines g.marks 1000 cs g.open_) = true then 1 else g.over }
theorem has_or (a b c : Nat) : has (a ||| b) c = (has a c || has b c) := by unfold Kg33.has; rw [Nat.testBit_or]
theorem onB {c : Int} : Kg33.onBoard c = (decide (0 ≤ c) && decide (c < 60)) := rfl

theorem memF {p : Nat → Bool} {l : List Nat} {a : Nat} (h : a ∈ l.filter p) : a ∈ l := (List.mem_filter.1 h).1
theorem size_mono {o o' : Nat} (h : ∀ c, has o c = true → has o' c = true) : Kg33.size o ≤ Kg33.size o' := by
  unfold Kg33.size
  have : ∀ l : List Nat, (l.filter (has o)).length ≤ (l.filter (has o')).length := by
    intro l
    induction l with
    | nil => exact Nat.le_refl _
    | cons a l ih =>
      cases e : has o a with
      | true => rw [List.filter_cons_of_pos e, List.filter_cons_of_pos (h a e)]; simp; exact ih
      | false =>
        rw [List.filter_cons_of_neg (by simp [e])]
        cases e' : has o' a with
        | true => rw [List.filter_cons_of_pos e']; simp; omega
        | false => rw [List.filter_cons_of_neg (by simp [e'])]; exact ih
  exact this _
theorem last_get {cs : List Nat} {n : Nat} (h : cs.length = n + 1) : ∃ ws c, cs = ws ++ [c] := by
  cases cs with
  | nil => simp at h
  | cons a l => exact ⟨_, _, (List.dropLast_concat_getLast (l := a :: l) (by simp)).symm⟩

/-! ### what the specification says, way by way -/
theorem refused {g : Kg33.Game} {c : Int} (h : refusal g c < 0) : (Kg33.onBoard c = false ∧ refusal g c = -8) ∨ (Kg33.onBoard c = true ∧ g.over ≠ 0 ∧ refusal g c = -9) := by
  unfold refusal at h ⊢
  cases e : Kg33.onBoard c with
  | false => exact .inl ⟨rfl, by simp⟩
  | true =>
    rw [e] at h
    by_cases e2 : g.over ≠ 0
    · exact .inr ⟨rfl, e2, by simp [e2]⟩
    · simp [e2] at h
theorem allowed {g : Kg33.Game} {c : Int} (h : ¬ refusal g c < 0) : Kg33.onBoard c = true ∧ g.over = 0 ∧ ∃ n : Nat, c = (n : Int) ∧ n < 60 := by
  unfold refusal at h
  cases e : Kg33.onBoard c with
  | false => rw [e] at h; simp at h
  | true =>
    rw [e] at h
    by_cases e2 : g.over ≠ 0
    · simp [e2] at h
    · rw [onB] at e
      simp at e
      exact ⟨rfl, by simpa using e2, c.toNat, by omega, by omega⟩
theorem does_refused {g : Kg33.Game} {c : Int} (h : refusal g c < 0) : Kg33.does g (.open_ c) = (g, Kg33.num (refusal g c)) ∧ Kg33.does g (.mark c) = (g, Kg33.num (refusal g c)) ∧ Kg33.does g (.about c) = (g, Kg33.num (refusal g c)) := by
  rcases refused h with ⟨h1, h2⟩ | ⟨h1, h2, h3⟩
  · rw [h2]; simp [Kg33.does, h1]
  · rw [h3]; simp [Kg33.does, h1, h2]
theorem does_open {g : Kg33.Game} {c : Nat} (h1 : Kg33.onBoard (c : Int) = true) (h2 : g.over = 0) : Kg33.does g (.open_ (c : Int)) = (g.opens [c], Kg33.num (if (g.opens [c]).over = 2 then -1 else (Kg33.size (g.opens [c]).open_ : Int) - Kg33.size g.open_)) := by
  simp [Kg33.does, h1, h2]
theorem does_mark {g : Kg33.Game} {c : Nat} (h1 : Kg33.onBoard (c : Int) = true) (h2 : g.over = 0) : Kg33.does g (.mark (c : Int)) = if has g.open_ c = true then (g, Kg33.num (-2)) else if has g.marks c = true then ({ g with marks := g.marks - 2 ^ c }, Kg33.num 0) else ({ g with marks := g.marks + 2 ^ c }, Kg33.num 1) := by
  simp [Kg33.does, h1, h2]
theorem does_about {g : Kg33.Game} {c : Nat} (h1 : Kg33.onBoard (c : Int) = true) (h2 : g.over = 0) : Kg33.does g (.about (c : Int)) = if has g.open_ c = false ∨ Kg33.about g.marks c ≠ Kg33.about g.mines c then (g, Kg33.num (-2)) else (g.opens (near c), Kg33.num (if (g.opens (near c)).over = 2 then -1 else (Kg33.size (g.opens (near c)).open_ : Int) - Kg33.size g.open_)) := by
  simp [Kg33.does, h1, h2]
/-- of these squares those that are neither open nor marked -/
def shut (g : Kg33.Game) (cs : List Nat) : List Nat := cs.filter fun c => !has g.open_ c && !has g.marks c
theorem opens_none {g : Kg33.Game} {cs : List Nat} (h : shut g cs = []) : g.opens cs = g := by
  unfold Kg33.Game.opens
  unfold shut at h
  simp only [h, if_true]
theorem opens_hit {g : Kg33.Game} {cs : List Nat} {c : Nat} (h : (shut g cs).find? (has g.mines) = some c) : g.opens cs = { g with open_ := with_ g.open_ c, over := 2 } := by
  unfold Kg33.Game.opens
  unfold shut at h
  have hn : ¬ (cs.filter fun c => !has g.open_ c && !has g.marks c) = [] := by
    intro e; rw [e] at h; cases h
  simp only [hn, if_false, h]
theorem opens_safe {g : Kg33.Game} {cs : List Nat} (hcs : ∀ c ∈ cs, c < 60) (hl : cs.length ≤ 60) (h0 : g.over = 0) (h : (shut g cs).find? (has g.mines) = none) : g.opens cs = safeRes g (shut g cs) := by
  by_cases hn : shut g cs = []
  · rw [opens_none hn, hn]
    unfold safeRes
    have e : Kg33.spread g.mines g.marks 1000 [] g.open_ = g.open_ := rfl
    rw [e, if_neg (by omega)]
  · obtain ⟨c, hc⟩ := List.exists_mem_of_ne_nil _ hn
    have hsub : ∀ d ∈ shut g cs, d < 60 := fun d hd => hcs d (memF hd)
    have hlen : (shut g cs).length ≤ 500 := Nat.le_trans (List.length_filter_le _ _) (by omega)
    have M := spread_done (mines := g.mines) (marks := g.marks) (o := g.open_) hsub hlen
    have hc2 : has g.open_ c = false ∧ has g.marks c = false := by
      unfold shut at hc
      rw [List.mem_filter] at hc
      simpa using hc.2
    have h1 := (M.done c).2 (.inr (.start hc hc2.1 hc2.2))
    have hlt : Kg33.size g.open_ < Kg33.size (Kg33.spread g.mines g.marks 1000 (shut g cs) g.open_) := by
      have a1 := size_with (hsub c hc) hc2.1
      have a2 : Kg33.size (with_ g.open_ c) ≤ Kg33.size (Kg33.spread g.mines g.marks 1000 (shut g cs) g.open_) := size_mono fun d hd => by
        rw [has_with, Bool.or_eq_true] at hd
        rcases hd with hd | hd
        · exact M.sub d hd
        · have : d = c := by simpa using hd
          rw [this]; exact h1
      omega
    unfold Kg33.Game.opens safeRes
    unfold shut at hn h hlt
    unfold shut
    simp only [hn, if_false, h, hlt, true_and, h0]
theorem safeRes_over {g : Kg33.Game} {cs : List Nat} (h0 : g.over = 0) : (safeRes g cs).over ≠ 2 := by
  unfold safeRes
  show (if _ then 1 else g.over) ≠ 2
  split <;> omega
theorem find_filter {p : Nat → Bool} : ∀ (l : List Nat), l.find? p = (l.filter p).head?
  | [] => rfl
  | a :: l => by
    rw [List.find?_cons, List.filter_cons]
    cases p a with
    | true => rfl
    | false => simpa using find_filter l

theorem opens_ok {g : Kg33.Game} (hg : GameOk g) (cs : List Nat) (hcs : ∀ c ∈ cs, c < 60) (hl : cs.length ≤ 60) (h0 : g.over = 0) : GameOk (g.opens cs) := by
  cases e : (shut g cs).find? (has g.mines) with
  | some c =>
    rw [opens_hit e]
    have hc : c < 60 := hcs c (memF (List.mem_of_find?_eq_some e))
    exact ⟨hg.m, with_lt hg.o hc, hg.k⟩
  | none =>
    rw [opens_safe hcs hl h0 e]
    refine ⟨hg.m, ?_, hg.k⟩
    have hsub : ∀ d ∈ shut g cs, d < 60 := fun d hd => hcs d (memF hd)
    have M := spread_done (mines := g.mines) (marks := g.marks) (o := g.open_) hsub (Nat.le_trans (List.length_filter_le _ _) (by omega))
    apply lt_pow_of
    intro d hd
    rcases (M.done d).1 hd with h | h
    · exact lt60 hg.o h
    · cases h with
      | start h1 _ _ => exact hsub d h1
      | step _ _ h3 _ _ => exact near_lt h3
theorem near_nodup_len (c : Nat) : (near c).length ≤ 60 := by
  unfold Kg33.near
  refine Nat.le_trans (List.length_filter_le _ _) ?_
  rw [List.length_range]; exact Nat.le_refl _
/-- a game stays one, whatever is called -/
theorem does_ok {g : Kg33.Game} (hg : GameOk g) (x : Kg33.Call) : GameOk (Kg33.does g x).1 := by
  cases x with
  | begin_ m =>
    by_cases hm : 2 ^ 60 ≤ m
    · have e : Kg33.does g (.begin_ m) = (g, Kg33.num (-8)) := by unfold Kg33.does; exact if_pos hm
      rw [e]; exact hg
    · have e : Kg33.does g (.begin_ m) = (Kg33.begin_ m, Kg33.num (Kg33.size m)) := by unfold Kg33.does; exact if_neg hm
      rw [e]
      exact ⟨by show m < _; omega, by show 0 < _; decide, by show 0 < _; decide⟩
  | open_ c =>
    by_cases h : refusal g c < 0
    · rw [(does_refused h).1]; exact hg
    · obtain ⟨h1, h2, n, rfl, hn⟩ := allowed h
      rw [does_open h1 h2]
      exact opens_ok hg [n] (by simpa using hn) (by simp) h2
  | mark c =>
    by_cases h : refusal g c < 0
    · rw [(does_refused h).2.1]; exact hg
    · obtain ⟨h1, h2, n, rfl, hn⟩ := allowed h
      rw [does_mark h1 h2]
      split
      · exact hg
      · split
        · exact ⟨hg.m, hg.o, Nat.lt_of_le_of_lt (Nat.sub_le _ _) hg.k⟩
        · rename_i h4
          refine ⟨hg.m, hg.o, ?_⟩
          have e : g.marks + 2 ^ n = with_ g.marks n := by unfold Kg33.with_; rw [if_neg h4]
          show g.marks + 2 ^ n < _
          rw [e]; exact with_lt hg.k hn
  | about c =>
    by_cases h : refusal g c < 0
    · rw [(does_refused h).2.2]; exact hg
    · obtain ⟨h1, h2, n, rfl, hn⟩ := allowed h
      rw [does_about h1 h2]
      split
      · exact hg
      · exact opens_ok hg (near n) (fun c hc => near_lt hc) (near_nodup_len n) h2
  | tell => exact hg
  | count s m => exact hg
  | each s m => exact hg
  | certain s m => exact hg
  | best s m => exact hg
  | solved m c => exact hg

end SM
end
section
set_option linter.all false
namespace SM
open Kg33Neutral (asked1 natural whole seen step)

/-- one call ahead of a list of numbers: its numbers, the call, the numbers behind it -/
inductive One : List Int → List (List Int) → List Int → Prop where
  | mv {p z : Int} {t} : p = 0 ∧ natural z = true ∨ (p = 1 ∨ p = 2 ∨ p = 3) ∧ whole z = true → One (p :: z :: t) [[p, z]] t
  | tell {t} : One (4 :: t) [[4]] t
  | look {p m : Int} {s t : List Int} : p = 5 ∨ p = 6 ∨ p = 7 ∨ p = 8 → whole m = true → seen s = true → One (p :: m :: 60 :: (s ++ t)) [[p, m], s] t
  | solved {m c : Int} {t} : natural m = true → whole c = true → One (9 :: m :: c :: t) [[9, m, c]] t

theorem shape_some {p : Int} {n k : Nat} (h : PyKg33.shape p = some (n, k)) :
    ((p = 0 ∨ p = 1 ∨ p = 2 ∨ p = 3) ∧ n = 1 ∧ k = 0) ∨ (p = 4 ∧ n = 0 ∧ k = 0) ∨ ((p = 5 ∨ p = 6 ∨ p = 7 ∨ p = 8) ∧ n = 1 ∧ k = 1) ∨ (p = 9 ∧ n = 2 ∧ k = 0) := by
  unfold PyKg33.shape at h
  repeat' split at h
  all_goals first | (cases h; done) | (cases h; simp_all; done)

theorem one_of {x : Int} {r t : List Int} {c : List (List Int)} (h : PyFlat.call PyKg33.shape (x :: r) = some (c, t)) (ha : asked1 (PyKg33.whole c) = true) : PyKg33.whole c = c ∧ One (x :: r) c t := by
  simp only [PyFlat.call] at h
  split at h
  · cases h
  · rename_i n k hs
    split at h
    · cases h
    · rename_i hl
      rcases shape_some hs with ⟨hp, rfl, rfl⟩ | ⟨rfl, rfl, rfl⟩ | ⟨hp, rfl, rfl⟩ | ⟨rfl, rfl, rfl⟩
      · simp only [PyFlat.rows] at h
        match r, hl with
        | [], hl => simp at hl
        | z :: r, hl =>
          simp at h
          obtain ⟨rfl, rfl⟩ := h
          rcases hp with rfl | rfl | rfl | rfl
          · exact ⟨rfl, .mv (.inl ⟨rfl, ha⟩)⟩
          · exact ⟨rfl, .mv (.inr ⟨.inl rfl, ha⟩)⟩
          · exact ⟨rfl, .mv (.inr ⟨.inr (.inl rfl), ha⟩)⟩
          · exact ⟨rfl, .mv (.inr ⟨.inr (.inr rfl), ha⟩)⟩
      · simp only [PyFlat.rows] at h
        simp at h
        obtain ⟨rfl, rfl⟩ := h
        exact ⟨rfl, .tell⟩
      · match r, hl with
        | [], hl => simp at hl
        | [z], hl => simp [PyFlat.rows, PyFlat.row] at h
        | z :: q :: r, hl =>
          simp only [PyFlat.rows, PyFlat.row, List.drop_succ_cons, List.drop_zero] at h
          by_cases hq : 0 ≤ q ∧ q.toNat ≤ r.length
          · simp [hq] at h
            obtain ⟨rfl, rfl⟩ := h
            have key : ∀ (s : List Int), seen s = true → s = r.take q.toNat → q = 60 := by
              intro s hs e
              unfold Kg33Neutral.seen at hs
              rw [Bool.and_eq_true] at hs
              have := hs.1
              rw [e] at this
              simp at this
              omega
            have fin : whole z = true → seen (r.take q.toNat) = true → (x = 5 ∨ x = 6 ∨ x = 7 ∨ x = 8) → One (x :: z :: q :: r) [[x, z], r.take q.toNat] (r.drop q.toNat) := by
              intro h1 h2 h3
              have e := key _ h2 rfl
              subst e
              have := One.look (t := r.drop 60) h3 h1 h2
              simpa using this
            rcases hp with rfl | rfl | rfl | rfl
            all_goals
              refine ⟨rfl, ?_⟩
              have ha' : (whole z && seen (r.take q.toNat)) = true := ha
              rw [Bool.and_eq_true] at ha'
              exact fin ha'.1 ha'.2 (by simp)
          · rw [if_neg hq] at h; cases h
      · simp only [PyFlat.rows] at h
        match r, hl with
        | [], hl => simp at hl
        | [z], hl => simp at hl
        | z :: q :: r, hl =>
          simp at h
          obtain ⟨rfl, rfl⟩ := h
          have ha' : (natural z && whole q) = true := ha
          rw [Bool.and_eq_true] at ha'
          exact ⟨rfl, .solved ha'.1 ha'.2⟩

/-- calls one behind another -/
inductive Many : List Int → List (List (List Int)) → Prop where
  | nil : Many [] []
  | cons {l c t cs} : One l c t → Many t cs → Many l (c :: cs)

theorem many_of : ∀ (f : Nat) (l : List Int) (cs : List (List (List Int))), PyFlat.calls PyKg33.shape f l = some cs → (cs.map PyKg33.whole).all asked1 = true → cs.map PyKg33.whole = cs ∧ Many l cs
  | f, [], cs, h, _ => by
    unfold PyFlat.calls at h
    cases h; exact ⟨rfl, .nil⟩
  | 0, _ :: _, cs, h, _ => by
    unfold PyFlat.calls at h; cases h
  | f + 1, p :: r, cs, h, ha => by
    unfold PyFlat.calls at h
    split at h
    · cases h
    · rename_i c t hc
      split at h
      · cases h
      · rename_i cs' hcs
        cases h
        rw [List.map_cons, List.all_cons, Bool.and_eq_true] at ha
        obtain ⟨e1, o⟩ := one_of hc ha.1
        obtain ⟨e2, m⟩ := many_of f t cs' hcs ha.2
        exact ⟨by rw [List.map_cons, e1, e2], .cons o m⟩

/-- what is asked, read off: the calls, at most 400, and what is due -/
theorem asked_of {l : List Int} (h : PyKg33.answers_asked l = true) : ∃ cs, Many l cs ∧ cs.length ≤ 400 ∧ PyKg33.answers l = PyFlat.told (PyFlat.played step Kg33Neutral.start cs) := by
  unfold PyKg33.answers_asked at h
  split at h
  · cases h
  · rename_i cs hc
    have hc0 := hc
    unfold PyKg33.calls at hc
    split at hc
    · cases hc
    · rename_i cs' hc'
      cases hc
      rw [Bool.and_eq_true] at h
      have h2 := h.2
      unfold Kg33Neutral.asked at h2
      rw [Bool.and_eq_true, Bool.and_eq_true] at h2
      obtain ⟨e, m⟩ := many_of _ _ _ hc' h2.2.2
      refine ⟨cs', m, ?_, ?_⟩
      · have := of_decide_eq_true h2.2.1
        simpa using this
      · unfold PyKg33.answers
        rw [hc0, e]

theorem told_cons {S : Type} (st : S → List (List Int) → S × List Int) (s : S) (c : List (List Int)) (cs : List (List (List Int))) :
    PyFlat.told (PyFlat.played st s (c :: cs)) = (((st s c).2.length : Int) :: (st s c).2) ++ PyFlat.told (PyFlat.played st (st s c).1 cs) := rfl
end SM
end
section
set_option linter.all false
namespace SM
open Kg33

/-! numbers of several fields of ten bits -/
def pk (f : Nat → Nat) : List Nat → Nat
  | [] => 0
  | q :: l => f q + 1024 * pk f l
theorem pk_lt {f : Nat → Nat} : ∀ {l : List Nat}, (∀ q ∈ l, f q < 1024) → pk f l < 2 ^ (10 * l.length)
  | [], _ => by simp [pk]
  | q :: l, h => by
    have h1 := h q (by simp)
    have h2 := pk_lt (f := f) (l := l) fun x hx => h x (by simp [hx])
    have e : 2 ^ (10 * (q :: l).length) = 1024 * 2 ^ (10 * l.length) := by
      rw [List.length_cons, show 10 * (l.length + 1) = 10 + 10 * l.length by omega, Nat.pow_add]
    rw [e, pk]; omega
theorem pk_snoc {f : Nat → Nat} {q : Nat} : ∀ {l : List Nat}, pk f (l ++ [q]) = pk f l + f q * 2 ^ (10 * l.length)
  | [] => by simp [pk]
  | a :: l => by
    rw [List.cons_append, pk, pk_snoc (l := l), pk]
    have e : 2 ^ (10 * (a :: l).length) = 1024 * 2 ^ (10 * l.length) := by
      rw [List.length_cons, show 10 * (l.length + 1) = 10 + 10 * l.length by omega, Nat.pow_add]
    rw [e, Nat.mul_add, Nat.mul_left_comm]; omega
theorem pk_congr {f g : Nat → Nat} : ∀ {l : List Nat}, (∀ q ∈ l, f q = g q) → pk f l = pk g l
  | [], _ => rfl
  | q :: l, h => by rw [pk, pk, h q (by simp), pk_congr (l := l) fun x hx => h x (by simp [hx])]
theorem pk_sub {f g : Nat → Nat} : ∀ {l : List Nat}, (∀ q ∈ l, g q ≤ f q) → pk f l - pk g l = pk (fun q => f q - g q) l ∧ pk g l ≤ pk f l
  | [], _ => ⟨rfl, Nat.le_refl _⟩
  | q :: l, h => by
    have h1 := h q (by simp)
    obtain ⟨h2, h3⟩ := pk_sub (f := f) (g := g) (l := l) fun x hx => h x (by simp [hx])
    rw [pk, pk, pk, ← h2]
    omega
theorem and_split {a b c d : Nat} (ha : a < 1024) (hc : c < 1024) : (a + 1024 * b) &&& (c + 1024 * d) = (a &&& c) + 1024 * (b &&& d) := by
  have e : ∀ x y : Nat, x + 1024 * y = 2 ^ 10 * y + x := by intro x y; omega
  rw [e, e, e]
  have hac : a &&& c < 2 ^ 10 := Nat.and_lt_two_pow _ hc
  apply Nat.eq_of_testBit_eq
  intro i
  rw [Nat.testBit_and, Nat.testBit_two_pow_mul_add _ ha, Nat.testBit_two_pow_mul_add _ hc, Nat.testBit_two_pow_mul_add _ hac]
  split
  · rw [Nat.testBit_and]
  · rw [Nat.testBit_and]
theorem pk_and {f g : Nat → Nat} : ∀ {l : List Nat}, (∀ q ∈ l, f q < 1024) → (∀ q ∈ l, g q < 1024) → ((pk f l &&& pk g l = pk g l) ↔ ∀ q ∈ l, f q &&& g q = g q)
  | [], _, _ => by simp [pk]
  | q :: l, hf, hg => by
    have h1 := hf q (by simp)
    have h2 := hg q (by simp)
    have ih := pk_and (f := f) (g := g) (l := l) (fun x hx => hf x (by simp [hx])) (fun x hx => hg x (by simp [hx]))
    have hl : f q &&& g q < 1024 := Nat.and_lt_two_pow (n := 10) _ h2
    rw [pk, pk, and_split h1 h2]
    constructor
    · intro e x hx
      have e1 : f q &&& g q = g q := by omega
      have e2 : pk f l &&& pk g l = pk g l := by omega
      rcases List.mem_cons.1 hx with rfl | hx
      · exact e1
      · exact ih.1 e2 x hx
    · intro e
      rw [e q (by simp), ih.2 fun x hx => e x (by simp [hx])]
theorem pk_zero {f : Nat → Nat} {l : List Nat} (h : ∀ q ∈ l, f q = 0) : pk f l = 0 := by
  induction l with
  | nil => rfl
  | cons a l ih => rw [pk, h a (by simp), ih fun x hx => h x (by simp [hx])]
theorem pk_pos {f : Nat → Nat} {l : List Nat} {q : Nat} (hq : q ∈ l) (h : f q ≠ 0) : pk f l ≠ 0 := by
  induction l with
  | nil => cases hq
  | cons a l ih =>
    rw [pk]
    rcases List.mem_cons.1 hq with rfl | hq
    · omega
    · have := ih hq; omega
theorem or_add {x v n : Nat} (h : x < 2 ^ n) : x ||| (v * 2 ^ n) = x + v * 2 ^ n := by
  have := Nat.two_pow_add_eq_or_of_lt h v
  rw [Nat.mul_comm v, Nat.or_comm, ← this]; omega

/-- what is left of a number's two fields when a mine, or none, is taken -/
theorem field_mine : ∀ A, A < 9 → ∀ E, E < 9 → (((16 + A + 32 * (16 + E) - 1) &&& 528 = 528) ↔ 1 ≤ A) := by decide +kernel
theorem field_empty : ∀ A, A < 9 → ∀ E, E < 9 → (((16 + A + 32 * (16 + E) - 32) &&& 528 = 528) ↔ 1 ≤ E) := by decide +kernel
end SM
end
section
set_option linter.all false
namespace SM
open Kg33

/-! ### tables of numbers -/
abbrev Tab := List (Nat × Nat)
def lk (l : Tab) (y : Nat) : Option Nat := (l.find? fun p => decide (p.1 = y)).map (·.2)
def put (l : Tab) (y r : Nat) : Tab := if (l.any fun p => decide (p.1 = y)) = true then l.map (fun p => if p.1 = y then (p.1, r) else p) else l ++ [(y, r)]
def val (l : Tab) (y : Nat) : Nat := (lk l y).getD 0
def add (l : Tab) (y r : Nat) : Tab := put l y (val l y + r)
def keys (l : Tab) : List Nat := l.map (·.1)
theorem lk_cons (p : Nat × Nat) (l : Tab) (y : Nat) : lk (p :: l) y = if p.1 = y then some p.2 else lk l y := by
  unfold lk
  rw [List.find?_cons]
  by_cases h : p.1 = y <;> simp [h]
theorem lk_none {l : Tab} {y : Nat} : lk l y = none ↔ y ∉ keys l := by
  induction l with
  | nil => simp [lk, keys]
  | cons p l ih =>
    rw [lk_cons]
    unfold keys at ih ⊢
    rw [List.map_cons, List.mem_cons]
    by_cases h : p.1 = y
    · rw [if_pos h]
      constructor
      · intro e; cases e
      · intro e; exact absurd (Or.inl h.symm) e
    · rw [if_neg h, ih]
      constructor
      · rintro e (e1 | e1)
        · exact h e1.symm
        · exact e e1
      · intro e e1; exact e (Or.inr e1)
theorem lk_app (l m : Tab) (y : Nat) : lk (l ++ m) y = (lk l y).or (lk m y) := by
  induction l with
  | nil => simp [lk]
  | cons p l ih =>
    rw [List.cons_append, lk_cons, lk_cons, ih]
    by_cases h : p.1 = y <;> simp [h]
theorem lk_rep (l : Tab) (y r z : Nat) : lk (l.map fun p => if p.1 = y then (p.1, r) else p) z = if z = y then (lk l y).map (fun _ => r) else lk l z := by
  induction l with
  | nil => simp [lk]
  | cons p l ih =>
    rw [List.map_cons, lk_cons, lk_cons, lk_cons, ih]
    by_cases h : p.1 = y
    · by_cases hz : z = y
      · subst hz; simp [h]
      · have : ¬ p.1 = z := by intro e; exact hz (e.symm.trans h)
        have h3 : ¬ y = z := fun e => hz e.symm
        simp [h, hz, this, h3]
    · by_cases hz : z = y
      · subst hz; simp [h]
      · simp [h, hz]
theorem any_key {l : Tab} {y : Nat} : (l.any fun p => decide (p.1 = y)) = true ↔ y ∈ keys l := by
  unfold keys
  rw [List.any_eq_true, List.mem_map]
  constructor
  · rintro ⟨p, hp, e⟩; exact ⟨p, hp, of_decide_eq_true e⟩
  · rintro ⟨p, hp, e⟩; exact ⟨p, hp, decide_eq_true e⟩
theorem lk_put (l : Tab) (y r z : Nat) : lk (put l y r) z = if z = y then some r else lk l z := by
  unfold put
  split
  · rename_i h
    rw [lk_rep]
    rw [any_key] at h
    split
    · cases e : lk l y with
      | none => exact absurd h (lk_none.1 e)
      | some _ => rfl
    · rfl
  · rename_i h
    rw [any_key, ← lk_none] at h
    rw [lk_app, lk_cons]
    by_cases hz : z = y
    · subst hz; simp [h]
    · have : ¬ y = z := fun e => hz e.symm
      have e0 : lk [] z = none := rfl
      simp [hz, this, e0]
theorem keys_put (l : Tab) (y r : Nat) : keys (put l y r) = if y ∈ keys l then keys l else keys l ++ [y] := by
  unfold put
  by_cases h : y ∈ keys l
  · rw [if_pos (any_key.2 h), if_pos h]
    unfold keys
    rw [List.map_map]
    apply List.map_congr_left
    intro p _
    show (if p.1 = y then (p.1, r) else p).1 = p.1
    split <;> rfl
  · rw [if_neg (fun e => h (any_key.1 e)), if_neg h]
    unfold keys
    rw [List.map_append]; rfl
theorem mem_keys_put {l : Tab} {y r z : Nat} : z ∈ keys (put l y r) ↔ z ∈ keys l ∨ z = y := by
  rw [keys_put]
  split
  · rename_i h
    constructor
    · exact Or.inl
    · rintro (e | rfl)
      · exact e
      · exact h
  · simp
theorem nodup_put {l : Tab} {y r : Nat} (h : (keys l).Nodup) : (keys (put l y r)).Nodup := by
  rw [keys_put]
  split
  · exact h
  · rename_i hy
    rw [List.nodup_append]
    refine ⟨h, by simp, ?_⟩
    intro a ha b hb
    have : b = y := by simpa using hb
    subst this
    intro e; subst e; exact hy ha
theorem val_put (l : Tab) (y r z : Nat) : val (put l y r) z = if z = y then r else val l z := by
  unfold val
  rw [lk_put]
  split <;> rfl
theorem val_add (l : Tab) (y r z : Nat) : val (add l y r) z = val l z + if z = y then r else 0 := by
  unfold add
  rw [val_put]
  split
  · rename_i h; subst h; rfl
  · rfl
theorem val_out {l : Tab} {y : Nat} (h : y ∉ keys l) : val l y = 0 := by
  unfold val; rw [lk_none.2 h]; rfl
theorem val_mem {l : Tab} (hn : (keys l).Nodup) {p : Nat × Nat} (hp : p ∈ l) : val l p.1 = p.2 ∧ lk l p.1 = some p.2 := by
  have : lk l p.1 = some p.2 := by
    induction l with
    | nil => cases hp
    | cons q l ih =>
      rw [lk_cons]
      unfold keys at hn
      rw [List.map_cons, List.nodup_cons] at hn
      rcases List.mem_cons.1 hp with rfl | hp
      · simp
      · have : ¬ q.1 = p.1 := by
          intro e; apply hn.1; rw [e]; exact List.mem_map_of_mem hp
        rw [if_neg this]
        exact ih hn.2 hp
  exact ⟨by unfold val; rw [this]; rfl, this⟩
/-- of distinct keys at most one is it -/
theorem sumL_key {l : Tab} (hn : (keys l).Nodup) (x : Nat) (F : Nat → Nat → Nat) : sumL l (fun p => if p.1 = x then F p.1 p.2 else 0) = if x ∈ keys l then F x (val l x) else 0 := by
  induction l with
  | nil => rfl
  | cons q l ih =>
    have hn' := hn
    unfold keys at hn'
    rw [List.map_cons, List.nodup_cons] at hn'
    rw [sumL_cons, ih hn'.2]
    have hv : val (q :: l) x = if q.1 = x then q.2 else val l x := by
      unfold val; rw [lk_cons]; split <;> rfl
    by_cases h : q.1 = x
    · subst h
      have h1 : q.1 ∉ keys l := hn'.1
      have h2 : q.1 ∈ keys (q :: l) := by unfold keys; simp
      rw [if_pos rfl, if_neg h1, if_pos h2, hv, if_pos rfl, Nat.add_zero]
    · rw [if_neg h, hv, if_neg h, Nat.zero_add]
      have : x ∈ keys (q :: l) ↔ x ∈ keys l := by
        unfold keys; rw [List.map_cons, List.mem_cons]
        constructor
        · rintro (e | e)
          · exact absurd e.symm h
          · exact e
        · exact Or.inr
      by_cases hx : x ∈ keys l
      · rw [if_pos hx, if_pos (this.2 hx)]
      · rw [if_neg hx, if_neg (fun e => hx (this.1 e))]

/-! ### square by square -/
section
variable (t : Nat → Bool → Nat) (g : Nat → Nat) (W : Nat)
def nxt (k : Nat) (b : Bool) (x : Nat) : Option Nat := if (x - t k b) &&& g k = g k then some (x - t k b) else none
def run : Nat → Nat → List Bool → Option Nat
  | _, x, [] => some x
  | k, x, b :: r => (nxt t g k b x).bind fun y => run (k + 1) y r
theorem run_app : ∀ (u r : List Bool) (k x : Nat), run t g k x (u ++ r) = (run t g k x u).bind fun y => run t g (k + u.length) y r
  | [], r, k, x => rfl
  | b :: u, r, k, x => by
    rw [List.cons_append, run, run]
    cases e : nxt t g k b x with
    | none => rfl
    | some y =>
      show run t g (k + 1) y (u ++ r) = _
      rw [run_app u r (k + 1) y, List.length_cons, show k + 1 + u.length = k + (u.length + 1) by omega]; rfl
def runO (st : Option Nat) (u : List Bool) : Option Nat := st.bind fun x => run t g 0 x u
theorem runO_snoc (st : Option Nat) (u : List Bool) (b : Bool) : runO t g st (u ++ [b]) = (runO t g st u).bind (nxt t g u.length b) := by
  unfold runO
  cases st with
  | none => rfl
  | some x =>
    show run t g 0 x (u ++ [b]) = (run t g 0 x u).bind _
    rw [run_app]
    congr 1
    funext y
    rw [Nat.zero_add, run]
    cases nxt t g u.length b y <;> rfl
def stepL (k : Nat) (b : Tab) (p : Nat × Nat) : Tab :=
  let b1 := if (p.1 - t k true) &&& g k = g k then add b (p.1 - t k true) (p.2 * 2 ^ W) else b
  if (p.1 - t k false) &&& g k = g k then add b1 (p.1 - t k false) p.2 else b1
def layerB (k : Nat) (l : Tab) : Tab := l.foldl (stepL t g W k) []
def start0 (st : Option Nat) : Tab := match st with
  | none => []
  | some x => [(x, 1)]
def lay (st : Option Nat) : Nat → Tab
  | 0 => start0 st
  | k + 1 => layerB t g W k (lay st k)
def contrib (k : Nat) (p : Nat × Nat) (z : Nat) : Nat := (if nxt t g k true p.1 = some z then p.2 * 2 ^ W else 0) + (if nxt t g k false p.1 = some z then p.2 else 0)

theorem val_stepL (k : Nat) (b : Tab) (p : Nat × Nat) (z : Nat) : val (stepL t g W k b p) z = val b z + contrib t g W k p z := by
  unfold stepL contrib nxt
  by_cases h1 : (p.1 - t k true) &&& g k = g k <;> by_cases h2 : (p.1 - t k false) &&& g k = g k
  · simp only [h1, h2, if_true, val_add, Option.some.injEq, eq_comm (a := z)]; omega
  · simp only [h1, h2, if_true, if_false, val_add, Option.some.injEq, eq_comm (a := z)]; simp
  · simp only [h1, h2, if_true, if_false, val_add, Option.some.injEq, eq_comm (a := z)]; simp
  · simp only [h1, h2, if_false]; simp
theorem keys_stepL (k : Nat) (b : Tab) (p : Nat × Nat) (z : Nat) : z ∈ keys (stepL t g W k b p) ↔ z ∈ keys b ∨ ∃ c, nxt t g k c p.1 = some z := by
  have e : (∃ c, nxt t g k c p.1 = some z) ↔ nxt t g k true p.1 = some z ∨ nxt t g k false p.1 = some z := by
    constructor
    · rintro ⟨c, h⟩
      cases c
      · exact Or.inr h
      · exact Or.inl h
    · rintro (h | h)
      · exact ⟨_, h⟩
      · exact ⟨_, h⟩
  rw [e]
  unfold stepL nxt add
  by_cases h1 : (p.1 - t k true) &&& g k = g k <;> by_cases h2 : (p.1 - t k false) &&& g k = g k
  · simp only [h1, h2, if_true, mem_keys_put, Option.some.injEq, eq_comm (a := z), or_assoc]
  · simp only [h1, h2, if_true, if_false, mem_keys_put, Option.some.injEq, eq_comm (a := z)]; simp
  · simp only [h1, h2, if_true, if_false, mem_keys_put, Option.some.injEq, eq_comm (a := z)]; simp
  · simp only [h1, h2, if_false]; simp
theorem nodup_stepL {k : Nat} {b : Tab} {p : Nat × Nat} (h : (keys b).Nodup) : (keys (stepL t g W k b p)).Nodup := by
  unfold stepL add
  by_cases h1 : (p.1 - t k true) &&& g k = g k <;> by_cases h2 : (p.1 - t k false) &&& g k = g k
  · simp only [h1, h2, if_true]; exact nodup_put (nodup_put h)
  · simp only [h1, h2, if_true, if_false]; exact nodup_put h
  · simp only [h1, h2, if_true, if_false]; exact nodup_put h
  · simp only [h1, h2, if_false]; exact h
theorem fold_all (k : Nat) : ∀ (l b : Tab), (keys b).Nodup → (keys (l.foldl (stepL t g W k) b)).Nodup ∧
    (∀ z, val (l.foldl (stepL t g W k) b) z = val b z + sumL l fun p => contrib t g W k p z) ∧
    (∀ z, z ∈ keys (l.foldl (stepL t g W k) b) ↔ z ∈ keys b ∨ ∃ p ∈ l, ∃ c, nxt t g k c p.1 = some z)
  | [], b, hb => ⟨hb, fun z => by rw [List.foldl_nil, sumL_nil, Nat.add_zero], fun z => by simp⟩
  | p :: l, b, hb => by
    obtain ⟨h1, h2, h3⟩ := fold_all k l (stepL t g W k b p) (nodup_stepL t g W hb)
    refine ⟨h1, fun z => ?_, fun z => ?_⟩
    · rw [List.foldl_cons, h2, val_stepL, sumL_cons, Nat.add_assoc]
    · rw [List.foldl_cons, h3, keys_stepL]
      simp only [List.mem_cons, exists_eq_or_imp, or_assoc]

theorem keys_nil_not (z : Nat) : ¬ z ∈ keys ([] : Tab) := by simp [keys]
theorem lay_all (st : Option Nat) : ∀ k, (keys (lay t g W st k)).Nodup ∧ (∀ z, z ∈ keys (lay t g W st k) ↔ ∃ u ∈ fills k, runO t g st u = some z) ∧
    (∀ z, val (lay t g W st k) z = sumL (fills k) fun u => if runO t g st u = some z then 2 ^ (W * trues u) else 0)
  | 0 => by
    cases st with
    | none =>
      refine ⟨by simp [lay, start0, keys], fun z => ?_, fun z => ?_⟩
      · simp [lay, start0, keys, runO]
      · rfl
    | some x =>
      refine ⟨by simp [lay, start0, keys], fun z => ?_, fun z => ?_⟩
      · simp [lay, start0, keys, runO, fills, run, eq_comm]
      · show val [(x, 1)] z = sumL [[]] _
        rw [sumL_cons, sumL_nil]
        unfold val
        rw [lk_cons]
        show (if x = z then some 1 else lk [] z).getD 0 = (if some x = some z then 2 ^ (W * 0) else 0) + 0
        by_cases h : x = z
        · simp [h]
        · have e0 : lk [] z = none := rfl
          simp [h, e0]
  | k + 1 => by
    obtain ⟨a1, a2, a3⟩ := lay_all st k
    obtain ⟨b1, b2, b3⟩ := fold_all t g W k (lay t g W st k) [] (by simp [keys])
    refine ⟨b1, fun z => ?_, fun z => ?_⟩
    · show z ∈ keys ((lay t g W st k).foldl (stepL t g W k) []) ↔ _
      rw [b3]
      constructor
      · rintro (h | ⟨p, hp, c, h⟩)
        · exact absurd h (keys_nil_not z)
        · obtain ⟨u, hu, e⟩ := (a2 p.1).1 (List.mem_map_of_mem hp)
          have hl := fills_length k u hu
          refine ⟨u ++ [c], ?_, ?_⟩
          · have := mem_fills (u ++ [c])
            rw [List.length_append, hl] at this
            exact this
          · rw [runO_snoc, e, hl]; exact h
      · rintro ⟨v, hv, e⟩
        have hl := fills_length (k + 1) v hv
        obtain ⟨u, c, rfl⟩ : ∃ u c, v = u ++ [c] := by
          cases v with
          | nil => simp at hl
          | cons a l => exact ⟨_, _, (List.dropLast_concat_getLast (l := a :: l) (by simp)).symm⟩
        rw [runO_snoc] at e
        rw [List.length_append, List.length_singleton] at hl
        have hl : u.length = k := by omega
        cases e1 : runO t g st u with
        | none => rw [e1] at e; cases e
        | some x =>
          rw [e1, hl] at e
          have hx : x ∈ keys (lay t g W st k) := (a2 x).2 ⟨u, by rw [← hl]; exact mem_fills u, e1⟩
          unfold keys at hx
          obtain ⟨p, hp, rfl⟩ := List.mem_map.1 hx
          exact Or.inr ⟨p, hp, c, e⟩
    · show val ((lay t g W st k).foldl (stepL t g W k) []) z = _
      rw [b2, val_out (keys_nil_not z), Nat.zero_add, sumL_fills_snoc]
      have e1 : sumL (lay t g W st k) (fun p => contrib t g W k p z) = sumL (lay t g W st k) fun p => sumL (fills k) fun u => if p.1 = (runO t g st u).getD 0 then (if runO t g st u = some p.1 then contrib t g W k (p.1, 2 ^ (W * trues u)) z else 0) else 0 := by
        apply sumL_congr
        intro p hp
        have hv := (val_mem a1 hp).1
        rw [a3] at hv
        have c1 : ∀ r, contrib t g W k (p.1, r) z = r * contrib t g W k (p.1, 1) z := by
          intro r; unfold contrib
          show (if nxt t g k true p.1 = some z then r * 2 ^ W else 0) + (if nxt t g k false p.1 = some z then r else 0) = r * ((if nxt t g k true p.1 = some z then 1 * 2 ^ W else 0) + (if nxt t g k false p.1 = some z then 1 else 0))
          split <;> split <;> simp [Nat.mul_add]
        have c2 : contrib t g W k p z = contrib t g W k (p.1, p.2) z := rfl
        rw [c2, c1, ← hv, Nat.mul_comm, ← sumL_mul]
        apply sumL_congr
        intro u _
        by_cases h : runO t g st u = some p.1
        · rw [if_pos h, h, if_pos rfl, show (some p.1).getD 0 = p.1 from rfl, if_pos rfl, c1 (2 ^ (W * trues u)), Nat.mul_comm]
        · rw [if_neg h, if_neg h]; simp
      rw [e1, sumL_comm]
      apply sumL_congr
      intro u hu
      have hl := fills_length k u hu
      rw [sumL_key a1 ((runO t g st u).getD 0) (fun x _ => if runO t g st u = some x then contrib t g W k (x, 2 ^ (W * trues u)) z else 0)]
      rw [runO_snoc, runO_snoc, hl, trues_append, trues_append]
      cases e : runO t g st u with
      | none => simp
      | some x =>
        have hx : x ∈ keys (lay t g W st k) := (a2 x).2 ⟨u, hu, e⟩
        show (if x ∈ keys (lay t g W st k) then (if some x = some x then contrib t g W k (x, 2 ^ (W * trues u)) z else 0) else 0) = (if nxt t g k false x = some z then 2 ^ (W * (trues u + trues [false])) else 0) + (if nxt t g k true x = some z then 2 ^ (W * (trues u + trues [true])) else 0)
        rw [if_pos hx, if_pos rfl]
        unfold contrib
        rw [Nat.add_comm]
        congr 1
        show (if _ then 2 ^ (W * trues u) * 2 ^ W else 0) = _
        rw [← Nat.pow_add, show trues [true] = 1 from rfl, Nat.mul_add, Nat.mul_one]

/-- what leads on from each tally to the end, n squares in all -/
def onw (st : Option Nat) (n : Nat) : Nat → Tab
  | 0 => (lay t g W st n).map fun p => (p.1, 1)
  | j + 1 => (lay t g W st (n - (j + 1))).map fun p => (p.1, val (onw st n j) (p.1 - t (n - (j + 1)) true) * 2 ^ W + val (onw st n j) (p.1 - t (n - (j + 1)) false))
def rowsC (st : Option Nat) (n k : Nat) : Nat := sumL (lay t g W st k) fun p => p.2 * (val (onw t g W st n (n - (k + 1))) (p.1 - t k true) * 2 ^ W)

theorem keys_map2 (l : Tab) (f : Nat × Nat → Nat) : keys (l.map fun p => (p.1, f p)) = keys l := by
  unfold keys; rw [List.map_map]; rfl
theorem val_map2 (l : Tab) (f : Nat × Nat → Nat) (hn : (keys l).Nodup) {p : Nat × Nat} (hp : p ∈ l) : val (l.map fun p => (p.1, f p)) p.1 = f p :=
  (val_mem (l := l.map fun p => (p.1, f p)) (p := (p.1, f p)) (by rw [keys_map2]; exact hn) (List.mem_map.2 ⟨p, hp, rfl⟩)).1
theorem guard_in {st : Option Nat} {k y : Nat} (h : y ∈ keys (lay t g W st (k + 1))) : y &&& g k = g k := by
  obtain ⟨_, _, b3⟩ := fold_all t g W k (lay t g W st k) [] (by simp [keys])
  rcases (b3 y).1 h with h | ⟨p, _, c, h⟩
  · exact absurd h (keys_nil_not y)
  · unfold nxt at h
    split at h
    · rename_i hg; cases h; exact hg
    · cases h
def leads (k x j : Nat) : Nat := sumL (fills j) fun r => if (run t g k x r).isSome = true then 2 ^ (W * trues r) else 0
theorem onw_keys (st : Option Nat) (n : Nat) : ∀ j, keys (onw t g W st n j) = keys (lay t g W st (n - j))
  | 0 => keys_map2 _ fun _ => 1
  | j + 1 => keys_map2 _ _
/-- one step on: what the table behind says of it -/
theorem onw_step {st : Option Nat} {n j x : Nat} (hj : j + 1 ≤ n) (hx : x ∈ keys (lay t g W st (n - (j + 1)))) (ih : ∀ y, y ∈ keys (lay t g W st (n - j)) → val (onw t g W st n j) y = leads t g W (n - j) y j) (b : Bool) :
    val (onw t g W st n j) (x - t (n - (j + 1)) b) = sumL (fills j) fun r => if ((nxt t g (n - (j + 1)) b x).bind fun y => run t g (n - j) y r).isSome = true then 2 ^ (W * trues r) else 0 := by
  have e : n - j = n - (j + 1) + 1 := by omega
  unfold nxt
  by_cases h : (x - t (n - (j + 1)) b) &&& g (n - (j + 1)) = g (n - (j + 1))
  · have hy : x - t (n - (j + 1)) b ∈ keys (lay t g W st (n - j)) := by
      obtain ⟨_, _, b3⟩ := fold_all t g W (n - (j + 1)) (lay t g W st (n - (j + 1))) [] (by simp [keys])
      rw [e]
      unfold keys at hx
      obtain ⟨p, hp, rfl⟩ := List.mem_map.1 hx
      exact (b3 _).2 (Or.inr ⟨p, hp, b, by unfold nxt; rw [if_pos h]⟩)
    rw [ih _ hy, if_pos h]; rfl
  · have hy : x - t (n - (j + 1)) b ∉ keys (onw t g W st n j) := by
      rw [onw_keys, e]
      intro q; exact h (guard_in t g W q)
    rw [val_out hy, if_neg h]
    symm
    exact (sumL_congr fun r _ => rfl).trans (sumL_zero (fills j))
theorem onw_val (st : Option Nat) (n : Nat) : ∀ j, j ≤ n → ∀ x, x ∈ keys (lay t g W st (n - j)) → val (onw t g W st n j) x = leads t g W (n - j) x j
  | 0, _, x, hx => by
    unfold keys at hx
    obtain ⟨p, hp, rfl⟩ := List.mem_map.1 hx
    rw [onw, val_map2 _ (fun _ => 1) (lay_all t g W st n).1 hp]
    unfold leads
    show 1 = sumL [[]] _
    rw [sumL_cons, sumL_nil]
    simp [run, trues]
  | j + 1, hj, x, hx => by
    have ih := onw_val st n j (by omega)
    have s1 := onw_step t g W hj hx ih
    have hx' := hx
    unfold keys at hx'
    obtain ⟨p, hp, rfl⟩ := List.mem_map.1 hx'
    rw [onw, val_map2 _ _ (lay_all t g W st (n - (j + 1))).1 hp, s1 true, s1 false]
    unfold leads
    show _ = sumL ((fills j).map (false :: ·) ++ (fills j).map (true :: ·)) _
    rw [sumL_append, sumL_map, sumL_map, Nat.add_comm, Nat.mul_comm, ← sumL_mul]
    have e : n - j = n - (j + 1) + 1 := by omega
    congr 1
    · apply sumL_congr
      intro r _
      rw [run, e, show trues (false :: r) = trues r by simp [trues]]
    · apply sumL_congr
      intro r _
      rw [run, e, show trues (true :: r) = 1 + trues r by simp [trues]]
      split
      · rw [Nat.mul_add, Nat.mul_one, Nat.pow_add]
      · rfl

theorem getD_mid (u : List Bool) (b : Bool) (r : List Bool) : (u ++ b :: r).getD u.length false = b := by
  rw [List.getD_eq_getElem?_getD, List.getElem?_append_right (Nat.le_refl _)]; simp
theorem rowsC_eq (st : Option Nat) (n k : Nat) (hk : k < n) : rowsC t g W st n k = sumL (fills n) fun f => if (runO t g st f).isSome = true ∧ f.getD k false = true then 2 ^ (W * trues f) else 0 := by
  obtain ⟨a1, a2, a3⟩ := lay_all t g W st k
  have ej : n - (n - (k + 1)) = k + 1 := by omega
  have ej1 : n - (n - (k + 1) + 1) = k := by omega
  have key : ∀ x, x ∈ keys (lay t g W st k) → val (onw t g W st n (n - (k + 1))) (x - t k true) = sumL (fills (n - (k + 1))) fun r => if ((nxt t g k true x).bind fun y => run t g (k + 1) y r).isSome = true then 2 ^ (W * trues r) else 0 := by
    intro x hx
    have := onw_step (j := n - (k + 1)) t g W (by omega) (by rw [ej1]; exact hx) (onw_val t g W st n (n - (k + 1)) (by omega)) true
    rw [ej, ej1] at this
    exact this
  unfold rowsC
  have e0 : n = k + (1 + (n - (k + 1))) := by omega
  rw [show fills n = fills (k + (1 + (n - (k + 1)))) by rw [← e0], sumL_fills_add]
  have e1 : sumL (lay t g W st k) (fun p => p.2 * (val (onw t g W st n (n - (k + 1))) (p.1 - t k true) * 2 ^ W)) =
      sumL (lay t g W st k) fun p => sumL (fills k) fun u => if p.1 = (runO t g st u).getD 0 then (if runO t g st u = some p.1 then 2 ^ (W * trues u) * (val (onw t g W st n (n - (k + 1))) (p.1 - t k true) * 2 ^ W) else 0) else 0 := by
    apply sumL_congr
    intro p hp
    have hv := (val_mem a1 hp).1
    rw [a3] at hv
    rw [← hv, Nat.mul_comm, ← sumL_mul]
    apply sumL_congr
    intro u _
    by_cases h : runO t g st u = some p.1
    · rw [if_pos h, h, if_pos rfl, show (some p.1).getD 0 = p.1 from rfl, if_pos rfl, Nat.mul_comm]
    · rw [if_neg h, if_neg h]; simp
  rw [e1, sumL_comm]
  apply sumL_congr
  intro u hu
  have hl := fills_length k u hu
  rw [sumL_key a1 ((runO t g st u).getD 0) (fun x _ => if runO t g st u = some x then 2 ^ (W * trues u) * (val (onw t g W st n (n - (k + 1))) (x - t k true) * 2 ^ W) else 0)]
  rw [sumL_fills_add 1]
  show _ = sumL [[false], [true]] _
  rw [sumL_cons, sumL_cons, sumL_nil, Nat.add_zero]
  have z : sumL (fills (n - (k + 1))) (fun r => if (runO t g st (u ++ ([false] ++ r))).isSome = true ∧ (u ++ ([false] ++ r)).getD k false = true then 2 ^ (W * trues (u ++ ([false] ++ r))) else 0) = 0 := by
    refine (sumL_congr fun r _ => ?_).trans (sumL_zero (fills (n - (k + 1))))
    have := getD_mid u false r
    rw [hl] at this
    rw [show u ++ ([false] ++ r) = u ++ false :: r from rfl, this]; simp
  rw [z, Nat.zero_add]
  cases e : runO t g st u with
  | none =>
    symm
    rw [show (if (none : Option Nat).getD 0 ∈ keys (lay t g W st k) then (if (none : Option Nat) = some ((none : Option Nat).getD 0) then 2 ^ (W * trues u) * (val (onw t g W st n (n - (k + 1))) ((none : Option Nat).getD 0 - t k true) * 2 ^ W) else 0) else 0) = 0 by simp]
    refine (sumL_congr fun r _ => ?_).trans (sumL_zero (fills (n - (k + 1))))
    have h2 : runO t g st (u ++ ([true] ++ r)) = none := by
      unfold runO at e ⊢
      cases st with
      | none => rfl
      | some x =>
        show run t g 0 x (u ++ _) = none
        rw [run_app]
        have e : run t g 0 x u = none := e
        rw [e]; rfl
    rw [h2]; simp
  | some x =>
    have hx : x ∈ keys (lay t g W st k) := (a2 x).2 ⟨u, hu, e⟩
    show (if x ∈ keys (lay t g W st k) then (if some x = some x then 2 ^ (W * trues u) * (val (onw t g W st n (n - (k + 1))) (x - t k true) * 2 ^ W) else 0) else 0) = _
    rw [if_pos hx, if_pos rfl, key x hx, Nat.mul_comm (sumL _ _), ← sumL_mul, ← sumL_mul]
    apply sumL_congr
    intro r _
    have h1 := getD_mid u true r
    rw [hl] at h1
    have h2 : runO t g st (u ++ ([true] ++ r)) = (nxt t g k true x).bind fun y => run t g (k + 1) y r := by
      unfold runO at e ⊢
      cases st with
      | none => cases e
      | some x0 =>
        have e : run t g 0 x0 u = some x := e
        show run t g 0 x0 (u ++ ([true] ++ r)) = _
        rw [run_app, e, hl, Nat.zero_add]; rfl
    rw [h2, show u ++ ([true] ++ r) = u ++ true :: r from rfl, h1, trues_append]
    have e3 : trues (true :: r) = 1 + trues r := by simp [trues]
    rw [e3]
    by_cases h : ((nxt t g k true x).bind fun y => run t g (k + 1) y r).isSome = true
    · rw [if_pos h, if_pos ⟨h, rfl⟩, ← Nat.pow_add, ← Nat.pow_add, Nat.mul_add, Nat.mul_add, Nat.mul_one]
    · rw [if_neg h, if_neg (fun q => h q.1)]; simp
theorem sumVals (st : Option Nat) (n : Nat) : sumL (lay t g W st n) (·.2) = sumL (fills n) fun f => if (runO t g st f).isSome = true then 2 ^ (W * trues f) else 0 := by
  obtain ⟨a1, a2, a3⟩ := lay_all t g W st n
  have e1 : sumL (lay t g W st n) (·.2) = sumL (lay t g W st n) fun p => sumL (fills n) fun u => if p.1 = (runO t g st u).getD 0 then (if runO t g st u = some p.1 then 2 ^ (W * trues u) else 0) else 0 := by
    apply sumL_congr
    intro p hp
    have hv := (val_mem a1 hp).1
    rw [a3] at hv
    rw [← hv]
    apply sumL_congr
    intro u _
    by_cases h : runO t g st u = some p.1
    · simp [h]
    · simp [h]
  rw [e1, sumL_comm]
  apply sumL_congr
  intro u hu
  rw [sumL_key a1 ((runO t g st u).getD 0) (fun x _ => if runO t g st u = some x then 2 ^ (W * trues u) else 0)]
  cases e : runO t g st u with
  | none => simp
  | some x =>
    have hx : x ∈ keys (lay t g W st n) := (a2 x).2 ⟨u, hu, e⟩
    show (if x ∈ keys (lay t g W st n) then (if some x = some x then _ else 0) else 0) = _
    rw [if_pos hx, if_pos rfl]; rfl
end
end SM
end
section
set_option linter.all false
namespace SM
open Kg33

/-! ### rows: how many ways with so many mines, field by field -/
theorem field_split {W k : Nat} (P : List Bool → Bool) : ∀ (l : List (List Bool)), ∃ A C, sumL l (fun u => if P u = true then 2 ^ (W * trues u) else 0) = A + 2 ^ (W * k) * (l.countP (fun u => P u && decide (trues u = k)) + 2 ^ W * C) ∧ A * 2 ^ W ≤ l.length * 2 ^ (W * k)
  | [] => ⟨0, 0, by simp [sumL_nil], by simp⟩
  | u :: l => by
    obtain ⟨A, C, h1, h2⟩ := field_split (W := W) (k := k) P l
    rw [sumL_cons, h1, List.countP_cons, List.length_cons]
    by_cases hp : P u = true
    · rw [if_pos hp, hp]
      rcases Nat.lt_trichotomy (trues u) k with h | h | h
      · refine ⟨A + 2 ^ (W * trues u), C, ?_, ?_⟩
        · have : ¬ trues u = k := by omega
          simp [this]; omega
        · rw [Nat.add_mul, Nat.add_mul, ← Nat.pow_add]
          have : 2 ^ (W * trues u + W) ≤ 2 ^ (W * k) := Nat.pow_le_pow_right (by decide) (by
            have : W * (trues u + 1) ≤ W * k := Nat.mul_le_mul_left _ h
            rw [Nat.mul_add, Nat.mul_one] at this; exact this)
          omega
      · refine ⟨A, C, ?_, ?_⟩
        · subst h
          simp only [Bool.true_and, decide_true, if_true]
          rw [show l.countP (fun u_1 => P u_1 && decide (trues u_1 = trues u)) + 1 + 2 ^ W * C = (l.countP (fun u_1 => P u_1 && decide (trues u_1 = trues u)) + 2 ^ W * C) + 1 by omega, Nat.mul_add (2 ^ (W * trues u)) _ 1]
          omega
        · rw [Nat.add_mul]; omega
      · refine ⟨A, C + 2 ^ (W * (trues u - (k + 1))), ?_, ?_⟩
        · have : ¬ trues u = k := by omega
          have e : 2 ^ (W * trues u) = 2 ^ (W * k) * (2 ^ W * 2 ^ (W * (trues u - (k + 1)))) := by
            rw [← Nat.pow_add, ← Nat.pow_add]
            congr 1
            have : trues u = k + (1 + (trues u - (k + 1))) := by omega
            conv => lhs; rw [this]
            rw [Nat.mul_add, Nat.mul_add, Nat.mul_one]
          simp only [this, Bool.true_and, decide_false, Bool.false_eq_true, if_false, Nat.add_zero]
          rw [Nat.mul_add (2 ^ W), ← Nat.add_assoc (l.countP _), Nat.mul_add (2 ^ (W * k)) (_ + _), ← e]
          omega
        · rw [Nat.add_mul]; omega
    · refine ⟨A, C, ?_, ?_⟩
      · have : P u = false := by simpa using hp
        rw [this]; simp
      · rw [Nat.add_mul]; omega
theorem field_at {W k : Nat} {P : List Bool → Bool} {l : List (List Bool)} (hl : l.length < 2 ^ W) : (sumL l fun u => if P u = true then 2 ^ (W * trues u) else 0) / 2 ^ (k * W) % 2 ^ W = l.countP fun u => P u && decide (trues u = k) := by
  obtain ⟨A, C, h1, h2⟩ := field_split (W := W) (k := k) P l
  have hp : 0 < 2 ^ (W * k) := Nat.two_pow_pos _
  have hA : A < 2 ^ (W * k) := by
    apply Classical.byContradiction
    intro h
    have h3 : 2 ^ (W * k) * 2 ^ W ≤ A * 2 ^ W := Nat.mul_le_mul_right _ (by omega)
    have h4 : l.length * 2 ^ (W * k) < 2 ^ W * 2 ^ (W * k) := Nat.mul_lt_mul_of_pos_right hl hp
    rw [Nat.mul_comm (2 ^ (W * k))] at h3
    omega
  have hc : l.countP (fun u => P u && decide (trues u = k)) ≤ l.length := List.countP_le_length
  rw [h1, Nat.mul_comm k W, Nat.add_mul_div_left _ _ hp, Nat.div_eq_of_lt hA, Nat.zero_add, Nat.add_mul_mod_self_left, Nat.mod_eq_of_lt (by omega)]

/-! ### how many ways there are to lay so many mines -/
def choices : Nat → List Nat
  | 0 => [1]
  | a + 1 => (List.zip (choices a ++ [0]) (0 :: choices a)).map fun p => p.1 + p.2
theorem choices_len : ∀ a, (choices a).length = a + 1
  | 0 => rfl
  | a + 1 => by
    rw [choices, List.length_map, List.length_zip]
    simp [choices_len a]
theorem fills_len : ∀ k, (fills k).length = 2 ^ k
  | 0 => rfl
  | k + 1 => by rw [fills, List.length_append, List.length_map, List.length_map, fills_len k]; omega
theorem choices_get : ∀ a j, (choices a).getD j 0 = (fills a).countP fun v => decide (trues v = j)
  | 0, j => by
    cases j with
    | zero => rfl
    | succ j => simp [choices, fills, trues]
  | a + 1, j => by
    have hl := choices_len a
    rw [fills, List.countP_append, List.countP_map, List.countP_map]
    have e1 : (List.countP ((fun v => decide (trues v = j)) ∘ fun x => false :: x) (fills a)) = (choices a).getD j 0 := by
      rw [choices_get a j]; apply countP_congr'; intro v _; simp [trues]
    have e2 : (List.countP ((fun v => decide (trues v = j)) ∘ fun x => true :: x) (fills a)) = (0 :: choices a).getD j 0 := by
      cases j with
      | zero =>
        show _ = 0
        apply countP_zero
        intro v _
        show decide (trues (true :: v) = 0) = false
        rw [trues]; apply decide_eq_false; simp
      | succ j =>
        show _ = (choices a).getD j 0
        rw [choices_get a j]; apply countP_congr'; intro v _
        show decide (trues (true :: v) = j + 1) = _
        rw [trues]
        apply decide_eq_decide.2
        simp; omega
    rw [e1, e2, choices, List.getD_eq_getElem?_getD, List.getElem?_map]
    by_cases hj : j < a + 2
    · have l1 : j < (choices a ++ [0]).length := by simp [hl]; omega
      have l2 : j < (0 :: choices a).length := by simp [hl]; omega
      have z : ((choices a ++ [0]).zip (0 :: choices a))[j]? = some ((choices a ++ [0])[j], (0 :: choices a)[j]) := by
        rw [List.getElem?_eq_getElem (by rw [List.length_zip]; omega), List.getElem_zip]
      rw [z]
      show (choices a ++ [0])[j] + (0 :: choices a)[j] = _
      have g1 : (choices a ++ [0])[j] = (choices a).getD j 0 := by
        rw [List.getElem_append]
        split
        · rename_i h; simp [h]
        · rename_i h
          rw [List.getD_eq_getElem?_getD, List.getElem?_eq_none (by omega)]; simp
      have g2 : (0 :: choices a)[j] = (0 :: choices a).getD j 0 := by
        rw [List.getD_eq_getElem?_getD, List.getElem?_eq_getElem l2]; rfl
      rw [g1, g2]
    · have z : ((choices a ++ [0]).zip (0 :: choices a))[j]? = none := by
        rw [List.getElem?_eq_none]; rw [List.length_zip]; simp [hl]; omega
      rw [z]
      rw [List.getD_eq_getElem?_getD, List.getElem?_eq_none (by omega), List.getD_eq_getElem?_getD, List.getElem?_eq_none (by simp [hl]; omega)]; rfl

def filledUp (W n row : Nat) (ch : List Nat) (mines : Int) : Nat :=
  sumL (List.range (n + 1)) fun k => if 0 ≤ mines - (k : Int) ∧ mines - (k : Int) < (ch.length : Int) then (row / 2 ^ (k * W) % 2 ^ W) * ch.getD (mines - (k : Int)).toNat 0 else 0
theorem sumL_range_one {n j : Nat} (h : j < n) (F : Nat → Nat) : sumL (List.range n) (fun k => if j = k then F k else 0) = F j := by
  induction n with
  | zero => omega
  | succ n ih =>
    rw [List.range_succ, sumL_append, sumL_cons, sumL_nil, Nat.add_zero]
    by_cases e : j = n
    · subst e
      rw [if_pos rfl]
      have : sumL (List.range j) (fun k => if j = k then F k else 0) = 0 := by
        refine (sumL_congr fun k hk => ?_).trans (sumL_zero (List.range j))
        have := List.mem_range.1 hk
        rw [if_neg (by omega)]
      rw [this, Nat.zero_add]
    · rw [if_neg e, ih (by omega), Nat.add_zero]
theorem ch_count (a : Nat) (z : Int) : (if 0 ≤ z ∧ z < ((choices a).length : Int) then (choices a).getD z.toNat 0 else 0) = (fills a).countP fun v => decide ((trues v : Int) = z) := by
  rw [choices_len]
  by_cases h : 0 ≤ z ∧ z < ((a + 1 : Nat) : Int)
  · rw [if_pos h, choices_get]
    apply countP_congr'
    intro v _
    apply decide_eq_decide.2
    omega
  · rw [if_neg h]
    symm
    apply countP_zero
    intro v hv
    apply decide_eq_false
    have h1 := trues_le v
    rw [fills_length a v hv] at h1
    omega
theorem filledUp_eq {W n a : Nat} {P : List Bool → Bool} {l : List (List Bool)} (hl : l.length < 2 ^ W) (ht : ∀ u ∈ l, trues u ≤ n) (mines : Int) :
    filledUp W n (sumL l fun u => if P u = true then 2 ^ (W * trues u) else 0) (choices a) mines = sumL l fun u => if P u = true then (fills a).countP (fun v => decide ((trues u : Int) + trues v = mines)) else 0 := by
  unfold filledUp
  have e1 : (sumL (List.range (n + 1)) fun k => if 0 ≤ mines - (k : Int) ∧ mines - (k : Int) < ((choices a).length : Int) then ((sumL l fun u => if P u = true then 2 ^ (W * trues u) else 0) / 2 ^ (k * W) % 2 ^ W) * (choices a).getD (mines - (k : Int)).toNat 0 else 0) =
      sumL (List.range (n + 1)) fun k => sumL l fun u => if trues u = k then (if P u = true then (fills a).countP (fun v => decide ((trues v : Int) = mines - (k : Int))) else 0) else 0 := by
    apply sumL_congr
    intro k _
    rw [field_at hl, ← ch_count]
    split
    · rename_i h
      rw [Nat.mul_comm, countP_sumL, ← sumL_mul]
      apply sumL_congr
      intro u _
      by_cases hp : P u = true <;> by_cases hk : trues u = k <;> simp [hp, hk]
    · symm
      refine (sumL_congr fun u _ => ?_).trans (sumL_zero l)
      simp
  rw [e1, sumL_comm]
  apply sumL_congr
  intro u hu
  rw [sumL_range_one (show trues u < n + 1 by have := ht u hu; omega) fun k => if P u = true then (fills a).countP (fun v => decide ((trues v : Int) = mines - (k : Int))) else 0]
  split
  · apply countP_congr'
    intro v _
    apply decide_eq_decide.2
    omega
  · rfl
end SM
end
section
set_option linter.all false
namespace SM
open Kg33

theorem range_split {d n : Nat} (h : d < n) : List.range n = List.range d ++ d :: (List.range (n - (d + 1))).map (fun x => d + 1 + x) := by
  have e : n = d + (1 + (n - (d + 1))) := by omega
  conv => lhs; rw [e]
  rw [List.range_add, List.range_add, List.map_append]
  simp
  intro a _; omega

/-! ### the squares of a kind, and the place of each among them -/
section
variable (p : Nat → Bool)
def sel (n : Nat) : List Nat := (List.range n).filter p
def rk (d : Nat) : Nat := (sel p d).length
theorem sel_succ (n : Nat) : sel p (n + 1) = if p n = true then sel p n ++ [n] else sel p n := by
  unfold sel
  rw [List.range_succ, List.filter_append]
  by_cases h : p n = true
  · simp [h]
  · simp [h]
theorem mem_sel {n d : Nat} : d ∈ sel p n ↔ d < n ∧ p d = true := by
  unfold sel; rw [List.mem_filter, List.mem_range]
theorem sel_get {n d : Nat} (h : d < n) (hp : p d = true) : (sel p n)[rk p d]? = some d := by
  unfold rk sel
  rw [range_split h, List.filter_append, List.filter_cons_of_pos hp, List.getElem?_append_right (Nat.le_refl _)]
  simp
theorem rk_mono {c d : Nat} (h : c ≤ d) : rk p c ≤ rk p d := by
  unfold rk sel
  have e : d = c + (d - c) := by omega
  rw [e, List.range_add, List.filter_append, List.length_append]
  omega
theorem rk_lt {c d : Nat} (h : c < d) (hp : p c = true) : rk p c < rk p d := by
  have h1 : rk p (c + 1) = rk p c + 1 := by
    unfold rk; rw [sel_succ, if_pos hp]; simp
  have h2 := rk_mono p (show c + 1 ≤ d from h)
  omega
theorem rk_get : ∀ {n k d : Nat}, (sel p n)[k]? = some d → rk p d = k ∧ d < n ∧ p d = true
  | 0, k, d, h => by simp [sel] at h
  | n + 1, k, d, h => by
    rw [sel_succ] at h
    by_cases hp : p n = true
    · rw [if_pos hp] at h
      by_cases hk : k < (sel p n).length
      · rw [List.getElem?_append_left hk] at h
        have := rk_get h
        exact ⟨this.1, by omega, this.2.2⟩
      · rw [List.getElem?_append_right (by omega)] at h
        by_cases e : k - (sel p n).length = 0
        · rw [e] at h
          have h : n = d := by simpa using h
          subst h
          exact ⟨by unfold rk; omega, by omega, hp⟩
        · have : ([n] : List Nat)[k - (sel p n).length]? = none := List.getElem?_eq_none (by simp; omega)
          rw [this] at h; cases h
    · rw [if_neg hp] at h
      have := rk_get h
      exact ⟨this.1, by omega, this.2.2⟩
theorem sel_lt {n i j a b : Nat} (hi : (sel p n)[i]? = some a) (hj : (sel p n)[j]? = some b) (h : i < j) : a < b := by
  have h1 := rk_get p hi
  have h2 := rk_get p hj
  apply Classical.byContradiction
  intro e
  have := rk_mono p (show b ≤ a by omega)
  omega
end

/-! ### a way put together out of the ways of two kinds of squares -/
section
variable (s : Seen) (pB pA : Nat → Bool)
def bit (u v : List Bool) (c : Nat) : Bool := if pB c = true then u.getD (rk pB c) false else if pA c = true then v.getD (rk pA c) false else decide (at_ s c = 10)
def asm (n : Nat) (u v : List Bool) : List Bool := (List.range n).map (bit s pB pA u v)
theorem asm_succ (n : Nat) (u v : List Bool) : asm s pB pA (n + 1) u v = asm s pB pA n u v ++ [bit s pB pA u v n] := by
  unfold asm; rw [List.range_succ, List.map_append]; rfl
theorem asm_get {n c : Nat} (h : c < n) (u v : List Bool) : (asm s pB pA n u v).getD c false = bit s pB pA u v c := by
  unfold asm
  rw [List.getD_eq_getElem?_getD, List.getElem?_map, List.getElem?_range h]; rfl
theorem getD_app {u : List Bool} {k : Nat} (h : k < u.length) (r : List Bool) : (u ++ r).getD k false = u.getD k false := by
  rw [List.getD_eq_getElem?_getD, List.getD_eq_getElem?_getD, List.getElem?_append_left h]
theorem asm_congr {n : Nat} {u v u' v' : List Bool} (h1 : ∀ k, k < rk pB n → u.getD k false = u'.getD k false) (h2 : ∀ k, k < rk pA n → v.getD k false = v'.getD k false) : asm s pB pA n u v = asm s pB pA n u' v' := by
  unfold asm
  apply List.map_congr_left
  intro c hc
  have hc := List.mem_range.1 hc
  unfold bit
  split
  · rename_i h; exact h1 _ (rk_lt pB hc h)
  · split
    · rename_i h; exact h2 _ (rk_lt pA hc h)
    · rfl
theorem okFrom_snoc (f : List Bool) (b : Bool) : okFrom s 0 (f ++ [b]) = (okFrom s 0 f && (if b then decide (8 < at_ s f.length) else decide (at_ s f.length ≠ 10))) := by
  rw [okFrom_append, Nat.zero_add]
  simp [okFrom]
theorem asm_sum (hA : ∀ c, at_ s c = 9 ↔ (pB c = true ∨ pA c = true)) (hAB : ∀ c, pB c = true → pA c = false) (h10 : ∀ c, at_ s c ≤ 10) :
    ∀ (n : Nat) (G : List Bool → Nat), sumL (fills n) (fun f => if okFrom s 0 f = true then G f else 0) = sumL (fills (rk pB n)) fun u => sumL (fills (rk pA n)) fun v => G (asm s pB pA n u v)
  | 0, G => by
    show sumL [[]] _ = sumL [[]] _
    rw [sumL_cons, sumL_nil, sumL_cons, sumL_nil]
    show _ = sumL [[]] _ + 0
    rw [sumL_cons, sumL_nil]; rfl
  | n + 1, G => by
    rw [sumL_fills_snoc]
    have ih := asm_sum hA hAB h10 n
    have hlen : ∀ f ∈ fills n, f.length = n := fills_length n
    rcases Classical.em (pB n = true) with hb | hb
    · have h9 := (hA n).2 (Or.inl hb)
      have e1 : rk pB (n + 1) = rk pB n + 1 := by unfold rk; rw [sel_succ, if_pos hb]; simp
      have e2 : rk pA (n + 1) = rk pA n := by unfold rk; rw [sel_succ, if_neg (by rw [hAB n hb]; simp)]
      rw [e1, e2, sumL_fills_snoc]
      have := ih fun f => G (f ++ [false]) + G (f ++ [true])
      refine Eq.trans (sumL_congr fun f hf => ?_) (this.trans (sumL_congr fun u hu => ?_))
      · rw [okFrom_snoc, okFrom_snoc, hlen f hf, h9]
        by_cases h : okFrom s 0 f = true <;> simp [h]
      · have hu := fills_length _ u hu
        rw [← sumL_add]
        apply sumL_congr
        intro v _
        have q : ∀ b, asm s pB pA (n + 1) (u ++ [b]) v = asm s pB pA n u v ++ [b] := by
          intro b
          rw [asm_succ, asm_congr s pB pA (u := u ++ [b]) (u' := u) (v := v) (v' := v) (fun k hk => getD_app (by omega) _) (fun _ _ => rfl)]
          congr 1
          unfold bit
          rw [if_pos hb, ← hu]
          simp
        rw [q, q]
    · rcases Classical.em (pA n = true) with ha | ha
      · have h9 := (hA n).2 (Or.inr ha)
        have e1 : rk pB (n + 1) = rk pB n := by unfold rk; rw [sel_succ, if_neg hb]
        have e2 : rk pA (n + 1) = rk pA n + 1 := by unfold rk; rw [sel_succ, if_pos ha]; simp
        rw [e1, e2]
        have := ih fun f => G (f ++ [false]) + G (f ++ [true])
        refine Eq.trans (sumL_congr fun f hf => ?_) (this.trans (sumL_congr fun u hu => ?_))
        · rw [okFrom_snoc, okFrom_snoc, hlen f hf, h9]
          by_cases h : okFrom s 0 f = true <;> simp [h]
        · rw [sumL_fills_snoc]
          apply sumL_congr
          intro v hv
          have hv := fills_length _ v hv
          have q : ∀ b, asm s pB pA (n + 1) u (v ++ [b]) = asm s pB pA n u v ++ [b] := by
            intro b
            rw [asm_succ, asm_congr s pB pA (u := u) (u' := u) (v := v ++ [b]) (v' := v) (fun _ _ => rfl) (fun k hk => getD_app (by omega) _)]
            congr 1
            unfold bit
            rw [if_neg hb, if_pos ha, ← hv]
            simp
          rw [q, q]
      · have h9 : at_ s n ≠ 9 := fun e => by
          rcases (hA n).1 e with h | h
          · exact hb h
          · exact ha h
        have e1 : rk pB (n + 1) = rk pB n := by unfold rk; rw [sel_succ, if_neg hb]
        have e2 : rk pA (n + 1) = rk pA n := by unfold rk; rw [sel_succ, if_neg ha]
        rw [e1, e2]
        have := ih fun f => G (f ++ [decide (at_ s n = 10)])
        refine Eq.trans (sumL_congr fun f hf => ?_) (this.trans (sumL_congr fun u hu => sumL_congr fun v _ => ?_))
        · rw [okFrom_snoc, okFrom_snoc, hlen f hf]
          have := h10 n
          by_cases h : at_ s n = 10
          · by_cases h0 : okFrom s 0 f = true <;> simp [h, h0]
          · have : ¬ 8 < at_ s n := by omega
            by_cases h0 : okFrom s 0 f = true <;> simp [h, h0, this]
        · rw [asm_succ]
          congr 2
          unfold bit
          rw [if_neg hb, if_neg ha]
/-- how many mines lie there in all -/
def known (n : Nat) : Nat := rk (fun c => decide (at_ s c = 10)) n
theorem trues_take {u : List Bool} {k : Nat} : trues (u.take (k + 1)) = trues (u.take k) + if u.getD k false = true then 1 else 0 := by
  induction u generalizing k with
  | nil => simp [trues]
  | cons b u ih =>
    cases k with
    | zero => cases b <;> simp [trues]
    | succ k =>
      rw [List.take_succ_cons, List.take_succ_cons, trues, trues, ih]
      simp only [List.getD_cons_succ]
      omega
theorem trues_asm (hA : ∀ c, at_ s c = 9 ↔ (pB c = true ∨ pA c = true)) (hAB : ∀ c, pB c = true → pA c = false) (u v : List Bool) :
    ∀ n, trues (asm s pB pA n u v) = trues (u.take (rk pB n)) + trues (v.take (rk pA n)) + known s n
  | 0 => by simp [asm, trues, rk, sel, known]
  | n + 1 => by
    rw [asm_succ, trues_append, trues_asm hA hAB u v n]
    have ek : known s (n + 1) = known s n + if at_ s n = 10 then 1 else 0 := by
      unfold known rk; rw [sel_succ]
      by_cases h : at_ s n = 10 <;> simp [h]
    rw [ek]
    rcases Classical.em (pB n = true) with hb | hb
    · have h9 := (hA n).2 (Or.inl hb)
      have e1 : rk pB (n + 1) = rk pB n + 1 := by unfold rk; rw [sel_succ, if_pos hb]; simp
      have e2 : rk pA (n + 1) = rk pA n := by unfold rk; rw [sel_succ, if_neg (by rw [hAB n hb]; simp)]
      rw [e1, e2, trues_take, h9]
      unfold bit
      rw [if_pos hb]
      cases u.getD (rk pB n) false <;> simp [trues] <;> omega
    · rcases Classical.em (pA n = true) with ha | ha
      · have h9 := (hA n).2 (Or.inr ha)
        have e1 : rk pB (n + 1) = rk pB n := by unfold rk; rw [sel_succ, if_neg hb]
        have e2 : rk pA (n + 1) = rk pA n + 1 := by unfold rk; rw [sel_succ, if_pos ha]; simp
        rw [e1, e2, trues_take, h9]
        unfold bit
        rw [if_neg hb, if_pos ha]
        cases v.getD (rk pA n) false <;> simp [trues] <;> omega
      · have e1 : rk pB (n + 1) = rk pB n := by unfold rk; rw [sel_succ, if_neg hb]
        have e2 : rk pA (n + 1) = rk pA n := by unfold rk; rw [sel_succ, if_neg ha]
        rw [e1, e2]
        unfold bit
        rw [if_neg hb, if_neg ha]
        by_cases h : at_ s n = 10 <;> simp [h, trues] <;> omega
end

theorem countP_one {p q : Nat → Bool} {x : Nat} : ∀ {l : List Nat}, l.Nodup → x ∈ l → p x = false → q x = true → (∀ y ∈ l, y ≠ x → p y = q y) → l.countP q = l.countP p + 1
  | [], _, hx, _, _, _ => by cases hx
  | a :: l, hn, hx, hp, hq, h => by
    rw [List.nodup_cons] at hn
    rw [List.countP_cons, List.countP_cons]
    by_cases e : a = x
    · subst e
      have : l.countP q = l.countP p := countP_congr' fun y hy => (h y (by simp [hy]) (by intro e; subst e; exact hn.1 hy)).symm
      rw [this, hp, hq]; simp
    · have hx' : x ∈ l := by
        rcases List.mem_cons.1 hx with e1 | e1
        · exact absurd e1.symm e
        · exact e1
      rw [countP_one hn.2 hx' hp hq fun y hy => h y (by simp [hy]), h a (by simp) e]
      omega
theorem near_nodup (q : Nat) : (near q).Nodup := by
  unfold near
  exact List.Pairwise.filter _ List.nodup_range
theorem countP_add {p q r : Nat → Bool} : ∀ {l : List Nat}, (∀ y ∈ l, (r y = true ↔ (p y = true ∨ q y = true)) ∧ ¬ (p y = true ∧ q y = true)) → l.countP r = l.countP p + l.countP q
  | [], _ => by simp
  | a :: l, h => by
    rw [List.countP_cons, List.countP_cons, List.countP_cons, countP_add (l := l) fun y hy => h y (by simp [hy])]
    have := h a (by simp)
    cases e1 : p a <;> cases e2 : q a <;> cases e3 : r a <;> simp [e1, e2, e3] at this ⊢ <;> omega
end SM
end
section
set_option linter.all false
namespace SM
open Kg33

section
variable (s : Seen)
def clo (d : Nat) : Bool := decide (at_ s d = 9)
def closedQ (q : Nat) : Nat := (near q).countP (clo s)
def knownQ (q : Nat) : Nat := (near q).countP fun d => decide (at_ s d = 10)
def good (q : Nat) : Bool := decide (at_ s q ≤ 8) && (decide (knownQ s q ≤ at_ s q) && (decide (at_ s q ≤ knownQ s q + closedQ s q) && decide (0 < closedQ s q)))
def bad (q : Nat) : Bool := decide (at_ s q ≤ 8) && (decide (at_ s q < knownQ s q) || decide (knownQ s q + closedQ s q < at_ s q))
def nums : List Nat := sel (good s) 60
def possible : Bool := (List.range 60).all fun q => !bad s q
def touch (w d q : Nat) : Nat := if d ∈ near q then w else 0
def takeOf (w d : Nat) : Nat := if at_ s d = 9 then pk (touch w d) (nums s) else 0
def pB (d : Nat) : Bool := clo s d && decide (takeOf s 528 d ≠ 0)
def pA (d : Nat) : Bool := clo s d && decide (takeOf s 528 d = 0)
def Bs : List Nat := sel (pB s) 60
def tk (k : Nat) (b : Bool) : Nat := takeOf s (if b then 1 else 32) ((Bs s).getD k 0)
def gd (k : Nat) : Nat := takeOf s 528 ((Bs s).getD k 0)
def aQ (q : Nat) : Nat := at_ s q - knownQ s q
def eQ (q : Nat) : Nat := closedQ s q - aQ s q
def lackQ (q : Nat) : Nat := 16 + aQ s q + 32 * (16 + eQ s q)
def begS : Option Nat := if possible s = true then some (pk (lackQ s) (nums s)) else none
/-- of the squares about q those done that have a mine, those that have none -/
def tM (q : Nat) (u : List Bool) : Nat := (near q).countP fun d => pB s d && (decide (rk (pB s) d < u.length) && u.getD (rk (pB s) d) false)
def tE (q : Nat) (u : List Bool) : Nat := (near q).countP fun d => pB s d && (decide (rk (pB s) d < u.length) && !u.getD (rk (pB s) d) false)
def alive (u : List Bool) : Prop := ∀ q ∈ nums s, tM s q u ≤ aQ s q ∧ tE s q u ≤ eQ s q
def stQ (u : List Bool) (q : Nat) : Nat := 16 + (aQ s q - tM s q u) + 32 * (16 + (eQ s q - tE s q u))
end

section
variable {s : Seen}
theorem pAB (c : Nat) : at_ s c = 9 ↔ (pB s c = true ∨ pA s c = true) := by
  unfold pB pA clo
  by_cases h : at_ s c = 9 <;> by_cases h2 : takeOf s 528 c = 0 <;> simp [h, h2]
theorem pAB' (c : Nat) (h : pB s c = true) : pA s c = false := by
  unfold pB at h; unfold pA
  rw [Bool.and_eq_true] at h
  have := of_decide_eq_true h.2
  simp [this]
theorem pB_clo {c : Nat} (h : pB s c = true) : at_ s c = 9 := (pAB c).2 (Or.inl h)
theorem mem_nums {q : Nat} : q ∈ nums s ↔ q < 60 ∧ good s q = true := mem_sel _
theorem good_num {q : Nat} (h : good s q = true) : at_ s q ≤ 8 ∧ knownQ s q ≤ at_ s q ∧ at_ s q ≤ knownQ s q + closedQ s q ∧ 0 < closedQ s q := by
  unfold good at h
  simpa using h
theorem closed_le {q : Nat} (h : q < 60) : closedQ s q ≤ 8 := by
  have h1 : ∀ c, c < 60 → (near c).length ≤ 8 := by decide +kernel
  exact Nat.le_trans List.countP_le_length (h1 q h)
theorem aQ_le {q : Nat} (h : q ∈ nums s) : aQ s q ≤ 8 ∧ eQ s q ≤ 8 ∧ aQ s q + eQ s q = closedQ s q := by
  obtain ⟨h1, h2⟩ := mem_nums.1 h
  have h3 := good_num h2
  have h4 := closed_le (s := s) h1
  unfold eQ aQ
  omega
theorem near_in {q d : Nat} (h : d ∈ near q) : d < 60 := by
  unfold near at h
  rw [List.mem_filter, List.mem_range] at h
  exact h.1
/-- a closed square about a number that was entered is beside one -/
theorem pB_of {q d : Nat} (hq : q ∈ nums s) (hd : d ∈ near q) (h9 : at_ s d = 9) : pB s d = true := by
  unfold pB clo takeOf
  rw [h9]
  have : pk (touch 528 d) (nums s) ≠ 0 := pk_pos hq (by unfold touch; rw [if_pos hd]; decide)
  simp [this]
theorem Bs_get {k : Nat} (h : k < (Bs s).length) : ∃ d, (Bs s)[k]? = some d ∧ (Bs s).getD k 0 = d ∧ rk (pB s) d = k ∧ d < 60 ∧ pB s d = true := by
  have e := List.getElem?_eq_getElem h
  refine ⟨_, e, by rw [List.getD_eq_getElem?_getD, e]; rfl, rk_get (pB s) e⟩
theorem Bs_rk {d : Nat} (h : d < 60) (hp : pB s d = true) : (Bs s)[rk (pB s) d]? = some d ∧ rk (pB s) d < (Bs s).length := by
  have e := sel_get (pB s) h hp
  exact ⟨e, (List.getElem?_eq_some_iff.1 e).1⟩
theorem rk_inj {c d : Nat} (hc : c < 60) (hd : d < 60) (pc : pB s c = true) (pd : pB s d = true) (h : rk (pB s) c = rk (pB s) d) : c = d := by
  have h1 := (Bs_rk hc pc).1
  have h2 := (Bs_rk hd pd).1
  rw [h, h2] at h1
  exact (Option.some.inj h1).symm
theorem getD_snoc (u : List Bool) (b : Bool) : (u ++ [b]).getD u.length false = b := by simp
theorem getD_snoc_lt {u : List Bool} {k : Nat} (b : Bool) (h : k < u.length) : (u ++ [b]).getD k false = u.getD k false := getD_app h [b]

theorem tM_snoc {u : List Bool} (hu : u.length < (Bs s).length) (b : Bool) (q : Nat) :
    tM s q (u ++ [b]) = tM s q u + (if b = true ∧ (Bs s).getD u.length 0 ∈ near q then 1 else 0) ∧ tE s q (u ++ [b]) = tE s q u + (if b = false ∧ (Bs s).getD u.length 0 ∈ near q then 1 else 0) := by
  obtain ⟨x, h1, h2, h3, h4, h5⟩ := Bs_get hu
  rw [h2]
  have oth : ∀ y ∈ near q, y ≠ x → pB s y = true → (decide (rk (pB s) y < u.length) = decide (rk (pB s) y < (u ++ [b]).length)) ∧ (rk (pB s) y < u.length → (u ++ [b]).getD (rk (pB s) y) false = u.getD (rk (pB s) y) false) := by
    intro y hy hne hp
    have hny : rk (pB s) y ≠ u.length := fun e => hne (rk_inj (near_in hy) h4 hp h5 (by rw [e, h3]))
    refine ⟨?_, fun h => getD_snoc_lt b h⟩
    apply decide_eq_decide.2
    simp; omega
  have congrM : (∀ y ∈ near q, y ≠ x → (pB s y && (decide (rk (pB s) y < u.length) && u.getD (rk (pB s) y) false)) = (pB s y && (decide (rk (pB s) y < (u ++ [b]).length) && (u ++ [b]).getD (rk (pB s) y) false))) := by
    intro y hy hne
    cases hp : pB s y with
    | false => simp
    | true =>
      obtain ⟨o1, o2⟩ := oth y hy hne hp
      rw [← o1]
      by_cases h : rk (pB s) y < u.length
      · rw [o2 h]
      · simp [h]
  have congrE : (∀ y ∈ near q, y ≠ x → (pB s y && (decide (rk (pB s) y < u.length) && !u.getD (rk (pB s) y) false)) = (pB s y && (decide (rk (pB s) y < (u ++ [b]).length) && !(u ++ [b]).getD (rk (pB s) y) false))) := by
    intro y hy hne
    cases hp : pB s y with
    | false => simp
    | true =>
      obtain ⟨o1, o2⟩ := oth y hy hne hp
      rw [← o1]
      by_cases h : rk (pB s) y < u.length
      · rw [o2 h]
      · simp [h]
  have x0 : ¬ rk (pB s) x < u.length := by omega
  have x1 : rk (pB s) x < (u ++ [b]).length := by simp; omega
  have x2 : (u ++ [b]).getD (rk (pB s) x) false = b := by rw [h3]; exact getD_snoc u b
  constructor
  · unfold tM
    by_cases hx : x ∈ near q
    · cases b with
      | true =>
        rw [if_pos ⟨rfl, hx⟩]
        exact countP_one (near_nodup q) hx (by simp [x0]) (by rw [h5, x2]; simp; omega) congrM
      | false =>
        rw [if_neg (by simp), Nat.add_zero]
        apply countP_congr'
        intro y hy
        by_cases e : y = x
        · subst e; rw [x2]; simp [x0]
        · exact (congrM y hy e).symm
    · rw [if_neg (fun z => hx z.2), Nat.add_zero]
      apply countP_congr'
      intro y hy
      exact (congrM y hy (by intro e; subst e; exact hx hy)).symm
  · unfold tE
    by_cases hx : x ∈ near q
    · cases b with
      | false =>
        rw [if_pos ⟨rfl, hx⟩]
        exact countP_one (near_nodup q) hx (by simp [x0]) (by rw [h5, x2]; simp; omega) congrE
      | true =>
        rw [if_neg (by simp), Nat.add_zero]
        apply countP_congr'
        intro y hy
        by_cases e : y = x
        · subst e; rw [x2]; simp [x0]
        · exact (congrE y hy e).symm
    · rw [if_neg (fun z => hx z.2), Nat.add_zero]
      apply countP_congr'
      intro y hy
      exact (congrE y hy (by intro e; subst e; exact hx hy)).symm

theorem stQ_lt {u : List Bool} {q : Nat} (h : q ∈ nums s) : stQ s u q < 1024 := by
  have := aQ_le h
  unfold stQ; omega
theorem touch_le (w d q : Nat) : touch w d q ≤ w := by unfold touch; split <;> omega
theorem Bs_at {k : Nat} (h : k < (Bs s).length) (w : Nat) : takeOf s w ((Bs s).getD k 0) = pk (touch w ((Bs s).getD k 0)) (nums s) := by
  obtain ⟨x, _, h2, _, _, h5⟩ := Bs_get h
  rw [h2]
  unfold takeOf
  rw [if_pos (pB_clo h5)]
/-- one step of the walk -/
theorem nxt_alive {u : List Bool} (hu : u.length < (Bs s).length) (ha : alive s u) (b : Bool) [Decidable (alive s (u ++ [b]))] :
    nxt (tk s) (gd s) u.length b (pk (stQ s u) (nums s)) = if alive s (u ++ [b]) then some (pk (stQ s (u ++ [b])) (nums s)) else none := by
  unfold nxt tk gd
  rw [Bs_at hu, Bs_at hu]
  have sn := tM_snoc hu b
  generalize (Bs s).getD u.length 0 = x at sn ⊢
  have hle : ∀ q ∈ nums s, touch (if b = true then 1 else 32) x q ≤ stQ s u q := by
    intro q hq
    have h1 := touch_le (if b = true then 1 else 32) x q
    have h2 : (if b = true then 1 else 32) ≤ 32 := by cases b <;> decide
    unfold stQ
    omega
  obtain ⟨e, _⟩ := pk_sub hle
  rw [e]
  have key : (∀ q ∈ nums s, (stQ s u q - touch (if b = true then 1 else 32) x q) &&& touch 528 x q = touch 528 x q) ↔ alive s (u ++ [b]) := by
    unfold alive
    apply forall_congr'
    intro q
    apply forall_congr'
    intro hq
    obtain ⟨m1, m2⟩ := sn q
    have hal := ha q hq
    have hq8 := aQ_le hq
    rw [m1, m2]
    unfold touch stQ
    by_cases hx : x ∈ near q
    · rw [if_pos hx, if_pos hx]
      cases b with
      | true =>
        have := field_mine (aQ s q - tM s q u) (by omega) (eQ s q - tE s q u) (by omega)
        simp only [if_true, hx, and_true]
        rw [this]
        simp; omega
      | false =>
        have := field_empty (aQ s q - tM s q u) (by omega) (eQ s q - tE s q u) (by omega)
        simp only [hx, and_true, Bool.false_eq_true, if_false, if_true]
        rw [this]
        omega
    · rw [if_neg hx, if_neg hx, if_neg (fun z => hx z.2), if_neg (fun z => hx z.2)]
      exact ⟨fun _ => hal, fun _ => Nat.and_zero _⟩
  have key2 := pk_and (f := fun q => stQ s u q - touch (if b = true then 1 else 32) x q) (g := touch 528 x) (l := nums s) (fun q hq => Nat.lt_of_le_of_lt (Nat.sub_le _ _) (stQ_lt hq)) (fun q hq => Nat.lt_of_le_of_lt (touch_le _ _ _) (by decide))
  by_cases hal : alive s (u ++ [b])
  · rw [if_pos (key2.2 (key.2 hal)), if_pos hal]
    congr 1
    apply pk_congr
    intro q hq
    obtain ⟨m1, m2⟩ := sn q
    have h1 := hal q hq
    rw [m1, m2] at h1
    unfold stQ touch
    rw [m1, m2]
    by_cases hx : x ∈ near q
    · cases b <;> simp [hx] at h1 ⊢ <;> omega
    · simp [hx]
  · rw [if_neg (fun z => hal (key.1 (key2.1 z))), if_neg hal]
theorem alive_snoc {u : List Bool} (hu : u.length < (Bs s).length) {b : Bool} (h : alive s (u ++ [b])) : alive s u := by
  intro q hq
  have h1 := h q hq
  obtain ⟨m1, m2⟩ := tM_snoc hu b q
  rw [m1, m2] at h1
  omega
theorem t_nil (q : Nat) : tM s q [] = 0 ∧ tE s q [] = 0 := by
  unfold tM tE
  constructor
  · apply countP_zero; intro x _; simp
  · apply countP_zero; intro x _; simp
theorem run_alive : ∀ (k : Nat) (u : List Bool), u.length = k → k ≤ (Bs s).length → ∀ [Decidable (alive s u)], runO (tk s) (gd s) (begS s) u = if possible s = true ∧ alive s u then some (pk (stQ s u) (nums s)) else none
  | 0, u, hk, _, _ => by
    have : u = [] := List.eq_nil_of_length_eq_zero hk
    subst this
    have hal : alive s [] := fun q _ => by rw [(t_nil q).1, (t_nil q).2]; omega
    unfold runO begS
    by_cases hp : possible s = true
    · rw [if_pos hp, if_pos ⟨hp, hal⟩]
      show some (pk (lackQ s) (nums s)) = _
      congr 1
      apply pk_congr
      intro q _
      unfold lackQ stQ
      rw [(t_nil q).1, (t_nil q).2]; rfl
    · rw [if_neg hp, if_neg (fun z => hp z.1)]; rfl
  | k + 1, u', hk, hB, inst => by
    obtain ⟨u, b, rfl⟩ : ∃ u c, u' = u ++ [c] := by
      cases u' with
      | nil => simp at hk
      | cons a l => exact ⟨_, _, (List.dropLast_concat_getLast (l := a :: l) (by simp)).symm⟩
    rw [List.length_append, List.length_singleton] at hk
    have hul : u.length = k := by omega
    have hu : u.length < (Bs s).length := by omega
    have : Decidable (alive s u) := Classical.propDecidable _
    rw [runO_snoc, run_alive k u hul (by omega)]
    by_cases hp : possible s = true
    · by_cases ha : alive s u
      · rw [if_pos ⟨hp, ha⟩]
        show nxt (tk s) (gd s) u.length b (pk (stQ s u) (nums s)) = _
        rw [nxt_alive hu ha b]
        by_cases h2 : alive s (u ++ [b])
        · rw [if_pos h2, if_pos ⟨hp, h2⟩]
        · rw [if_neg h2, if_neg (fun z => h2 z.2)]
      · rw [if_neg (fun z => ha z.2), if_neg (fun z => ha (alive_snoc hu z.2))]; rfl
    · rw [if_neg (fun z => hp z.1), if_neg (fun z => hp z.1)]; rfl

/-! ### all of them done -/
theorem t_full {u : List Bool} (hu : u.length = (Bs s).length) {q : Nat} (hq : q ∈ nums s) : tM s q u + tE s q u = closedQ s q := by
  unfold tM tE closedQ
  rw [← countP_add]
  intro y hy
  have hin : pB s y = true ↔ clo s y = true := by
    constructor
    · intro h; unfold clo; exact decide_eq_true (pB_clo h)
    · intro h; exact pB_of hq hy (of_decide_eq_true h)
  have hrk : pB s y = true → rk (pB s) y < u.length := fun h => by rw [hu]; exact (Bs_rk (near_in hy) h).2
  cases e : pB s y with
  | false =>
    have : clo s y = false := by
      cases c : clo s y with
      | false => rfl
      | true => rw [hin.2 c] at e; cases e
    simp [this]
  | true =>
    have := hrk e
    simp [hin.1 e, this]
theorem alive_full {u : List Bool} (hu : u.length = (Bs s).length) : alive s u ↔ ∀ q ∈ nums s, tM s q u = aQ s q := by
  unfold alive
  constructor
  · intro h q hq
    have := h q hq
    have := t_full hu hq
    have := aQ_le hq
    omega
  · intro h q hq
    have := h q hq
    have := t_full hu hq
    have := aQ_le hq
    omega
theorem fits_asm {u v : List Bool} (hu : u.length = (Bs s).length) : agreesAll s (asm s (pB s) (pA s) 60 u v) = true ↔ (possible s = true ∧ alive s u) := by
  rw [alive_full hu]
  -- how many mines about a square
  have cnt : ∀ q, ((near q).filter fun d => (asm s (pB s) (pA s) 60 u v).getD d false).length = knownQ s q + (near q).countP (fun d => clo s d && bit s (pB s) (pA s) u v d) := by
    intro q
    rw [← List.countP_eq_length_filter]
    unfold knownQ
    apply countP_add
    intro d hd
    rw [asm_get s (pB s) (pA s) (near_in hd)]
    unfold clo
    by_cases h9 : at_ s d = 9
    · simp [h9]
    · have hb : ¬ pB s d = true := fun h => h9 (pB_clo h)
      have ha : ¬ pA s d = true := fun h => h9 ((pAB d).2 (Or.inr h))
      unfold bit
      rw [if_neg hb, if_neg ha]
      simp [h9]
  have le : ∀ q, (near q).countP (fun d => clo s d && bit s (pB s) (pA s) u v d) ≤ closedQ s q := by
    intro q
    unfold closedQ
    apply List.countP_mono_left
    intro d _ h
    rw [Bool.and_eq_true] at h
    exact h.1
  have gd' : ∀ q ∈ nums s, (near q).countP (fun d => clo s d && bit s (pB s) (pA s) u v d) = tM s q u := by
    intro q hq
    unfold tM
    apply countP_congr'
    intro d hd
    by_cases h9 : at_ s d = 9
    · have hb := pB_of hq hd h9
      have hr := (Bs_rk (near_in hd) hb).2
      unfold bit clo
      rw [if_pos hb, hb]
      simp [h9]
      intro _; omega
    · have hb : pB s d = false := by
        cases e : pB s d with
        | false => rfl
        | true => exact absurd (pB_clo e) h9
      unfold clo
      simp [h9, hb]
  unfold agreesAll
  rw [List.all_eq_true]
  constructor
  · intro h
    have one : ∀ q, q < 60 → at_ s q ≤ 8 → knownQ s q + (near q).countP (fun d => clo s d && bit s (pB s) (pA s) u v d) = at_ s q := by
      intro q hq h8
      have := h q (List.mem_range.2 hq)
      unfold agrees at this
      rw [Bool.or_eq_true] at this
      rcases this with e | e
      · have := of_decide_eq_true e; omega
      · have e := eq_of_beq e
        rw [cnt] at e
        exact e
    constructor
    · unfold possible
      rw [List.all_eq_true]
      intro q hq
      have hq := List.mem_range.1 hq
      cases e : bad s q with
      | false => rfl
      | true =>
        unfold bad at e
        simp at e
        have h1 := one q hq e.1
        have h2 := le q
        omega
    · intro q hq
      have h1 := mem_nums.1 hq
      have h2 := good_num h1.2
      have h3 := one q h1.1 h2.1
      rw [gd' q hq] at h3
      unfold aQ
      omega
  · rintro ⟨hp, ha⟩ q hq
    have hq := List.mem_range.1 hq
    unfold agrees
    by_cases h8 : 8 < at_ s q
    · simp [h8]
    · rw [Bool.or_eq_true]
      right
      rw [cnt]
      apply beq_iff_eq.2
      have hb : bad s q = false := by
        unfold possible at hp
        rw [List.all_eq_true] at hp
        have := hp q (List.mem_range.2 hq)
        simpa using this
      have h2 := le q
      unfold bad at hb
      by_cases hg : good s q = true
      · have hn := mem_nums.2 ⟨hq, hg⟩
        have h3 := good_num hg
        rw [gd' q hn, ha q hn]
        unfold aQ
        omega
      · unfold good at hg
        simp at hb hg
        have hb := hb (by omega)
        have hg := hg (by omega) (by omega) (by omega)
        omega
end
end SM
end
section
set_option linter.all false
namespace SM
open Kg33

/-! ### how many tallies there may be -/
theorem nodup_le : ∀ {l m : List Nat}, l.Nodup → (∀ x ∈ l, x ∈ m) → l.length ≤ m.length
  | [], m, _, _ => Nat.zero_le _
  | a :: l, m, hn, h => by
    rw [List.nodup_cons] at hn
    have ha : a ∈ m := h a (by simp)
    have ih := nodup_le (l := l) (m := m.erase a) hn.2 fun x hx => by
      have : x ≠ a := fun e => hn.1 (e ▸ hx)
      exact (List.mem_erase_of_ne this).2 (h x (by simp [hx]))
    rw [List.length_erase_of_mem ha] at ih
    have : 0 < m.length := List.length_pos_of_mem ha
    rw [List.length_cons]; omega
theorem rk_diff (p : Nat → Bool) : ∀ (c j : Nat), rk p (c + j) ≤ rk p c + j
  | c, 0 => Nat.le_refl _
  | c, j + 1 => by
    have h1 := rk_diff p c j
    have h2 : rk p (c + j + 1) ≤ rk p (c + j) + 1 := by
      unfold rk; rw [sel_succ]; split <;> simp
    rw [show c + (j + 1) = c + j + 1 by omega]; omega
section
variable {s : Seen}
theorem t_done {u : List Bool} {q : Nat} (hq : q ∈ nums s) (h : ∀ d ∈ near q, pB s d = true → rk (pB s) d < u.length) : tM s q u + tE s q u = closedQ s q := by
  unfold tM tE closedQ
  rw [← countP_add]
  intro y hy
  have hin : pB s y = true ↔ clo s y = true := by
    constructor
    · intro h; unfold clo; exact decide_eq_true (pB_clo h)
    · intro h; exact pB_of hq hy (of_decide_eq_true h)
  cases e : pB s y with
  | false =>
    have : clo s y = false := by
      cases c : clo s y with
      | false => rfl
      | true => rw [hin.2 c] at e; cases e
    simp [this]
  | true =>
    have := h y hy e
    simp [hin.1 e, this]
open Classical in
noncomputable def hQ (s : Seen) (k : Nat) (v : List Bool) (q : Nat) : Nat := if (∀ d ∈ near q, pB s d = true → rk (pB s) d < k) then 528 else stQ s (List.replicate (k - 14) false ++ v) q
theorem stQ_late {u : List Bool} {q : Nat} (hq : q ∈ nums s) (ha : alive s u) : stQ s u q = hQ s u.length (u.drop (u.length - 14)) q := by
  unfold hQ
  by_cases h : ∀ d ∈ near q, pB s d = true → rk (pB s) d < u.length
  · rw [if_pos h]
    have h1 := t_done hq h
    have h2 := ha q hq
    have h3 := aQ_le hq
    unfold stQ
    omega
  · rw [if_neg h]
    have h60 := (mem_nums.1 hq).1
    have ⟨d0, hd0, hp0, hr0⟩ : ∃ d0, d0 ∈ near q ∧ pB s d0 = true ∧ ¬ rk (pB s) d0 < u.length := by
      apply Classical.byContradiction
      intro hn
      apply h
      intro d hd hp
      apply Classical.byContradiction
      intro hr
      exact hn ⟨d, hd, hp, hr⟩
    have a0 := near_le q h60 d0 hd0
    have late : ∀ d ∈ near q, pB s d = true → u.length - 14 ≤ rk (pB s) d := by
      intro d hd hp
      have a1 := near_ge q h60 d hd
      by_cases hle : d ≤ d0
      · have := rk_diff (pB s) d (d0 - d)
        rw [show d + (d0 - d) = d0 by omega] at this
        omega
      · have := rk_mono (pB s) (show d0 ≤ d by omega)
        omega
    have hlen : (List.replicate (u.length - 14) false ++ u.drop (u.length - 14)).length = u.length := by
      simp only [List.length_append, List.length_replicate, List.length_drop]; omega
    have same : ∀ k, u.length - 14 ≤ k → (List.replicate (u.length - 14) false ++ u.drop (u.length - 14)).getD k false = u.getD k false := by
      intro k hk
      rw [List.getD_eq_getElem?_getD, List.getD_eq_getElem?_getD, List.getElem?_append_right (by simpa using hk), List.getElem?_drop]
      congr 2
      simp; try omega
    have eM : tM s q (List.replicate (u.length - 14) false ++ u.drop (u.length - 14)) = tM s q u := by
      unfold tM
      apply countP_congr'
      intro d hd
      rw [hlen]
      cases e : pB s d with
      | false => simp
      | true => rw [same _ (late d hd e)]
    have eE : tE s q (List.replicate (u.length - 14) false ++ u.drop (u.length - 14)) = tE s q u := by
      unfold tE
      apply countP_congr'
      intro d hd
      rw [hlen]
      cases e : pB s d with
      | false => simp
      | true => rw [same _ (late d hd e)]
    unfold stQ
    rw [eM, eE]
theorem lay_few {W k : Nat} (hk : k ≤ (Bs s).length) : (keys (lay (tk s) (gd s) W (begS s) k)).length ≤ 16384 := by
  obtain ⟨a1, a2, _⟩ := lay_all (tk s) (gd s) W (begS s) k
  have h1 := nodup_le (m := (fills (k - (k - 14))).map fun v => pk (hQ s k v) (nums s)) a1 fun z hz => by
    obtain ⟨u, hu, e⟩ := (a2 z).1 hz
    have hl := fills_length k u hu
    have : Decidable (alive s u) := Classical.propDecidable _
    rw [run_alive k u hl hk] at e
    split at e
    · rename_i h
      have e := Option.some.inj e
      rw [List.mem_map]
      refine ⟨u.drop (k - 14), ?_, ?_⟩
      · have := mem_fills (u.drop (k - 14))
        rw [List.length_drop, hl] at this
        exact this
      · rw [← e]
        apply pk_congr
        intro q hq
        rw [stQ_late hq h.2, hl]
    · cases e
  rw [List.length_map, fills_len] at h1
  refine Nat.le_trans h1 ?_
  have : 2 ^ (k - (k - 14)) ≤ 2 ^ 14 := Nat.pow_le_pow_right (by decide) (by omega)
  exact this
theorem Bs_len : (Bs s).length ≤ 60 := by
  unfold Bs sel
  refine Nat.le_trans (List.length_filter_le _ _) ?_
  simp
/-- also while a layer is being filled -/
theorem part_few {W k : Nat} (hk : k < (Bs s).length) {l l' : Tab} (h : lay (tk s) (gd s) W (begS s) k = l ++ l') : (l.foldl (stepL (tk s) (gd s) W k) []).length ≤ 16384 := by
  have h0 := lay_few (s := s) (W := W) (k := k + 1) (by omega)
  obtain ⟨b1, _, b3⟩ := fold_all (tk s) (gd s) W k l [] (by simp [keys])
  have h1 := nodup_le (m := keys (lay (tk s) (gd s) W (begS s) (k + 1))) b1 fun z hz => by
    obtain ⟨_, _, c3⟩ := fold_all (tk s) (gd s) W k (lay (tk s) (gd s) W (begS s) k) [] (by simp [keys])
    rcases (b3 z).1 hz with h2 | ⟨p, hp, c, h2⟩
    · exact absurd h2 (keys_nil_not z)
    · exact (c3 z).2 (Or.inr ⟨p, by rw [h]; simp [hp], c, h2⟩)
  have e : (keys (l.foldl (stepL (tk s) (gd s) W k) [])).length = (l.foldl (stepL (tk s) (gd s) W k) []).length := by unfold keys; rw [List.length_map]
  omega
theorem stepL_few {t : Nat → Bool → Nat} {g : Nat → Nat} {W k : Nat} {b : Tab} {p : Nat × Nat} : (if (p.1 - t k true) &&& g k = g k then add b (p.1 - t k true) (p.2 * 2 ^ W) else b).length ≤ b.length + 1 := by
  split
  · unfold add put
    split
    · rw [List.length_map]; omega
    · simp
  · omega

/-! ### how large the numbers are -/
theorem sumL_le {α : Type} {l : List α} {f : α → Nat} {M : Nat} (h : ∀ x ∈ l, f x ≤ M) : sumL l f ≤ l.length * M := by
  induction l with
  | nil => simp [sumL_nil]
  | cons a l ih =>
    rw [sumL_cons, List.length_cons, Nat.add_mul]
    have h1 := h a (by simp)
    have h2 := ih fun x hx => h x (by simp [hx])
    omega
theorem row_small {W k : Nat} (hW : W ≤ 61) (hk : k ≤ 60) (P : List Bool → Prop) [DecidablePred P] : (sumL (fills k) fun u => if P u then 2 ^ (W * trues u) else 0) < 2 ^ 4000 := by
  have h1 : (sumL (fills k) fun u => if P u then 2 ^ (W * trues u) else 0) ≤ (fills k).length * 2 ^ 3660 := by
    apply sumL_le
    intro u hu
    split
    · apply Nat.pow_le_pow_right (by decide)
      have := trues_le u
      rw [fills_length k u hu] at this
      have : W * trues u ≤ 61 * 60 := Nat.mul_le_mul hW (by omega)
      omega
    · exact Nat.zero_le _
  rw [fills_len, ← Nat.pow_add] at h1
  exact Nat.lt_of_le_of_lt h1 (Nat.pow_lt_pow_right (by decide) (by omega))
theorem lay_small {W k : Nat} (hW : W ≤ 61) (hk : k ≤ 60) {p : Nat × Nat} (hp : p ∈ lay (tk s) (gd s) W (begS s) k) : p.2 < 2 ^ 4000 := by
  obtain ⟨a1, _, a3⟩ := lay_all (tk s) (gd s) W (begS s) k
  rw [← (val_mem a1 hp).1, a3]
  exact row_small hW hk _
theorem onw_small {W n j : Nat} (hW : W ≤ 61) (hn : n ≤ 60) (hj : j ≤ n) (x : Nat) : val (onw (tk s) (gd s) W (begS s) n j) x < 2 ^ 4000 := by
  by_cases hx : x ∈ keys (lay (tk s) (gd s) W (begS s) (n - j))
  · rw [onw_val (tk s) (gd s) W (begS s) n j hj x hx]
    exact row_small hW (by omega) _
  · rw [val_out (by rw [onw_keys]; exact hx)]; exact Nat.two_pow_pos _

/-! ### what the tables tell -/
def nB (s : Seen) : Nat := (Bs s).length
def nA (s : Seen) : Nat := (sel (pA s) 60).length
def rowT (s : Seen) : Nat := sumL (lay (tk s) (gd s) (nB s + 1) (begS s) (nB s)) (·.2)
def hid (s : Seen) (m : Nat) : Int := (m : Int) - (known s 60 : Int)
def totalT (s : Seen) (m : Nat) : Nat := filledUp (nB s + 1) (nB s) (rowT s) (choices (nA s)) (hid s m)
def rowAt (s : Seen) (k : Nat) : Nat := rowsC (tk s) (gd s) (nB s + 1) (begS s) (nB s) k
def manyT (s : Seen) (m c : Nat) : Nat :=
  if pB s c = true then filledUp (nB s + 1) (nB s) (rowAt s (rk (pB s) c)) (choices (nA s)) (hid s m)
  else if pA s c = true then filledUp (nB s + 1) (nB s) (rowT s) (choices (nA s - 1)) (hid s m - 1)
  else if at_ s c = 10 then totalT s m else 0

open Classical in
noncomputable def P0 (s : Seen) (u : List Bool) : Bool := decide (possible s = true ∧ alive s u)
open Classical in
theorem P0_iff {u : List Bool} : P0 s u = true ↔ (possible s = true ∧ alive s u) := by
  unfold P0
  exact decide_eq_true_iff
theorem P0_run {u : List Bool} (hu : u ∈ fills (nB s)) : (runO (tk s) (gd s) (begS s) u).isSome = P0 s u := by
  have hl := fills_length _ u hu
  have : Decidable (alive s u) := Classical.propDecidable _
  rw [run_alive (nB s) u hl (Nat.le_refl _)]
  by_cases h : possible s = true ∧ alive s u
  · rw [if_pos h, P0_iff.2 h]; rfl
  · rw [if_neg h]
    cases e : P0 s u with
    | false => rfl
    | true => exact absurd (P0_iff.1 e) h
theorem rowT_eq : rowT s = sumL (fills (nB s)) fun u => if P0 s u = true then 2 ^ ((nB s + 1) * trues u) else 0 := by
  unfold rowT
  rw [sumVals]
  apply sumL_congr
  intro u hu
  rw [P0_run hu]
theorem rowAt_eq {k : Nat} (hk : k < nB s) : rowAt s k = sumL (fills (nB s)) fun u => if (P0 s u && u.getD k false) = true then 2 ^ ((nB s + 1) * trues u) else 0 := by
  unfold rowAt
  rw [rowsC_eq _ _ _ _ _ _ hk]
  apply sumL_congr
  intro u hu
  rw [P0_run hu]
  cases P0 s u <;> cases u.getD k false <;> simp
theorem fl (s : Seen) : (fills (nB s)).length < 2 ^ (nB s + 1) := by
  rw [fills_len]; exact Nat.pow_lt_pow_right (by decide) (by omega)
theorem ft (s : Seen) : ∀ u ∈ fills (nB s), trues u ≤ nB s := fun u hu => by
  have := trues_le u
  rw [fills_length _ u hu] at this; exact this
/-- ways, by what lies on the squares of either kind -/
theorem ways_split (h10 : ∀ c, at_ s c ≤ 10) (m : Nat) (X : List Bool → Bool) : (fills 60).countP (fun f => (decide (trues f = m) && fits s f) && X f) =
    sumL (fills (nB s)) fun u => if P0 s u = true then (fills (nA s)).countP (fun v => decide ((trues u : Int) + trues v = hid s m) && X (asm s (pB s) (pA s) 60 u v)) else 0 := by
  rw [countP_sumL]
  have e := asm_sum s (pB s) (pA s) pAB pAB' h10 60 fun f => if (decide (trues f = m) && agreesAll s f && X f) = true then 1 else 0
  refine Eq.trans (sumL_congr fun f _ => ?_) (e.trans (sumL_congr fun u hu => ?_))
  · unfold fits
    cases okFrom s 0 f <;> simp
  · have hu := fills_length _ u hu
    rw [show rk (pA s) 60 = nA s from rfl]
    have hf : ∀ v, (agreesAll s (asm s (pB s) (pA s) 60 u v) = true) ↔ P0 s u = true := by
      intro v
      rw [fits_asm hu, P0_iff]
    have ht : ∀ v ∈ fills (nA s), decide (trues (asm s (pB s) (pA s) 60 u v) = m) = decide ((trues u : Int) + trues v = hid s m) := by
      intro v hv
      have hv := fills_length _ v hv
      rw [trues_asm s (pB s) (pA s) pAB pAB', List.take_of_length_le (by rw [hu]; exact Nat.le_refl _), List.take_of_length_le (by rw [hv]; exact Nat.le_refl _)]
      apply decide_eq_decide.2
      unfold hid
      omega
    by_cases h : P0 s u = true
    · rw [if_pos h, countP_sumL]
      apply sumL_congr
      intro v hv
      rw [ht v hv, (hf v).2 h, Bool.and_true]
    · rw [if_neg h]
      refine (sumL_congr fun v _ => ?_).trans (sumL_zero (fills (nA s)))
      have : agreesAll s (asm s (pB s) (pA s) 60 u v) = false := by
        cases e : agreesAll s (asm s (pB s) (pA s) 60 u v) with
        | false => rfl
        | true => exact absurd ((hf v).1 e) h
      simp [this]
theorem total_eq (h10 : ∀ c, at_ s c ≤ 10) (m : Nat) : totalT s m = count s m := by
  rw [count_eq]
  have := ways_split h10 m fun _ => true
  simp only [Bool.and_true] at this
  rw [this]
  unfold totalT
  rw [rowT_eq, filledUp_eq (fl s) (ft s)]
/-- one square of many alike has its mine, the others take the rest -/
theorem countP_one_true {a i : Nat} (hi : i < a) (x z : Int) : (fills a).countP (fun v => decide (x + (trues v : Int) = z) && v.getD i false) = (fills (a - 1)).countP fun v => decide (x + (trues v : Int) = z - 1) := by
  rw [countP_sumL, countP_sumL]
  have e : a = i + (1 + (a - (i + 1))) := by omega
  have e' : a - 1 = i + (a - (i + 1)) := by omega
  rw [show fills a = fills (i + (1 + (a - (i + 1)))) by rw [← e], show fills (a - 1) = fills (i + (a - (i + 1))) by rw [← e'], sumL_fills_add, sumL_fills_add]
  apply sumL_congr
  intro d hd
  have hd := fills_length _ d hd
  rw [sumL_fills_add]
  show sumL [[false], [true]] _ = _
  rw [sumL_cons, sumL_cons, sumL_nil, Nat.add_zero]
  have g : ∀ b r, (d ++ ([b] ++ r)).getD i false = b := by
    intro b r
    have := getD_mid d b r
    rw [hd] at this
    exact this
  have z1 : (sumL (fills (a - (i + 1))) fun r => if (decide (x + (trues (d ++ ([false] ++ r)) : Int) = z) && (d ++ ([false] ++ r)).getD i false) = true then 1 else 0) = 0 := by
    refine (sumL_congr fun r _ => ?_).trans (sumL_zero _)
    rw [g]; simp
  rw [z1, Nat.zero_add]
  apply sumL_congr
  intro r _
  rw [g, Bool.and_true, trues_append, trues_append, trues_append, show trues [true] = 1 from rfl]
  have : decide (x + ((trues d + (1 + trues r) : Nat) : Int) = z) = decide (x + ((trues d + trues r : Nat) : Int) = z - 1) := by
    apply decide_eq_decide.2; omega
  rw [this]
theorem many_eq (hl : s.length = 60) (h10 : ∀ c, at_ s c ≤ 10) (m : Nat) {c : Nat} (hc : c < 60) : manyT s m c = under s m c := by
  rw [under_eq m hl hc (h10 c), ways_split h10 m fun f => f.getD c false]
  have hb : ∀ u v, (asm s (pB s) (pA s) 60 u v).getD c false = bit s (pB s) (pA s) u v c := fun u v => asm_get s (pB s) (pA s) hc u v
  unfold manyT
  by_cases h1 : pB s c = true
  · have hk : rk (pB s) c < nB s := (Bs_rk hc h1).2
    rw [if_pos h1, rowAt_eq hk, filledUp_eq (fl s) (ft s)]
    apply sumL_congr
    intro u hu
    have hbb : ∀ v, bit s (pB s) (pA s) u v c = u.getD (rk (pB s) c) false := by intro v; unfold bit; rw [if_pos h1]
    by_cases hp : P0 s u = true
    · rw [if_pos hp, hp, Bool.true_and]
      cases hg : u.getD (rk (pB s) c) false with
      | true =>
        rw [if_pos rfl]
        apply countP_congr'
        intro v _
        rw [hb, hbb, hg, Bool.and_true]
      | false =>
        rw [if_neg (by simp)]
        symm
        apply countP_zero
        intro v _
        rw [hb, hbb, hg, Bool.and_false]
    · rw [if_neg hp, if_neg]
      rw [Bool.and_eq_true]; exact fun z => hp z.1
  · rw [if_neg h1]
    by_cases h2 : pA s c = true
    · have hk : rk (pA s) c < nA s := (List.getElem?_eq_some_iff.1 (sel_get (pA s) hc h2)).1
      rw [if_pos h2, rowT_eq, filledUp_eq (fl s) (ft s)]
      apply sumL_congr
      intro u hu
      by_cases hp : P0 s u = true
      · rw [if_pos hp, if_pos hp, ← countP_one_true hk]
        apply countP_congr'
        intro v _
        rw [hb]
        unfold bit
        rw [if_neg h1, if_pos h2]
      · rw [if_neg hp, if_neg hp]
    · rw [if_neg h2]
      have hbb : ∀ u v, bit s (pB s) (pA s) u v c = decide (at_ s c = 10) := by intro u v; unfold bit; rw [if_neg h1, if_neg h2]
      by_cases h3 : at_ s c = 10
      · rw [if_pos h3]
        unfold totalT
        rw [rowT_eq, filledUp_eq (fl s) (ft s)]
        apply sumL_congr
        intro u _
        by_cases hp : P0 s u = true
        · rw [if_pos hp, if_pos hp]
          apply countP_congr'
          intro v _
          rw [hb, hbb, h3]; simp
        · rw [if_neg hp, if_neg hp]
      · rw [if_neg h3]
        symm
        refine (sumL_congr fun u _ => ?_).trans (sumL_zero _)
        by_cases hp : P0 s u = true
        · rw [if_pos hp]
          apply countP_zero
          intro v _
          rw [hb, hbb]; simp [h3]
        · rw [if_neg hp]
end
end SM
end
section
set_option Elab.async false
set_option linter.all false
set_option maxRecDepth 100000
set_option maxHeartbeats 4000000
namespace SM
open PySem PySem.Spec PyProof.Rows L2

section
variable {X : Cx}
/-! whole numbers of any size -/
theorem op_mulW : OpR X (binaryOp .Mult) (rI (fun i j => IntMulOk i j) fun i j => .int (i * j)) := opI fun _ _ _ _ _ _ _ hc q => mul_int q hc
theorem op_shlW : OpR X (binaryOp .LShift) (rI (fun i j => 0 ≤ j ∧ (Builtin.Int.intBits i : Int) + j ≤ 2 ^ 27) fun i j => .int (i * 2 ^ j.toNat)) := opI fun _ _ _ _ _ _ _ hc q => lshift_int hc.1 hc.2 q
theorem bits_of {n k : Nat} (h : n < 2 ^ k) : Builtin.Int.intBits (n : Int) ≤ k := by
  unfold Builtin.Int.intBits
  split
  · exact Nat.zero_le _
  · rename_i h0
    have hn : n ≠ 0 := by
      intro e; subst e; simp at h0
    have : (n : Int).natAbs = n := Int.natAbs_natCast n
    rw [this]
    have := (Nat.log2_lt hn).2 h
    omega
/-! a dict that comes out of an expression is locked for a walk -/
def tLockR (t : TE) : TE := fun σ H Q => t σ H fun x H1 => ∃ d u, H1 d = some u ∧ Mut (some u) ∧ ∀ od, Q x (upd H1 d (.frz od u))
theorem pe_lockR {e : Expr} {t : TE} (h : PE X e t) : PE X e (tLockR t) := by
  intro pins s σ H Q I hw
  refine thn (h pins s σ H _ I hw) fun v s1 ⟨x, H1, I1, r, d, u, hd, mu, q⟩ => ?_
  obtain ⟨od, I2⟩ := I1.lock hd mu
  exact ⟨x, _, I2, r, q od⟩
/-! a row of statements, what holds behind the first told -/
def tMid (t u : TS) : TS := fun D σ H => ∃ M : L2.St → Hp → Prop, t { D with nx := M } σ H ∧ ∀ σ' H', M σ' H' → u D σ' H'
theorem pss_mid {st : Stmt} {rest : List Stmt} {t u : TS} (h1 : PS X st t) (h2 : PSs X rest u) : PSs X (st :: rest) (tMid t u) := by
  intro pins s σ H D I ⟨M, h, hm⟩
  refine wpAny_execs_cons (thn (h1 pins s σ H { D with nx := M } I h) fun f s1 q => ?_)
  cases f with
  | next =>
    obtain ⟨σ', H', I', q⟩ := q
    exact h2 pins s1 σ' H' D I' (hm _ _ q)
  | ret v => exact q
  | brk => exact q
  | cont => exact q
/-! a dict of the module's own -/
theorem pe_own {a : Addr} {D : List (Int × PyData)} {x : Str} {e : Expr} {te : TE} {p pos : Pos} (hD : KTD.keyedLook (fun b => X.K.lookup b) a D = true) (hg : Gl X x) (hm : X.mg x = some (.ref a)) (he : PE X e te) (hs : PlainIx e) (hd : (x == ("__debug__" : Str)) = false := by decide) :
    PE X (.Subscript (.Name x p) e pos) (fun σ H Q => te σ H fun y H1 => ∃ k z, y = .int k ∧ KTD.datumAt k D = some (.int z) ∧ Q (.int z) H1) := by
  intro pins s σ H Q I h
  refine Subscript_ (ld_glob I hg hm ?_ hd)
  refine thn (he pins s σ H _ I h) fun u s1 ⟨y, H1, I1, ry, k, z, ey, hk, q⟩ => ?_
  subst ey
  obtain ⟨t, rfl⟩ := ry
  have T := PySem.W.kt_keyed_in I1.kIn hD
  refine item_intTab (T X.prog X.w) (by rw [KTD.lookup_keyed]; exact hk) (fun v hv => ?_) (hs _ _) (by intro _; rfl)
  obtain ⟨t', rfl⟩ := PyProof.V.Flat.int_inv hv
  exact ⟨.int z, H1, I1.tok _, ⟨_, rfl⟩, q⟩
/-! sum of a dict's values -/
def vInt : V → Int
  | .int z => z
  | _ => 0
theorem paired_get2 {α β : Type} {G : α → β → Prop} {l₁ : List α} {l₂ : List β} (h : Paired G l₁ l₂) {i : Nat} {b : β} (e : l₂[i]? = some b) : ∃ a, l₁[i]? = some a ∧ G a b := by
  have hl := Paired.length h
  have hi : i < l₂.length := (List.getElem?_eq_some_iff.1 e).1
  obtain ⟨b', e', g⟩ := paired_get h (i := i) (a := l₁[i]'(by omega)) (List.getElem?_eq_getElem (by omega))
  rw [e] at e'
  cases e'
  exact ⟨_, List.getElem?_eq_getElem (by omega), g⟩
theorem sum_vals (kvs : List (Key × Value)) (ns : List Int) (h : ∀ (i : Nat) (k : Key) (v : Value), kvs[i]? = some (k, v) → ∃ (z : Int) (t : Tok), ns[i]? = some z ∧ v = Value.int z t) (hl : kvs.length = ns.length) : preSum (fun i => ns.getD i 0) kvs.length = ns.sum := by
  rw [hl]
  clear h hl
  induction ns with
  | nil => rfl
  | cons a ns ih =>
    rw [List.length_cons, PySem.W.kdu_shift, List.sum_cons]
    have e : (fun i => (a :: ns).getD (i + 1) 0) = fun i => ns.getD i 0 := by funext i; simp
    rw [e, ih]; rfl
theorem pe_sumvals {e : Expr} {td : TE} {p apos cpos pos : Pos} (hcalm : X.calm = true) (he : PE X e td) (hg : Gl X "sum") (hm : X.mg "sum" = none)
    (hbase : attributeBase e "values" X.env (eval e X.env) = eval e X.env := by rfl) (hline : (apos.endLine == cpos.line) = true := by rfl)
    (hs : starEach [.Call (.Attribute e "values" apos) [] [] cpos] X.env = [(false, eval (.Call (.Attribute e "values" apos) [] [] cpos) X.env)] := by rfl) :
    PE X (.Call (.Name "sum" p) [.Call (.Attribute e "values" apos) [] [] cpos] [] pos) (fun σ H Q => td σ H fun x H1 => ∃ (d : Addr) (kvs : List (Key × V)) (ns : List Int), x = .ref d ∧ H1 d = some (.dK kvs) ∧ kvs.map (·.2) = ns.map V.int ∧ Q (.int ns.sum) H1) := by
  intro pins s σ H Q I h
  refine wpAny_Call_Name_kw (ld_blt I hg hm PyProof.Rows.boot_sum ?_)
  refine PyProof.Rows.callWith_builtin1 ?_ hs rfl
  rw [hs]
  show wpAny _ _ (spliced ((false, eval _ X.env) :: backTo pos [])) _ _ s
  refine Calls.spliced_cons ?_
  refine wpAny_Call_method (T := "dict") (id := "dict.values") hbase rfl hline F.plainAttrs_dict F.slot_dict_values F.type_dict_values (thn (he pins s σ H _ I h) fun u s1 ⟨x, H1, I1, rx, d, kvs, ns, ex, hd, hns, q⟩ => ?_)
  subst ex
  obtain rfl : u = Value.ref d := rx
  obtain ⟨hz, hsys, vs, kv, hD⟩ := dk_of I1.hok hd
  obtain ⟨ep, hat⟩ := hD.dictAt
  refine ⟨hD.typeIs, hD.mapOf.noDict, ?_⟩
  have hvs : ∀ (i : Nat) (k : Key) (v : Value), vs[i]? = some (k, v) → ∃ (z : Int) (t : Tok), ns[i]? = some z ∧ v = Value.int z t := by
    intro i k v hi
    obtain ⟨kv', hkv, hr⟩ := paired_get2 kv hi
    have e1 : (kvs.map (·.2))[i]? = some kv'.2 := by rw [List.getElem?_map, hkv]; rfl
    rw [hns, List.getElem?_map] at e1
    cases e2 : ns[i]? with
    | none => rw [e2] at e1; cases e1
    | some z =>
      rw [e2] at e1
      have e1 := Option.some.inj e1
      have hr2 := hr.2
      rw [← e1] at hr2
      obtain ⟨t, ht⟩ := hr2
      exact ⟨z, t, rfl, ht⟩
  have hl : vs.length = ns.length := by
    have h1 := Paired.length kv
    have h2 := congrArg List.length hns
    rw [List.length_map, List.length_map] at h2
    omega
  have I2 : Inv X pins σ H1 { s1 with heap := s1.heap.push { cls := .type "dict_values", data := .fields #[.ref d] } } := I1.kept (t' := s1.toks) fun b ob q => Heap.get?_push_of_some _ q
  have fin : wpAny (model X.prog X.w) X.A (call (.builtin "sum") [.ref s1.heap.objs.size]) (EP X pins σ Q) X.xe { s1 with heap := s1.heap.push { cls := .type "dict_values", data := .fields #[.ref d] } } := by
    have KS := PySem.W.kdl_values (prog := X.prog) (w := X.w) (r := s1.heap.objs.size) (d := d) (knd := mixKind X.prog X.w) (kvs := vs) (ep := ep)
    refine call_sum_walkAnyS ?_
    obtain ⟨oI, St', hit, W, st⟩ := KS.iter X.A.in1 { s1 with heap := s1.heap.push { cls := .type "dict_values", data := .fields #[.ref d] } } (I.ok.hd hcalm) ⟨⟨_, Heap.get?_push_size _ rfl, rfl, rfl⟩, hat.push _⟩
    refine hit _ _ ⟨_, _, _, _, _, _, _, fun i => ns.getD i 0, rfl, W.toS, st, fun b hb => ?_, fun i v ⟨k, hi⟩ => ?_, fun s' t' hmv => ?_⟩
    · show b < (Heap.push _ oI).objs.size
      rw [size_push', size_push']
      have hlt : d < s1.heap.objs.size := hat.lt_size
      rcases List.mem_cons.mp hb with e | hb
      · rw [e]; show (Heap.push _ _).objs.size < _; rw [size_push']; exact Nat.lt_succ_self _
      · rw [List.mem_singleton.mp hb]; exact Nat.lt_succ_of_lt (Nat.lt_succ_of_lt hlt)
    · obtain ⟨z, t, h1, h2⟩ := hvs i k v hi
      exact ⟨t, by rw [h2]; show Value.int z t = Value.int (ns.getD i 0) t; rw [List.getD_eq_getElem?_getD, h1]; rfl⟩
    · have hk : ∀ b o, s1.heap.get? b = some o → s'.heap.get? b = some o := fun b o e =>
        hmv.heap b o (fun hI => absurd (Heap.lt_size e) (by
          rw [List.mem_singleton.mp hI]; show ¬ (Heap.push _ _).objs.size < _; rw [size_push']; exact Nat.not_lt.2 (Nat.le_succ _))) (Heap.get?_push_of_some _ (Heap.get?_push_of_some _ e))
      rw [Moved.eq_with hmv]
      refine ⟨.int ns.sum, H1, I1.kept hk, ⟨t', ?_⟩, q⟩
      rw [sum_vals vs ns hvs hl]
  show wpAny _ _ (callWith cpos (.builtin "dict.values") [.ref d] [] []) _ X.xe s1
  refine method_meetsIn F.slot_dict_values F.entry_dict_values rfl (PySem.evalArgs_none ⟨rfl, hD.typeIs, F.args_dict_values_1 _, _, meets_dict_values (mixKind X.prog X.w) d hsys, ⟨vs, hD⟩, ?_⟩)
  exact Calls.spliced_nil fin
end

/-! ### walks over a dict -/
theorem for_items {d : Addr} {o : Obj} {kvs : List (Key × V)} {g : TG} {tb : TS} {D : Ends} {σ : L2.St} {H : Hp} (Pv : Nat → L2.St → Hp → Prop) (h0 : Pv 0 σ H) (hf : ∀ i σ H, i ≤ kvs.length → Pv i σ H → H d = some (.frz o (.dK kvs)))
    (hs : ∀ i k v T σ H, kvs[i]? = some (k, v) → Pv i σ H → H T = none → g (.ref T) σ (upd H T (.tup [kV k, v])) fun σ2 H2 => tb { D with nx := Pv (i + 1), ct := Pv (i + 1), bk := D.nx } σ2 H2) (hd : ∀ σ H, Pv kvs.length σ H → D.nx σ H) :
    ∃ W : Nat → Nat → L2.St → Hp → Prop, (∃ m, W 0 m σ H) ∧ ∀ i m σ H, W i m σ H →
      ((Iti d o kvs).stop i H ∧ D.nx σ H) ∨ ((Iti d o kvs).go i H ∧ ∃ N : L2.St → Hp → Prop, (∀ σ' H', N σ' H' → ∃ m', m' < m ∧ W (i + 1) m' σ' H') ∧ ∀ x H', (Iti d o kvs).yld i H x H' → g x σ H' fun σ2 H2 => tb { D with nx := N, ct := N, bk := D.nx } σ2 H2) := by
  refine ⟨fun i m σ H => m = kvs.length - i ∧ i ≤ kvs.length ∧ Pv i σ H, ⟨kvs.length, by simp, Nat.zero_le _, h0⟩, ?_⟩
  rintro i m σ H ⟨rfl, hi, p⟩
  by_cases hlt : i < kvs.length
  · refine .inr ⟨⟨hf i σ H hi p, hlt⟩, Pv (i + 1), fun σ' H' p' => ⟨kvs.length - (i + 1), by omega, rfl, hlt, p'⟩, fun x H' y => ?_⟩
    obtain ⟨T, k, v, e, rfl, hT, rfl⟩ := y
    exact hs i k v T σ H e p hT
  · exact .inl ⟨⟨hf i σ H hi p, by omega⟩, hd σ H (by rw [show kvs.length = i by omega]; exact p)⟩
theorem for_keys {d : Addr} {o : Obj} {kvs : List (Key × V)} {g : TG} {tb : TS} {D : Ends} {σ : L2.St} {H : Hp} (Pv : Nat → L2.St → Hp → Prop) (h0 : Pv 0 σ H) (hf : ∀ i σ H, i ≤ kvs.length → Pv i σ H → H d = some (.frz o (.dK kvs)))
    (hs : ∀ i k v σ H, kvs[i]? = some (k, v) → Pv i σ H → g (kV k) σ H fun σ2 H2 => tb { D with nx := Pv (i + 1), ct := Pv (i + 1), bk := D.nx } σ2 H2) (hd : ∀ σ H, Pv kvs.length σ H → D.nx σ H) :
    ∃ W : Nat → Nat → L2.St → Hp → Prop, (∃ m, W 0 m σ H) ∧ ∀ i m σ H, W i m σ H →
      ((Itk d o kvs).stop i H ∧ D.nx σ H) ∨ ((Itk d o kvs).go i H ∧ ∃ N : L2.St → Hp → Prop, (∀ σ' H', N σ' H' → ∃ m', m' < m ∧ W (i + 1) m' σ' H') ∧ ∀ x H', (Itk d o kvs).yld i H x H' → g x σ H' fun σ2 H2 => tb { D with nx := N, ct := N, bk := D.nx } σ2 H2) := by
  refine ⟨fun i m σ H => m = kvs.length - i ∧ i ≤ kvs.length ∧ Pv i σ H, ⟨kvs.length, by simp, Nat.zero_le _, h0⟩, ?_⟩
  rintro i m σ H ⟨rfl, hi, p⟩
  by_cases hlt : i < kvs.length
  · refine .inr ⟨⟨hf i σ H hi p, hlt⟩, Pv (i + 1), fun σ' H' p' => ⟨kvs.length - (i + 1), by omega, rfl, hlt, p'⟩, fun x H' y => ?_⟩
    obtain ⟨rfl, k, v, e, rfl⟩ := y
    exact hs i k v σ H' e p
  · exact .inl ⟨⟨hf i σ H hi p, by omega⟩, hd σ H (by rw [show kvs.length = i by omega]; exact p)⟩
/-- a comprehension over two lists side by side -/
theorem lc_zip {K : PySem.W.Frag} {a b : Addr} {xs ys : List V} (hxy : xs.length = ys.length) {g : TG} {tt : TT} {te : TE} {vs : List Nat} {σ : L2.St} {H1 : Hp} {D : Addr} {Qd : Hp → Prop} (Pv : Nat → Hp → Prop) (h0 : Pv 0 (upd H1 D (.lst [])))
    (hl : ∀ i H, i ≤ xs.length → Pv i H → SqL K H a xs ∧ SqL K H b ys)
    (hs : ∀ i x y T H, xs[i]? = some x → ys[i]? = some y → Pv i H → H T = none → g (.ref T) (wipe σ vs) (upd H T (.tup [x, y])) fun σ2 H2 => wipe σ2 vs = wipe σ vs ∧ tt σ2 H2 fun b H3 =>
      if b = true then te σ2 H3 fun y H4 => ∃ acc, H4 D = some (.lst acc) ∧ acc.length < sizeLine ∧ Pv (i + 1) (upd H4 D (.lst (acc ++ [y]))) else Pv (i + 1) H3) (hd : ∀ H, Pv xs.length H → Qd H) :
    ∃ W : Nat → Nat → Hp → Prop, (∃ m, W 0 m (upd H1 D (.lst []))) ∧ ∀ i m H, W i m H →
      ((Itz K a b).stop i H ∧ Qd H) ∨ ((Itz K a b).go i H ∧ ∃ Nx : Hp → Prop, (∀ H', Nx H' → ∃ m', m' < m ∧ W (i + 1) m' H') ∧ ∀ x H', (Itz K a b).yld i H x H' → g x (wipe σ vs) H' fun σ2 H2 => wipe σ2 vs = wipe σ vs ∧ tt σ2 H2 fun b H3 =>
        if b = true then te σ2 H3 fun y H4 => ∃ acc, H4 D = some (.lst acc) ∧ acc.length < sizeLine ∧ Nx (upd H4 D (.lst (acc ++ [y]))) else Nx H3) := by
  refine ⟨fun i m H => m = xs.length - i ∧ i ≤ xs.length ∧ Pv i H, ⟨xs.length, by simp, Nat.zero_le _, h0⟩, ?_⟩
  rintro i m H ⟨rfl, hi, p⟩
  obtain ⟨q1, q2⟩ := hl i H hi p
  by_cases hlt : i < xs.length
  · refine .inr ⟨⟨xs, ys, xs[i], ys[i]'(by omega), q1, q2, by simp, by simp⟩, Pv (i + 1), fun H' p' => ⟨xs.length - (i + 1), by omega, rfl, hlt, p'⟩, fun x H' y => ?_⟩
    obtain ⟨T, u, v, rfl, hT, rfl, e1, e2⟩ := y
    exact hs i u v T H (e1 xs q1) (e2 ys q2) p hT
  · exact .inl ⟨⟨xs, ys, q1, q2, .inl (by omega)⟩, hd H (by rw [show xs.length = i by omega]; exact p)⟩
end SM
end
section
set_option Elab.async false
set_option linter.all false
set_option maxRecDepth 100000
set_option maxHeartbeats 4000000
namespace SM
open PySem PySem.Spec PyProof.Rows L2
open Kg33 (has with_ near)

def top (i : Nat) : Stmt := PySem.Challenge.pw_sixtymines_s01_answers.main.body.getD i (.Pass ⟨0, 0, 0, 0⟩)
abbrev sIsSq : Stmt := top 12
abbrev sNear : Stmt := top 13
abbrev sHolds : Stmt := top 14
abbrev sSize : Stmt := top 15
abbrev sAmong : Stmt := top 16
abbrev sSetOf : Stmt := top 17

/-- squares as values -/
def nvs (cs : List Nat) : List V := cs.map fun n : Nat => V.int (n : Int)
theorem nvs_len (cs : List Nat) : (nvs cs).length = cs.length := by unfold nvs; rw [List.length_map]
theorem nvs_get {cs : List Nat} {i : Nat} {x : V} (h : (nvs cs)[i]? = some x) : ∃ c, cs[i]? = some c ∧ x = .int (c : Int) := by
  unfold nvs at h
  rw [List.getElem?_map] at h
  cases e : cs[i]? with
  | none => rw [e] at h; cases h
  | some c => rw [e] at h; exact ⟨c, rfl, (Option.some.inj h).symm⟩
theorem nvs_app (a b : List Nat) : nvs (a ++ b) = nvs a ++ nvs b := by unfold nvs; rw [List.map_append]
theorem take_snoc {α : Type} : ∀ {l : List α} {i : Nat} {x : α}, l[i]? = some x → l.take (i + 1) = l.take i ++ [x]
  | [], i, x, h => by simp at h
  | a :: l, 0, x, h => by
    have e : a = x := Option.some.inj h
    subst e; rfl
  | a :: l, i + 1, x, h => by
    have ih := take_snoc (l := l) (i := i) (x := x) h
    show a :: l.take (i + 1) = a :: l.take i ++ [x]
    rw [ih]; rfl

theorem takeLe {α : Type} (i : Nat) (l : List α) : (l.take i).length ≤ l.length := by rw [List.length_take]; exact Nat.min_le_right _ _
theorem Same.new {H : Hp} {p : Addr} {o : HO} (h : H p = none) : Same H (upd H p o) := fun b u e => by
  rw [upd_ne (ne_of_none e h)]; exact e
theorem Same.at {H H' : Hp} {p : Addr} {o : HO} (s : Same H H') (h : H p = none) : Same H (upd H' p o) := fun b u e => by
  rw [upd_ne (ne_of_none e h)]; exact s b u e

/-! tests of two whole numbers -/
theorem vne_t {x y : Int} (h : (!decide (V.int x = V.int y)) = true) : x ≠ y := by
  intro e; subst e; simp at h
theorem vne_f {x y : Int} (h : ¬ (!decide (V.int x = V.int y)) = true) : x = y := by
  apply Classical.byContradiction
  intro e
  apply h
  simp
  exact e
theorem veq_t {x y : Int} (h : decide (V.int x = V.int y) = true) : x = y := V.int.inj (of_decide_eq_true h)
theorem veq_f {x y : Int} (h : ¬ decide (V.int x = V.int y) = true) : x ≠ y := by
  intro e; apply h; subst e; simp

section
variable {X : Cx}
/-- a module's number -/
theorem pgl {x : Str} {i : Int} {pos : Pos} (hm : ∃ t, X.mg x = some (.int i t)) (hg : Gl X x := by rfl) (hd : (x == ("__debug__" : Str)) = false := by decide) : PE X (.Name x pos) (tC (.int i)) := by
  obtain ⟨t, h⟩ := hm
  exact pe_glob hg h ⟨t, rfl⟩ hd
end

/-- the module's names, as far as the squares' defs ask them -/
structure TxtS (mg : Str → Option Value) : Prop where
  rows : ∃ t, mg "ROWS" = some (.int 10 t)
  cols : ∃ t, mg "COLUMNS" = some (.int 6 t)
  sqs : ∃ t, mg "SQUARES" = some (.int 60 t)
  all : ∃ t, mg "ALL_SQUARES" = some (.int 1152921504606846975 t)
  range : mg "range" = none
  max : mg "max" = none
  min : mg "min" = none
  len : mg "len" = none
  list : mg "list" = none

def spIsSq : Sp := fun vs H Q _ => ∃ c : Int, vs = [.int c] ∧ Q (.bl (decide (0 ≤ c) && decide (c < 60))) H
def spHolds : Sp := fun vs H Q _ => ∃ s c : Nat, vs = [.int (s : Int), .int (c : Int)] ∧ Q (.bl (has s c)) H
def spSize : Sp := fun vs H Q _ => ∃ s : Nat, vs = [.int (s : Int)] ∧ s < 2 ^ 60 ∧ Q (.int ((Kg33.size s : Nat) : Int)) H
def spNear : Sp := fun vs H Q _ => ∃ c : Nat, vs = [.int (c : Int)] ∧ c < 60 ∧ ∀ (H' : Hp) (p : Addr), Same H H' → H p = none → H' p = some (.lst (nvs (near c))) → Q (.ref p) H'
def spAmong (K : PySem.W.Frag) : Sp := fun vs H Q _ => ∃ (s : Nat) (a : Addr) (cs : List Nat), vs = [.int (s : Int), .ref a] ∧ SqL K H a (nvs cs) ∧ cs.length ≤ 1000 ∧
  ∀ (H' : Hp) (p : Addr), Same H H' → H p = none → H' p = some (.lst (nvs (cs.filter (has s)))) → Q (.ref p) H'

section
variable {P : Program} {w : World} {K : PySem.W.Frag} {mg : Str → Option Value} {base : Heap}

theorem scIsSq : FnScope ["c"] ["c"] (defScope sIsSq) := ⟨rfl, rfl, rfl, by decide +kernel, rfl, by decide +kernel, by decide +kernel⟩
theorem ok_isSq {f : Addr} {fd : FuncData} (F : Fun K "is_square" "is_square" sIsSq f fd) (T : TxtS mg) : FnOk P w K mg base CX0 1 f fd ["c"] spIsSq := by
  refine F.ok scIsSq (fun vs H Q E h => ?_) (fun cdv A outer s H vs Q E hr h => ?_)
  · obtain ⟨c, rfl, _⟩ := h
    rfl
  · obtain ⟨c, rfl, k⟩ := h
    refine ⟨_, pss_one (ps_ret (pe_and (pe_cmpR op_le pe_int (pv 0) (nomark _)) (pe_one (pe_cmpR op_lt (pv 0) (pgl T.sqs) (nomark _))))), ?_⟩
    refine ⟨_, rfl, _, _, rfl, rfl, _, rfl, ite2 (fun h1 => ?_) fun h1 => ?_⟩
    · refine ⟨_, rfl, _, _, rfl, rfl, ?_⟩
      rw [h1, Bool.true_and] at k
      exact k
    · have h2 : decide (0 ≤ c) = false := by simpa using h1
      rw [h2, Bool.false_and] at k
      exact k

theorem scHolds : FnScope ["squares", "c"] ["squares", "c"] (defScope sHolds) := ⟨rfl, rfl, rfl, by decide +kernel, rfl, by decide +kernel, by decide +kernel⟩
theorem ok_holds {f : Addr} {fd : FuncData} (F : Fun K "holds" "holds" sHolds f fd) : FnOk P w K mg base CX0 1 f fd ["squares", "c"] spHolds := by
  refine F.ok scHolds (fun vs H Q E h => ?_) (fun cdv A outer st H vs Q E hr h => ?_)
  · obtain ⟨s, c, rfl, _⟩ := h
    rfl
  · obtain ⟨s, c, rfl, k⟩ := h
    refine ⟨_, pss_one (ps_ret (pe_cmpR op_eq (pe_op op_and (pe_op op_shr (pv 0) (pv 1)) pe_int) pe_int (nomark _))), ?_⟩
    refine ⟨_, rfl, _, rfl, _, _, rfl, rfl, Int.natCast_nonneg _, _, _, rfl, rfl, rfl, ?_⟩
    have e : (decide (V.int (Builtin.bitAnd ((s : Int) / 2 ^ ((c : Int)).toNat) 1) = V.int 1)) = has s c := by
      rw [Int.toNat_natCast, bit_at]
      cases has s c <;> simp
    rw [e]
    exact k

theorem scSize : FnScope ["squares", "many", "rest"] ["squares"] (defScope sSize) := ⟨rfl, rfl, rfl, by decide +kernel, rfl, by decide +kernel, by decide +kernel⟩
theorem ok_size {f : Addr} {fd : FuncData} (F : Fun K "size" "size" sSize f fd) : FnOk P w K mg base CX0 1 f fd ["squares"] spSize := by
  refine F.ok scSize (fun vs H Q E h => ?_) (fun cdv A outer st H vs Q E hr h => ?_)
  · obtain ⟨s, rfl, _⟩ := h
    rfl
  · obtain ⟨s, rfl, hs, k⟩ := h
    refine ⟨_, pss_cons (ps_set (i := 1) scSize.nd rfl (Or.inl rfl) pe_int) (pss_cons (ps_set (i := 2) scSize.nd rfl (Or.inl rfl) (pv 0))
      (pss_cons (ps_while PassesOwn.never (pt_cmpR op_gt (pv 2) pe_int (nomark _))
        (pss_cons (ps_set (i := 1) scSize.nd rfl (Or.inl rfl) (pe_op op_add (pv 1) (pe_op op_and (pv 2) pe_int)))
        (pss_one (ps_set (i := 2) scSize.nd rfl (Or.inl rfl) (pe_op op_shr (pv 2) pe_int)))))
      (pss_one (ps_ret (pv 1))))), ?_⟩
    refine ⟨_, rfl, fun m σ H' => ∃ n r : Nat, σ = [some (.int (s : Int)), some (.int (n : Int)), some (.int (r : Int))] ∧ H' = H ∧ m = r ∧ r < 2 ^ 60 ∧ n + Kg33.size r = Kg33.size s, ⟨s, 0, s, rfl, rfl, rfl, hs, Nat.zero_add _⟩, ?_⟩
    rintro m σ H' ⟨n, r, rfl, rfl, hmr, hr1, hr2⟩
    subst m
    refine ⟨_, rfl, _, _, rfl, rfl, _, rfl, ite2 (fun h1 => ?_) fun h1 => ?_⟩
    · have h1 : 0 < r := by simpa using h1
      refine ⟨fun σ' H'' => ∃ n' r' : Nat, σ' = [some (.int (s : Int)), some (.int (n' : Int)), some (.int (r' : Int))] ∧ H'' = H' ∧ r' < r ∧ r' < 2 ^ 60 ∧ n' + Kg33.size r' = Kg33.size s, ?_, ?_⟩
      · rintro σ' H'' ⟨n', r', rfl, rfl, h2, h3, h4⟩
        exact ⟨r', h2, n', r', rfl, rfl, rfl, h3, h4⟩
      · refine ⟨_, rfl, _, rfl, _, _, rfl, rfl, _, _, rfl, rfl, _, rfl, _, _, rfl, rfl, (by show (0 : Int) ≤ 1; decide), ?_⟩
        refine ⟨n + r % 2, r / 2, ?_, rfl, by omega, by omega, ?_⟩
        · have e1 : (n : Int) + Builtin.bitAnd (r : Int) 1 = ((n + r % 2 : Nat) : Int) := by
            rw [show (1 : Int) = ((1 : Nat) : Int) from rfl, band_nat, Nat.and_one_is_mod]; omega
          have e2 : (r : Int) / 2 ^ ((1 : Int)).toNat = ((r / 2 : Nat) : Int) := by
            rw [show ((1 : Int)).toNat = 1 from rfl]; omega
          show [some (V.int (s : Int)), some (V.int ((n : Int) + Builtin.bitAnd (r : Int) 1)), some (V.int ((r : Int) / 2 ^ ((1 : Int)).toNat))] = _
          rw [e1, e2]
        · have := size_half hr1; omega
    · have h1 : r = 0 := by
        have : ¬ 0 < r := by simpa using h1
        omega
      subst h1
      rw [size_zero, Nat.add_zero] at hr2
      subst hr2
      exact ⟨_, rfl, k⟩

/-! squares_about -/
def r0 (c : Nat) : Nat := c / 6 - 1
def r1 (c : Nat) : Nat := min (c / 6 + 2) 10
def k0 (c : Nat) : Nat := c % 6 - 1
def k1 (c : Nat) : Nat := min (c % 6 + 2) 6
def sqRow (c r n : Nat) : List Nat := ((List.range n).map fun j => r * 6 + (k0 c + j)).filter fun d => d != c
def sqRows (c i : Nat) : List Nat := (List.range i).flatMap fun j => sqRow c (r0 c + j) (k1 c - k0 c)
theorem near_rows : ∀ c, c < 60 → sqRows c (r1 c - r0 c) = near c := by decide +kernel
theorem sqRows_succ (c i : Nat) : sqRows c (i + 1) = sqRows c i ++ sqRow c (r0 c + i) (k1 c - k0 c) := by
  unfold sqRows
  rw [List.range_succ, List.flatMap_append]; simp
theorem sqRow_in {c r n : Nat} (h : r * 6 + (k0 c + n) ≠ c) : sqRow c r (n + 1) = sqRow c r n ++ [r * 6 + (k0 c + n)] := by
  unfold sqRow
  rw [List.range_succ, List.map_append, List.filter_append]
  simp [h]
theorem sqRow_out {c r n : Nat} (h : r * 6 + (k0 c + n) = c) : sqRow c r (n + 1) = sqRow c r n := by
  unfold sqRow
  rw [List.range_succ, List.map_append, List.filter_append]
  simp [h]
theorem sqRow_len (c r n : Nat) : (sqRow c r n).length ≤ n := by
  unfold sqRow
  refine Nat.le_trans (List.length_filter_le _ _) ?_
  simp
theorem sqRows_len (c : Nat) : ∀ i, (sqRows c i).length ≤ 6 * i
  | 0 => by simp [sqRows]
  | i + 1 => by
    rw [sqRows_succ, List.length_append]
    have h1 := sqRows_len c i
    have h2 := sqRow_len c (r0 c + i) (k1 c - k0 c)
    have : k1 c ≤ 6 := Nat.min_le_right _ _
    omega

theorem scNear : FnScope ["c", "row", "column", "found", "r", "k", "square"] ["c"] (defScope sNear) := ⟨rfl, rfl, rfl, by decide +kernel, rfl, by decide +kernel, by decide +kernel⟩
theorem ok_near {f : Addr} {fd : FuncData} (F : Fun K "squares_about" "squares_about" sNear f fd) (T : TxtS mg) : FnOk P w K mg base CX0 1 f fd ["c"] spNear := by
  refine F.ok scNear (fun vs H Q E h => ?_) (fun cdv A outer st H vs Q E hr h => ?_)
  · obtain ⟨c, rfl, _⟩ := h
    rfl
  · obtain ⟨c, rfl, hc, k⟩ := h
    refine ⟨_, pss_cons (ps_set (i := 1) scNear.nd rfl (Or.inl rfl) (pe_op op_fdiv (pv 0) (pgl T.cols)))
      (pss_cons (ps_set (i := 2) scNear.nd rfl (Or.inl rfl) (pe_op op_mod (pv 0) (pgl T.cols)))
      (pss_cons (ps_set (i := 3) scNear.nd rfl (Or.inl rfl) (pe_lst pa_nil))
      (pss_cons (ps_for PassesOwn.never rfl (pi_range2 rfl T.range
          (pa_cons (pe_callB (call_max2 rfl) rfl T.max boot_max (pa_cons (pe_op op_sub (pv 1) pe_int) (pa_cons pe_int pa_nil)))
          (pa_cons (pe_callB (call_min2 rfl) rfl T.min boot_min (pa_cons (pe_op op_add (pv 1) pe_int) (pa_cons (pgl T.rows) pa_nil))) pa_nil)))
          (pg_name (i := 4) scNear.nd rfl (Or.inl rfl))
        (pss_one (ps_for PassesOwn.never rfl (pi_range2 rfl T.range
            (pa_cons (pe_callB (call_max2 rfl) rfl T.max boot_max (pa_cons (pe_op op_sub (pv 2) pe_int) (pa_cons pe_int pa_nil)))
            (pa_cons (pe_callB (call_min2 rfl) rfl T.min boot_min (pa_cons (pe_op op_add (pv 2) pe_int) (pa_cons (pgl T.cols) pa_nil))) pa_nil)))
            (pg_name (i := 5) scNear.nd rfl (Or.inl rfl))
          (pss_cons (ps_set (i := 6) scNear.nd rfl (Or.inl rfl) (pe_op op_add (pe_op op_mul (pv 4) (pgl T.cols)) (pv 5)))
          (pss_one (ps_if (pt_cmpR op_ne (pv 6) (pv 0) (nomark _))
            (pss_one (ps_expr (pe_bm PySem.F.plainAttrs_list PySem.F.slot_list_append PySem.F.type_list_append mt_append (pv 3) (pa_cons (pv 6) pa_nil)))) pss_nil))))))
      (pss_one (ps_ret (pv 3)))))), ?_⟩
    have er1 : (if (0 : Int) > (c : Int) / 6 - 1 then 0 else (c : Int) / 6 - 1) = ((r0 c : Nat) : Int) := by
      unfold r0; split <;> omega
    have er2 : (if (10 : Int) < (c : Int) / 6 + 2 then 10 else (c : Int) / 6 + 2) = ((r1 c : Nat) : Int) := by
      unfold r1; split <;> omega
    have ek1 : (if (0 : Int) > (c : Int) % 6 - 1 then 0 else (c : Int) % 6 - 1) = ((k0 c : Nat) : Int) := by
      unfold k0; split <;> omega
    have ek2 : (if (6 : Int) < (c : Int) % 6 + 2 then 6 else (c : Int) % 6 + 2) = ((k1 c : Nat) : Int) := by
      unfold k1; split <;> omega
    have hr0 : r0 c ≤ 10 := by unfold r0; omega
    have hr1 : r1 c ≤ 10 := Nat.min_le_right _ _
    have hk0 : k0 c ≤ 6 := by unfold k0; omega
    have hk1 : k1 c ≤ 6 := Nat.min_le_right _ _
    refine ⟨_, rfl, _, _, rfl, rfl, ⟨by decide, by decide⟩, ?_⟩
    refine ⟨_, rfl, _, _, rfl, rfl, (by show (0 : Int) < 6; decide), ?_⟩
    refine ⟨Nat.zero_le _, fun p hp => ?_⟩
    refine ⟨_, rfl, _, _, rfl, rfl, _, _, rfl, _, rfl, _, _, rfl, rfl, _, _, rfl, _, _, rfl, ?_, ?_⟩
    · rw [er1, er2]; omega
    rw [er1, er2, show (((r1 c : Nat) : Int) - ((r0 c : Nat) : Int)).toNat = r1 c - r0 c by omega]
    refine for_range (fun i σ H' => ∃ v4 v5 v6 : Option V, σ = [some (.int (c : Int)), some (.int ((c : Int) / 6)), some (.int ((c : Int) % 6)), some (.ref p), v4, v5, v6] ∧ Same H H' ∧ H' p = some (.lst (nvs (sqRows c i))))
      ⟨none, none, none, rfl, Same.new hp, upd_same⟩ ?_ ?_
    · rintro i σ H1 hi ⟨v4, v5, v6, rfl, s1, h1⟩
      refine ⟨_, rfl, _, _, rfl, rfl, _, _, rfl, _, rfl, _, _, rfl, rfl, _, _, rfl, _, _, rfl, ?_, ?_⟩
      · rw [ek1, ek2]; omega
      rw [ek1, ek2, show (((k1 c : Nat) : Int) - ((k0 c : Nat) : Int)).toNat = k1 c - k0 c by omega]
      refine for_range (fun j σ H' => ∃ v5 v6 : Option V, σ = [some (.int (c : Int)), some (.int ((c : Int) / 6)), some (.int ((c : Int) % 6)), some (.ref p), some (.int (((r0 c : Nat) : Int) + (i : Nat))), v5, v6] ∧ Same H H' ∧ H' p = some (.lst (nvs (sqRows c i ++ sqRow c (r0 c + i) j))))
        ⟨v5, v6, rfl, s1, by rw [h1, show sqRow c (r0 c + i) 0 = [] from rfl, List.append_nil]⟩ ?_ ?_
      · rintro j σ H2 hj ⟨v5, v6, rfl, s2, h2⟩
        have es : (((r0 c : Nat) : Int) + (i : Nat)) * 6 + (((k0 c : Nat) : Int) + (j : Nat)) = (((r0 c + i) * 6 + (k0 c + j) : Nat) : Int) := by omega
        refine ⟨_, rfl, _, _, rfl, rfl, .inr ⟨by decide, by decide⟩, _, rfl, _, _, rfl, rfl, ?_⟩
        refine ⟨_, rfl, _, rfl, rfl, _, rfl, ite2 (fun h3 => ?_) fun h3 => ?_⟩
        · have h3 : (!decide (V.int ((((r0 c : Nat) : Int) + (i : Nat)) * 6 + (((k0 c : Nat) : Int) + (j : Nat))) = V.int (c : Int))) = true := h3
          rw [es] at h3
          have h4 : (r0 c + i) * 6 + (k0 c + j) ≠ c := by
            intro e; rw [e] at h3; simp at h3
          refine ⟨_, rfl, .inl ⟨rfl, _, SqL.of h2⟩, _, rfl, p, _, _, rfl, rfl, h2, ?_, ?_⟩
          · rw [nvs_len, List.length_append]
            have a1 := sqRows_len c i
            have a2 := sqRow_len c (r0 c + i) j
            exact Nat.lt_of_le_of_lt (show _ ≤ 1000 by omega) (by decide)
          · refine ⟨_, _, rfl, Same.at s2 hp, Eq.trans upd_same ?_⟩
            rw [sqRow_in h4, ← List.append_assoc, nvs_app (sqRows c i ++ sqRow c (r0 c + i) j)]
            show some (HO.lst (_ ++ [V.int ((((r0 c : Nat) : Int) + (i : Nat)) * 6 + (((k0 c : Nat) : Int) + (j : Nat)))])) = some (HO.lst (_ ++ [V.int (((r0 c + i) * 6 + (k0 c + j) : Nat) : Int)]))
            rw [es]
        · have h3 : ¬ (!decide (V.int ((((r0 c : Nat) : Int) + (i : Nat)) * 6 + (((k0 c : Nat) : Int) + (j : Nat))) = V.int (c : Int))) = true := h3
          rw [es] at h3
          have h4 : (r0 c + i) * 6 + (k0 c + j) = c := by
            apply Classical.byContradiction
            intro e
            apply h3
            simp
            omega
          refine ⟨_, _, rfl, s2, ?_⟩
          rw [h2, sqRow_out h4]
      · rintro σ H2 ⟨v5, v6, rfl, s2, h2⟩
        exact ⟨_, _, _, rfl, s2, by rw [h2, sqRows_succ]⟩
    · rintro σ H1 ⟨v4, v5, v6, rfl, s1, h1⟩
      rw [near_rows c hc] at h1
      exact ⟨_, rfl, k H1 p s1 hp h1⟩

theorem scAmong : FnScope ["squares", "candidates", "c"] ["squares", "candidates"] (defScope sAmong) := ⟨rfl, rfl, rfl, by decide +kernel, rfl, by decide +kernel, by decide +kernel⟩
theorem ok_among {f fh : Addr} {fd fdh : FuncData} (F : Fun K "members_among" "members_among" sAmong f fd) (FH : Fun K "holds" "holds" sHolds fh fdh) (bH : Binds K fdh ["squares", "c"] []) (mh : mg "holds" = some (.ref fh)) :
    FnOk P w K mg base CX0 2 f fd ["squares", "candidates"] (spAmong K) := by
  have GH : FnOk P w K mg base CX0 1 fh fdh ["squares", "c"] spHolds := ok_holds FH
  refine F.ok scAmong (fun vs H Q E h => ?_) (fun cdv A outer st H vs Q E hr h => ?_)
  · obtain ⟨s, a, cs, rfl, _⟩ := h
    rfl
  · obtain ⟨s, a, cs, rfl, hS, hl, k⟩ := h
    refine ⟨_, pss_one (ps_ret (pe_lc (own := [("c", 2)]) rfl scAmong.nd (pi_list (pv 1)) (blkOk_by (by rfl))
      (fun s H C cl fp => pg_name (i := 2) scAmong.nd rfl (Or.inl rfl) (.inr rfl))
      (fun s H C cl fp => pts_one (pt_val (pe_call GH hr rfl mh FH.kp bH .nil pass0 (pa_cons (pv 0) (pa_cons (pv 2) pa_nil)))))
      (fun s H C cl fp => pv 2))), ?_⟩
    refine ⟨_, rfl, a, rfl, ⟨_, hS⟩, fun D hD => lc_list (K := K) (a := a) (xs := nvs cs) (fun i H' => Same H H' ∧ H' D = some (.lst (nvs ((cs.take i).filter (has s)))))
      ⟨Same.new hD, upd_same⟩ (fun i H' _ ⟨s1, _⟩ => s1.seq hS) ?_ ?_⟩
    · rintro i x H1 hx ⟨s1, h1⟩
      obtain ⟨c, hc, rfl⟩ := nvs_get hx
      refine ⟨rfl, _, rfl, _, rfl, s, c, rfl, _, rfl, ite2 (fun h2 => ?_) fun h2 => ?_⟩
      · refine ⟨_, rfl, _, h1, ?_, Same.at s1 hD, ?_⟩
        · rw [nvs_len]
          exact Nat.lt_of_le_of_lt (Nat.le_trans (List.length_filter_le _ _) (Nat.le_trans (takeLe _ _) hl)) (by decide)
        · rw [upd_same, take_snoc hc, List.filter_append, nvs_app]
          simp [h2, nvs]
      · refine ⟨s1, ?_⟩
        rw [h1, take_snoc hc, List.filter_append]
        simp [h2]
    · rintro H1 ⟨s1, h1⟩
      rw [nvs_len, List.take_length] at h1
      exact k H1 D s1 hD h1

def spSetOf (K : PySem.W.Frag) : Sp := fun vs H Q _ => ∃ (a : Addr) (cs : List Nat), vs = [.ref a] ∧ SqL K H a (nvs cs) ∧ (∀ c ∈ cs, c < 60) ∧ Q (.int ((Kg33.setOf cs : Nat) : Int)) H
theorem scSetOf : FnScope ["squares", "together", "c"] ["squares"] (defScope sSetOf) := ⟨rfl, rfl, rfl, by decide +kernel, rfl, by decide +kernel, by decide +kernel⟩
theorem ok_setOf {f : Addr} {fd : FuncData} (F : Fun K "set_of" "set_of" sSetOf f fd) : FnOk P w K mg base CX0 1 f fd ["squares"] (spSetOf K) := by
  refine F.ok scSetOf (fun vs H Q E h => ?_) (fun cdv A outer st H vs Q E hr h => ?_)
  · obtain ⟨a, cs, rfl, _⟩ := h
    rfl
  · obtain ⟨a, cs, rfl, hS, hc, k⟩ := h
    refine ⟨_, pss_cons (ps_set (i := 1) scSetOf.nd rfl (Or.inl rfl) pe_int)
      (pss_cons (ps_for PassesOwn.never rfl (pi_list (pv 0)) (pg_name (i := 2) scSetOf.nd rfl (Or.inl rfl))
        (pss_one (ps_set (i := 1) scSetOf.nd rfl (Or.inl rfl) (pe_op op_or (pv 1) (pe_op op_shl pe_int (pv 2))))))
      (pss_one (ps_ret (pv 1)))), ?_⟩
    refine ⟨_, rfl, a, rfl, ⟨_, hS⟩, for_list (K := K) (a := a) (xs := nvs cs) (fun i σ H' => ∃ v : Option V, σ = [some (.ref a), some (.int ((Kg33.setOf (cs.take i) : Nat) : Int)), v] ∧ H' = H)
      ⟨none, rfl, rfl⟩ (fun i σ H' _ ⟨_, _, e⟩ => by subst e; exact hS) ?_ ?_⟩
    · rintro i x σ H' hx ⟨v, rfl, rfl⟩
      obtain ⟨c, hc', rfl⟩ := nvs_get hx
      have h60 := hc c (List.mem_of_getElem? hc')
      refine ⟨_, rfl, _, rfl, _, _, rfl, rfl, ⟨Int.natCast_nonneg _, by omega, by decide⟩, _, _, rfl, rfl, ?_⟩
      refine ⟨some (.int (c : Int)), ?_, rfl⟩
      have e1 : Builtin.bitOr ((Kg33.setOf (cs.take i) : Nat) : Int) (1 * 2 ^ ((c : Int)).toNat) = ((Kg33.setOf (cs.take (i + 1)) : Nat) : Int) := by
        rw [Int.toNat_natCast, Int.one_mul, or_at, take_snoc hc', setOf_snoc]
      show [some (V.ref a), some (V.int (Builtin.bitOr ((Kg33.setOf (cs.take i) : Nat) : Int) (1 * 2 ^ ((c : Int)).toNat))), some (V.int (c : Int))] = _
      rw [e1]
    · rintro σ H' ⟨v, rfl, rfl⟩
      rw [nvs_len, List.take_length]
      exact ⟨_, rfl, k⟩
end
end SM
end
section
set_option Elab.async false
set_option linter.all false
set_option maxRecDepth 100000
set_option maxHeartbeats 4000000
namespace SM
open PySem PySem.Spec PyProof.Rows L2
open Kg33 (has with_ near)

abbrev sGame : Stmt := top 42
abbrev sInit : Stmt := inClass sGame 0
abbrev sBegin : Stmt := inClass sGame 1
abbrev sUncover : Stmt := inClass sGame 2
abbrev sMark : Stmt := inClass sGame 3
abbrev sAbout : Stmt := inClass sGame 4
abbrev sTell : Stmt := inClass sGame 5
abbrev sSight : Stmt := inClass sGame 6
abbrev sMinesAbout : Stmt := inClass sGame 7
abbrev sRefusal : Stmt := inClass sGame 8
abbrev sAsMany : Stmt := inClass sGame 9
abbrev sLose : Stmt := inClass sGame 10
abbrev sSafe : Stmt := inClass sGame 11

/-! ### a game as an instance's attributes -/
def gf (g : Kg33.Game) : List (Str × V) := [("mines", .int (g.mines : Int)), ("opened", .int (g.open_ : Int)), ("marked", .int (g.marks : Int)), ("state", .int (g.over : Int))]
theorem gf_mines (g : Kg33.Game) : (gf g).lookup ("mines" : Str) = some (.int (g.mines : Int)) := by rfl
theorem gf_opened (g : Kg33.Game) : (gf g).lookup ("opened" : Str) = some (.int (g.open_ : Int)) := by rfl
theorem gf_marked (g : Kg33.Game) : (gf g).lookup ("marked" : Str) = some (.int (g.marks : Int)) := by rfl
theorem gf_state (g : Kg33.Game) : (gf g).lookup ("state" : Str) = some (.int (g.over : Int)) := by rfl
theorem gf_put_opened (g : Kg33.Game) (o : Nat) : putF "opened" (.int (o : Int)) (gf g) = gf { g with open_ := o } := by rfl
theorem gf_put_marked (g : Kg33.Game) (o : Nat) : putF "marked" (.int (o : Int)) (gf g) = gf { g with marks := o } := by rfl
theorem gf_put_state (g : Kg33.Game) (o : Nat) : putF "state" (.int (o : Int)) (gf g) = gf { g with over := o } := by rfl
def GameAt (C : Addr) (H : Hp) (a : Addr) (g : Kg33.Game) : Prop := ∃ dx, H a = some (.ins C dx (gf g))
/-- all but the thing at a is as it was -/
def Keep (a : Addr) (H H' : Hp) : Prop := ∀ b o, H b = some o → b ≠ a → H' b = some o
theorem Keep.refl {a : Addr} (H : Hp) : Keep a H H := fun _ _ h _ => h
theorem Keep.trans {a : Addr} {H H1 H2 : Hp} (x : Keep a H H1) (y : Keep a H1 H2) : Keep a H H2 := fun b o h n => y b o (x b o h n) n
theorem Keep.of {a : Addr} {H H' : Hp} (s : Same H H') : Keep a H H' := fun b o h _ => s b o h
theorem Keep.upd {a : Addr} {H H' : Hp} {o : HO} (x : Keep a H H') : Keep a H (upd H' a o) := fun b u h n => by rw [upd_ne n]; exact x b u h n
theorem Keep.new {a p : Addr} {H H' : Hp} {o : HO} (x : Keep a H H') (hp : H p = none) : Keep a H (L2.upd H' p o) := fun b u h n => by
  rw [upd_ne (ne_of_none h hp)]; exact x b u h n
theorem GameAt.same {C : Addr} {H H' : Hp} {a : Addr} {g : Kg33.Game} (h : GameAt C H a g) (s : Same H H') : GameAt C H' a g := by
  obtain ⟨dx, h⟩ := h
  exact ⟨dx, s _ _ h⟩

structure TxtG (K : PySem.W.Frag) (mg : Str → Option Value) (C : Addr) : Prop where
  cl : Cls K C
  nM : NoAttr K C "mines"
  nO : NoAttr K C "opened"
  nK : NoAttr K C "marked"
  nS : NoAttr K C "state"
  going : ∃ t, mg "GOING_ON" = some (.int 0 t)
  won : ∃ t, mg "WON" = some (.int 1 t)
  lost : ∃ t, mg "LOST" = some (.int 2 t)
  hit : ∃ t, mg "HIT_A_MINE" = some (.int (-1) t)
  notAllowed : ∃ t, mg "NOT_ALLOWED" = some (.int (-2) t)
  notIn : ∃ t, mg "NOT_IN_RANGE" = some (.int (-8) t)
  isOver : ∃ t, mg "GAME_IS_OVER" = some (.int (-9) t)

def spRefusal (C : Addr) : Sp := fun vs H Q _ => ∃ (a : Addr) (g : Kg33.Game) (c : Int), vs = [.ref a, .int c] ∧ GameAt C H a g ∧ Q (.int (refusal g c)) H
def spLose (C : Addr) : Sp := fun vs H Q _ => ∃ (a : Addr) (g : Kg33.Game) (c : Nat), vs = [.ref a, .int (c : Int)] ∧ c < 60 ∧ GameAt C H a g ∧
  ∀ H' : Hp, Keep a H H' → GameAt C H' a { g with open_ := with_ g.open_ c, over := 2 } → Q (.int (-1)) H'
def spAsMany (K : PySem.W.Frag) (C : Addr) : Sp := fun vs H Q _ => ∃ (a l : Addr) (g : Kg33.Game) (cs : List Nat), vs = [.ref a, .ref l] ∧ GameAt C H a g ∧ SqL K H l (nvs cs) ∧ cs.length ≤ 1000 ∧
  ∀ H' : Hp, Same H H' → Q (.bl (decide ((cs.filter (has g.marks)).length = (cs.filter (has g.mines)).length))) H'
def spTell (C : Addr) : Sp := fun vs H Q _ => ∃ (a : Addr) (g : Kg33.Game), vs = [.ref a] ∧ GameAt C H a g ∧
  ∀ (H' : Hp) (p : Addr), Same H H' → H p = none → H' p = some (.lst [.int (g.over : Int), .int (g.open_ : Int), .int (g.marks : Int)]) → Q (.ref p) H'
def spBegin (C : Addr) : Sp := fun vs H Q _ => ∃ (a dx : Addr) (fs : List (Str × V)) (m : Nat), vs = [.ref a, .int (m : Int)] ∧ H a = some (.ins C dx fs) ∧ (fs = [] ∨ ∃ g, fs = gf g) ∧
  (2 ^ 60 ≤ m → Q (.int (-8)) H) ∧ (m < 2 ^ 60 → ∀ H' : Hp, Keep a H H' → GameAt C H' a (Kg33.begin_ m) → Q (.int ((Kg33.size m : Nat) : Int)) H')
def spInitG (C : Addr) : Sp := fun vs H Q _ => ∃ (a dx : Addr), vs = [.ref a] ∧ H a = some (.ins C dx []) ∧ ∀ H' : Hp, Keep a H H' → GameAt C H' a (Kg33.begin_ 0) → Q .non H'
def spSafe (K : PySem.W.Frag) (C : Addr) : Sp := fun vs H Q _ => ∃ (a l : Addr) (g : Kg33.Game) (cs : List Nat), vs = [.ref a, .ref l] ∧ GameAt C H a g ∧ GameOk g ∧ SqL K H l (nvs cs) ∧ cs.length ≤ 60 ∧ (∀ c ∈ cs, c < 60) ∧
  ∀ H' : Hp, Keep a H H' → GameAt C H' a (safeRes g cs) → Q (.int ((Kg33.size (safeRes g cs).open_ : Int) - Kg33.size g.open_)) H'
/-- open, mark, about: as the specification has them -/
def spMove (C : Addr) (mk : Int → Kg33.Call) : Sp := fun vs H Q _ => ∃ (a : Addr) (g : Kg33.Game) (c : Int), vs = [.ref a, .int c] ∧ GameAt C H a g ∧ GameOk g ∧
  ∀ H' : Hp, Keep a H H' → GameAt C H' a (Kg33.does g (mk c)).1 → Q (.int (Kg33.does g (mk c)).2.value) H'

section
variable {P : Program} {w : World} {K : PySem.W.Frag} {mg : Str → Option Value} {base : Heap} {C : Addr}

theorem scRefusal : FnScope ["self", "c"] ["self", "c"] (defScope sRefusal) := ⟨rfl, rfl, rfl, by decide +kernel, rfl, by decide +kernel, by decide +kernel⟩
theorem ok_refusal {f fq : Addr} {fd fdq : FuncData} (F : Fun K "refusal_of" "Game.refusal_of" sRefusal f fd) (T : TxtG K mg C) (TS : TxtS mg)
    (FQ : Fun K "is_square" "is_square" sIsSq fq fdq) (bQ : Binds K fdq ["c"] []) (mq : mg "is_square" = some (.ref fq)) : FnOk P w K mg base CX0 2 f fd ["self", "c"] (spRefusal C) := by
  have GQ : FnOk P w K mg base CX0 1 fq fdq ["c"] spIsSq := ok_isSq FQ TS
  refine F.ok scRefusal (fun vs H Q E h => ?_) (fun cdv A outer st H vs Q E hr h => ?_)
  · obtain ⟨a, g, c, rfl, _⟩ := h
    rfl
  · obtain ⟨a, g, c, rfl, ⟨dx, ha⟩, k⟩ := h
    refine ⟨_, pss_cons (ps_if (pt_not (pt_val (pe_call GQ hr rfl mq FQ.kp bQ .nil pass0 (pa_cons (pv 1) pa_nil)))) (pss_one (ps_ret (pgl T.notIn))) pss_nil)
      (pss_cons (ps_if (pt_cmpR op_ne (pe_fld (pv 0) rfl) (pgl T.going) (nomark _)) (pss_one (ps_ret (pgl T.isOver))) pss_nil)
      (pss_one (ps_ret pe_int))), ?_⟩
    refine ⟨_, rfl, c, rfl, _, rfl, ite2 (fun h1 => ?_) fun h1 => ?_⟩
    · have e : refusal g c = -8 := by
        have h2 : Kg33.onBoard c = false := by
          rw [onB]; cases x : decide (0 ≤ c) <;> cases y : decide (c < 60) <;> simp [x, y] at h1 ⊢
        unfold refusal; rw [if_pos h2]
      rw [e] at k
      exact k
    · have h2 : Kg33.onBoard c = true := by rw [onB]; simpa using h1
      refine ⟨_, rfl, a, C, dx, _, _, rfl, ha, T.cl, T.nS, gf_state g, rfl, _, rfl, ite2 (fun h3 => ?_) fun h3 => ?_⟩
      · have h4 : g.over ≠ 0 := by
          intro e; rw [e] at h3; simp at h3
        have e : refusal g c = -9 := by
          unfold refusal; rw [h2, if_neg (by decide), if_pos h4]
        rw [e] at k
        exact k
      · have h4 : ¬ g.over ≠ 0 := by
          intro e; apply h3; simp; omega
        have e : refusal g c = 0 := by
          unfold refusal; rw [h2, if_neg (by decide), if_neg h4]
        rw [e] at k
        exact k

theorem scLose : FnScope ["self", "c"] ["self", "c"] (defScope sLose) := ⟨rfl, rfl, rfl, by decide +kernel, rfl, by decide +kernel, by decide +kernel⟩
theorem ok_lose {f : Addr} {fd : FuncData} (F : Fun K "lose_at" "Game.lose_at" sLose f fd) (T : TxtG K mg C) : FnOk P w K mg base CX0 1 f fd ["self", "c"] (spLose C) := by
  refine F.ok scLose (fun vs H Q E h => ?_) (fun cdv A outer st H vs Q E hr h => ?_)
  · obtain ⟨a, g, c, rfl, _⟩ := h
    rfl
  · obtain ⟨a, g, c, rfl, hc, ⟨dx, ha⟩, k⟩ := h
    refine ⟨_, pss_cons (ps_fld (pv 0) (pe_op op_or (pe_fld (pv 0) rfl) (pe_op op_shl pe_int (pv 1))) rfl)
      (pss_cons (ps_fld (pv 0) (pgl T.lost) rfl) (pss_one (ps_ret (pgl T.hit)))), ?_⟩
    refine ⟨_, rfl, a, C, dx, _, _, rfl, ha, T.cl, T.nO, gf_opened g, _, rfl, _, _, rfl, rfl, ⟨Int.natCast_nonneg _, by omega, by decide⟩, _, _, rfl, rfl, _, rfl, a, C, dx, _, rfl, ha, T.cl, T.nO, (by show 4 < 1000; decide), ?_⟩
    have e1 : Builtin.bitOr (g.open_ : Int) (1 * 2 ^ ((c : Int)).toNat) = ((with_ g.open_ c : Nat) : Int) := by
      rw [Int.toNat_natCast, Int.one_mul, or_at]
    dsimp only
    rw [e1, gf_put_opened]
    refine ⟨_, rfl, a, C, dx, _, rfl, upd_same, T.cl, T.nS, (by show 4 < 1000; decide), ?_⟩
    refine k _ (Keep.upd (Keep.upd (Keep.refl H))) ⟨dx, ?_⟩
    rw [upd_same, show (V.int 2) = V.int ((2 : Nat) : Int) from rfl, gf_put_state]

theorem scTell : FnScope ["self"] ["self"] (defScope sTell) := ⟨rfl, rfl, rfl, by decide +kernel, rfl, by decide +kernel, by decide +kernel⟩
theorem ok_tell {f : Addr} {fd : FuncData} (F : Fun K "tell" "Game.tell" sTell f fd) (T : TxtG K mg C) : FnOk P w K mg base CX0 1 f fd ["self"] (spTell C) := by
  refine F.ok scTell (fun vs H Q E h => ?_) (fun cdv A outer st H vs Q E hr h => ?_)
  · obtain ⟨a, g, rfl, _⟩ := h
    rfl
  · obtain ⟨a, g, rfl, ⟨dx, ha⟩, k⟩ := h
    refine ⟨_, pss_one (ps_ret (pe_lst (pa_cons (pe_fld (pv 0) rfl) (pa_cons (pe_fld (pv 0) rfl) (pa_cons (pe_fld (pv 0) rfl) pa_nil))))), ?_⟩
    refine ⟨_, rfl, a, C, dx, _, _, rfl, ha, T.cl, T.nS, gf_state g, _, rfl, a, C, dx, _, _, rfl, ha, T.cl, T.nO, gf_opened g, _, rfl, a, C, dx, _, _, rfl, ha, T.cl, T.nK, gf_marked g, (by show 3 ≤ sizeLine; decide), fun p hp => ?_⟩
    exact k _ p (Same.new hp) hp upd_same

theorem scAsMany : FnScope ["self", "squares"] ["self", "squares"] (defScope sAsMany) := ⟨rfl, rfl, rfl, by decide +kernel, rfl, by decide +kernel, by decide +kernel⟩
theorem ok_asMany {f fm fh : Addr} {fd fdm fdh : FuncData} (F : Fun K "as_many_marks_as_mines" "Game.as_many_marks_as_mines" sAsMany f fd) (T : TxtG K mg C) (TS : TxtS mg)
    (FM : Fun K "members_among" "members_among" sAmong fm fdm) (bM : Binds K fdm ["squares", "candidates"] []) (mm : mg "members_among" = some (.ref fm))
    (FH : Fun K "holds" "holds" sHolds fh fdh) (bH : Binds K fdh ["squares", "c"] []) (mh : mg "holds" = some (.ref fh)) : FnOk P w K mg base CX0 3 f fd ["self", "squares"] (spAsMany K C) := by
  have GM : FnOk P w K mg base CX0 2 fm fdm ["squares", "candidates"] (spAmong K) := ok_among FM FH bH mh
  refine F.ok scAsMany (fun vs H Q E h => ?_) (fun cdv A outer st H vs Q E hr h => ?_)
  · obtain ⟨a, l, g, cs, rfl, _⟩ := h
    rfl
  · obtain ⟨a, l, g, cs, rfl, ⟨dx, ha⟩, hS, hl, k⟩ := h
    refine ⟨_, pss_one (ps_ret (pe_cmpR op_eq
      (pe_callB call_len_seq rfl TS.len PySem.boot_len (pa_cons (pe_call GM hr rfl mm FM.kp bM .nil pass0 (pa_cons (pe_fld (pv 0) rfl) (pa_cons (pv 1) pa_nil))) pa_nil))
      (pe_callB call_len_seq rfl TS.len PySem.boot_len (pa_cons (pe_call GM hr rfl mm FM.kp bM .nil pass0 (pa_cons (pe_fld (pv 0) rfl) (pa_cons (pv 1) pa_nil))) pa_nil)) (nomark _))), ?_⟩
    refine ⟨_, rfl, a, C, dx, _, _, rfl, ha, T.cl, T.nK, gf_marked g, _, rfl, g.marks, l, cs, rfl, hS, hl, fun H1 p1 s1 hp1 h1 => ?_⟩
    refine ⟨p1, _, rfl, .inl (SqL.of h1), ?_⟩
    refine ⟨_, rfl, a, C, dx, _, _, rfl, s1 _ _ ha, T.cl, T.nM, gf_mines g, _, rfl, g.mines, l, cs, rfl, s1.seq hS, hl, fun H2 p2 s2 hp2 h2 => ?_⟩
    refine ⟨p2, _, rfl, .inl (SqL.of h2), rfl, ?_⟩
    have q := k H2 (s1.trans s2)
    rw [nvs_len, nvs_len]
    have e : decide (V.int (((cs.filter (has g.marks)).length : Nat) : Int) = V.int (((cs.filter (has g.mines)).length : Nat) : Int)) = decide ((cs.filter (has g.marks)).length = (cs.filter (has g.mines)).length) := by
      apply decide_eq_decide.2
      constructor
      · intro e; have := V.int.inj e; omega
      · intro e; rw [e]
    rw [e]
    exact q

theorem scBegin : FnScope ["self", "mines"] ["self", "mines"] (defScope sBegin) := ⟨rfl, rfl, rfl, by decide +kernel, rfl, by decide +kernel, by decide +kernel⟩
theorem ok_begin {f fz : Addr} {fd fdz : FuncData} (F : Fun K "begin" "Game.begin" sBegin f fd) (T : TxtG K mg C) (TS : TxtS mg)
    (FZ : Fun K "size" "size" sSize fz fdz) (bZ : Binds K fdz ["squares"] []) (mz : mg "size" = some (.ref fz)) : FnOk P w K mg base CX0 2 f fd ["self", "mines"] (spBegin C) := by
  have GZ : FnOk P w K mg base CX0 1 fz fdz ["squares"] spSize := ok_size FZ
  refine F.ok scBegin (fun vs H Q E h => ?_) (fun cdv A outer st H vs Q E hr h => ?_)
  · obtain ⟨a, dx, fs, m, rfl, _⟩ := h
    rfl
  · obtain ⟨a, dx, fs, m, rfl, ha, hfs, k1, k2⟩ := h
    refine ⟨_, pss_cons (ps_if (pt_cmpR op_ne (pe_op op_shr (pv 1) (pgl TS.sqs)) pe_int (nomark _)) (pss_one (ps_ret (pgl T.notIn))) pss_nil)
      (pss_cons (ps_fld (pv 0) (pv 1) rfl) (pss_cons (ps_fld (pv 0) pe_int rfl) (pss_cons (ps_fld (pv 0) pe_int rfl) (pss_cons (ps_fld (pv 0) (pgl T.going) rfl)
      (pss_one (ps_ret (pe_call GZ hr rfl mz FZ.kp bZ .nil pass0 (pa_cons (pv 1) pa_nil)))))))), ?_⟩
    have e0 : (m : Int) / 2 ^ ((60 : Int)).toNat = ((m / 2 ^ 60 : Nat) : Int) := by
      rw [show ((60 : Int)).toNat = 60 from rfl]; omega
    refine ⟨_, rfl, _, _, rfl, rfl, (by show (0 : Int) ≤ 60; decide), rfl, _, rfl, ite2 (fun h1 => ?_) fun h1 => ?_⟩
    · have h2 : 2 ^ 60 ≤ m := by
        have h1 : (m : Int) / 2 ^ ((60 : Int)).toNat ≠ 0 := vne_t h1
        rw [e0] at h1
        apply Classical.byContradiction
        intro e
        rw [Nat.div_eq_of_lt (by omega)] at h1
        exact h1 rfl
      exact k1 h2
    · have h2 : m < 2 ^ 60 := by
        have h1 : (m : Int) / 2 ^ ((60 : Int)).toNat = 0 := vne_f h1
        rw [e0] at h1
        apply Classical.byContradiction
        intro e
        have : 0 < m / 2 ^ 60 := Nat.div_pos (by omega) (by decide)
        omega
      have lens : fs.length < 1000 ∧ (putF "mines" (.int (m : Int)) fs).length < 1000 ∧ (putF "opened" (.int 0) (putF "mines" (.int (m : Int)) fs)).length < 1000 ∧ (putF "marked" (.int 0) (putF "opened" (.int 0) (putF "mines" (.int (m : Int)) fs))).length < 1000 ∧
          putF "state" (.int 0) (putF "marked" (.int 0) (putF "opened" (.int 0) (putF "mines" (.int (m : Int)) fs))) = gf (Kg33.begin_ m) := by
        rcases hfs with rfl | ⟨g, rfl⟩
        · exact ⟨by decide, by show 1 < 1000; decide, by show 2 < 1000; decide, by show 3 < 1000; decide, rfl⟩
        · exact ⟨by show 4 < 1000; decide, by show 4 < 1000; decide, by show 4 < 1000; decide, by show 4 < 1000; decide, rfl⟩
      obtain ⟨l1, l2, l3, l4, l5⟩ := lens
      refine ⟨_, rfl, _, rfl, a, C, dx, _, rfl, ha, T.cl, T.nM, l1, ?_⟩
      refine ⟨_, rfl, a, C, dx, _, rfl, upd_same, T.cl, T.nO, l2, ?_⟩
      refine ⟨_, rfl, a, C, dx, _, rfl, upd_same, T.cl, T.nK, l3, ?_⟩
      refine ⟨_, rfl, a, C, dx, _, rfl, upd_same, T.cl, T.nS, l4, ?_⟩
      refine ⟨_, rfl, m, rfl, h2, k2 h2 _ (Keep.upd (Keep.upd (Keep.upd (Keep.upd (Keep.refl H))))) ⟨dx, ?_⟩⟩
      rw [upd_same, l5]

theorem scInit : FnScope ["self"] ["self"] (defScope sInit) := ⟨rfl, rfl, rfl, by decide +kernel, rfl, by decide +kernel, by decide +kernel⟩
theorem ok_init {f fb fz : Addr} {fd fdb fdz : FuncData} (F : Fun K "__init__" "Game.__init__" sInit f fd) (T : TxtG K mg C) (TS : TxtS mg)
    (FB : Fun K "begin" "Game.begin" sBegin fb fdb) (bB : Binds K fdb ["self", "mines"] []) (mB : Meth K C "begin" fb)
    (FZ : Fun K "size" "size" sSize fz fdz) (bZ : Binds K fdz ["squares"] []) (mz : mg "size" = some (.ref fz)) : FnOk P w K mg base CX0 3 f fd ["self"] (spInitG C) := by
  have GB : FnOk P w K mg base CX0 2 fb fdb ["self", "mines"] (spBegin C) := ok_begin FB T TS FZ bZ mz
  refine F.ok scInit (fun vs H Q E h => ?_) (fun cdv A outer st H vs Q E hr h => ?_)
  · obtain ⟨a, dx, rfl, _⟩ := h
    rfl
  · obtain ⟨a, dx, rfl, ha, k⟩ := h
    refine ⟨_, pss_one (ps_expr (pe_meth (pv 0) T.cl mB GB hr bB .nil pass0 (pa_cons pe_int pa_nil))), ?_⟩
    refine ⟨_, rfl, a, dx, _, rfl, ha, rfl, a, dx, [], 0, rfl, ha, .inl rfl, fun h => absurd h (by decide), fun _ H' k1 k2 => k H' k1 k2⟩

def spMinesAbout (C : Addr) : Sp := fun vs H Q _ => ∃ (a : Addr) (g : Kg33.Game) (c : Nat), vs = [.ref a, .int (c : Int)] ∧ c < 60 ∧ GameAt C H a g ∧ ∀ H' : Hp, Same H H' → Q (.int ((Kg33.about g.mines c : Nat) : Int)) H'
theorem scMinesAbout : FnScope ["self", "c"] ["self", "c"] (defScope sMinesAbout) := ⟨rfl, rfl, rfl, by decide +kernel, rfl, by decide +kernel, by decide +kernel⟩
theorem ok_minesAbout {f fm fh fn : Addr} {fd fdm fdh fdn : FuncData} (F : Fun K "mines_about" "Game.mines_about" sMinesAbout f fd) (T : TxtG K mg C) (TS : TxtS mg)
    (FM : Fun K "members_among" "members_among" sAmong fm fdm) (bM : Binds K fdm ["squares", "candidates"] []) (mm : mg "members_among" = some (.ref fm))
    (FH : Fun K "holds" "holds" sHolds fh fdh) (bH : Binds K fdh ["squares", "c"] []) (mh : mg "holds" = some (.ref fh))
    (FN : Fun K "squares_about" "squares_about" sNear fn fdn) (bN : Binds K fdn ["c"] []) (mn : mg "squares_about" = some (.ref fn)) : FnOk P w K mg base CX0 3 f fd ["self", "c"] (spMinesAbout C) := by
  have GM : FnOk P w K mg base CX0 2 fm fdm ["squares", "candidates"] (spAmong K) := ok_among FM FH bH mh
  have GN : FnOk P w K mg base CX0 1 fn fdn ["c"] spNear := ok_near FN TS
  refine F.ok scMinesAbout (fun vs H Q E h => ?_) (fun cdv A outer st H vs Q E hr h => ?_)
  · obtain ⟨a, g, c, rfl, _⟩ := h
    rfl
  · obtain ⟨a, g, c, rfl, hc, ⟨dx, ha⟩, k⟩ := h
    have hr1 : Room 1 _ := hr.mono (by decide)
    refine ⟨_, pss_one (ps_ret (pe_callB call_len_seq rfl TS.len PySem.boot_len (pa_cons (pe_call GM hr rfl mm FM.kp bM .nil pass0 (pa_cons (pe_fld (pv 0) rfl) (pa_cons (pe_call GN hr1 rfl mn FN.kp bN .nil pass0 (pa_cons (pv 1) pa_nil)) pa_nil))) pa_nil))), ?_⟩
    refine ⟨_, rfl, a, C, dx, _, _, rfl, ha, T.cl, T.nM, gf_mines g, _, rfl, c, rfl, hc, fun H1 p1 s1 hp1 h1 => ?_⟩
    refine ⟨g.mines, p1, near c, rfl, SqL.of h1, Nat.le_trans (near_len c hc) (by decide), fun H2 p2 s2 hp2 h2 => ?_⟩
    refine ⟨p2, _, rfl, .inl (SqL.of h2), ?_⟩
    rw [nvs_len]
    exact k H2 (s1.trans s2)

def spSight (C : Addr) : Sp := fun vs H Q _ => ∃ (a : Addr) (g : Kg33.Game), vs = [.ref a] ∧ GameAt C H a g ∧ ∀ (H' : Hp) (p : Addr), Same H H' → H p = none → H' p = some (.lst (nvs (Kg33.seenOf g.mines g.open_))) → Q (.ref p) H'
theorem scSight : FnScope ["self", "c"] ["self"] (defScope sSight) := ⟨rfl, rfl, rfl, by decide +kernel, rfl, by decide +kernel, by decide +kernel⟩
theorem ok_sight {f fa fh : Addr} {fd fda fdh : FuncData} (F : Fun K "sight" "Game.sight" sSight f fd) (T : TxtG K mg C) (TS : TxtS mg) (tclosed : ∃ t, mg "CLOSED" = some (.int 9 t))
    (GA : FnOk P w K mg base CX0 3 fa fda ["self", "c"] (spMinesAbout C)) (bA : Binds K fda ["self", "c"] []) (mA : Meth K C "mines_about" fa)
    (FH : Fun K "holds" "holds" sHolds fh fdh) (bH : Binds K fdh ["squares", "c"] []) (mh : mg "holds" = some (.ref fh)) : FnOk P w K mg base CX0 4 f fd ["self"] (spSight C) := by
  have GH : FnOk P w K mg base CX0 1 fh fdh ["squares", "c"] spHolds := ok_holds FH
  refine F.ok scSight (fun vs H Q E h => ?_) (fun cdv A outer st H vs Q E hr h => ?_)
  · obtain ⟨a, g, rfl, _⟩ := h
    rfl
  · obtain ⟨a, g, rfl, ⟨dx, ha⟩, k⟩ := h
    have hr1 : Room 1 _ := hr.mono (by decide)
    refine ⟨_, pss_one (ps_ret (pe_lc (own := [("c", 1)]) (te := tIf (tB (tCall spHolds [] E0 (tCons (tFld K (tVar 0) "opened") (tCons (tVar 1) tNil)))) (tMeth C "mines_about" (spMinesAbout C) [] E0 (tVar 0) (tCons (tVar 1) tNil)) (tC (.int 9))) rfl scSight.nd (pi_range1 rfl TS.range (pa_cons (pgl TS.sqs) pa_nil)) (blkOk_by (by rfl))
      (fun s H C cl fp => pg_name (i := 1) scSight.nd rfl (Or.inl rfl) (.inr rfl))
      (fun s H C cl fp => pts_nil)
      (fun s H C' cl fp => pe_ifExp (pt_val (pe_call GH hr1 rfl mh FH.kp bH .nil pass0 (pa_cons (pe_fld (pv 0) rfl) (pa_cons (pv 1) pa_nil)))) (pe_meth (pv 0) T.cl mA GA hr bA .nil pass0 (pa_cons (pv 1) pa_nil)) (pgl tclosed)))), ?_⟩
    refine ⟨60, rfl, by decide, by decide, fun D hD => lc_range (lo := 0) (n := 60) (fun i H' => Same H H' ∧ H' D = some (.lst (nvs ((Kg33.seenOf g.mines g.open_).take i))))
      ⟨Same.new hD, upd_same⟩ ?_ ?_⟩
    · rintro i H1 hi ⟨s1, h1⟩
      have hget : (Kg33.seenOf g.mines g.open_)[i]? = some (if has g.open_ i = true then Kg33.about g.mines i else 9) := by
        unfold Kg33.seenOf; rw [List.getElem?_map, List.getElem?_range hi]; rfl
      have hlen : (nvs ((Kg33.seenOf g.mines g.open_).take i)).length < sizeLine := by
        rw [nvs_len]
        exact Nat.lt_of_le_of_lt (takeLe _ _) (by unfold Kg33.seenOf; rw [List.length_map, List.length_range]; decide)
      have fin : ∀ H2 : Hp, Same H1 H2 → ∀ z : Nat, z = (if has g.open_ i = true then Kg33.about g.mines i else 9) → ∃ acc, H2 D = some (.lst acc) ∧ acc.length < sizeLine ∧ Same H (upd H2 D (.lst (acc ++ [V.int (z : Int)]))) ∧ (upd H2 D (.lst (acc ++ [V.int (z : Int)]))) D = some (.lst (nvs ((Kg33.seenOf g.mines g.open_).take (i + 1)))) := by
        intro H2 s2 z hz
        refine ⟨_, s2 _ _ h1, hlen, Same.at (s1.trans s2) hD, ?_⟩
        rw [upd_same, take_snoc hget, nvs_app, hz]; rfl
      have e0 : (0 : Int) + (i : Nat) = (i : Int) := by omega
      rw [e0]
      refine ⟨rfl, ?_⟩
      refine ⟨_, rfl, a, C, dx, _, _, rfl, s1 _ _ ha, T.cl, T.nO, gf_opened g, _, rfl, g.open_, i, rfl, _, rfl, ite2 (fun h2 => ?_) fun h2 => ?_⟩
      · refine ⟨_, rfl, a, dx, _, rfl, s1 _ _ ha, rfl, _, rfl, a, g, i, rfl, hi, ⟨dx, s1 _ _ ha⟩, fun H2 s2 => ?_⟩
        exact fin H2 s2 _ (by rw [if_pos h2])
      · exact fin H1 (Same.refl _) 9 (by rw [if_neg h2])
    · rintro H1 ⟨s1, h1⟩
      rw [List.take_of_length_le (by unfold Kg33.seenOf; rw [List.length_map, List.length_range]; exact Nat.le_refl _)] at h1
      exact k H1 D s1 hD h1
end
end SM
end
section
set_option Elab.async false
set_option linter.all false
set_option maxRecDepth 100000
set_option maxHeartbeats 4000000
namespace SM
open PySem PySem.Spec PyProof.Rows L2
open Kg33 (has with_ near)

section
variable {P : Program} {w : World} {K : PySem.W.Frag} {mg : Str → Option Value} {base : Heap} {C : Addr}

theorem scSafe : FnScope ["self", "squares", "many", "waiting", "c"] ["self", "squares"] (defScope sSafe) := ⟨rfl, rfl, rfl, by decide +kernel, rfl, by decide +kernel, by decide +kernel⟩
theorem ok_safe {f fa fh fn : Addr} {fd fda fdh fdn : FuncData} (F : Fun K "uncover_safe" "Game.uncover_safe" sSafe f fd) (T : TxtG K mg C) (TS : TxtS mg)
    (GA : FnOk P w K mg base CX0 3 fa fda ["self", "c"] (spMinesAbout C)) (bA : Binds K fda ["self", "c"] []) (mA : Meth K C "mines_about" fa)
    (FH : Fun K "holds" "holds" sHolds fh fdh) (bH : Binds K fdh ["squares", "c"] []) (mh : mg "holds" = some (.ref fh))
    (FN : Fun K "squares_about" "squares_about" sNear fn fdn) (bN : Binds K fdn ["c"] []) (mn : mg "squares_about" = some (.ref fn)) : FnOk P w K mg base CX0 4 f fd ["self", "squares"] (spSafe K C) := by
  have GH : FnOk P w K mg base CX0 1 fh fdh ["squares", "c"] spHolds := ok_holds FH
  have GN : FnOk P w K mg base CX0 1 fn fdn ["c"] spNear := ok_near FN TS
  refine F.ok scSafe (fun vs H Q E h => ?_) (fun cdv A outer st H vs Q E hr h => ?_)
  · obtain ⟨a, l, g, cs, rfl, _⟩ := h
    rfl
  · obtain ⟨a, l, g, cs, rfl, ⟨dx, ha⟩, hg, hS, hl, hcs, k⟩ := h
    have hr1 : Room 1 _ := hr.mono (by decide)
    refine ⟨_, pss_cons (ps_set (i := 2) scSafe.nd rfl (Or.inl rfl) pe_int)
      (pss_cons (ps_set (i := 3) scSafe.nd rfl (Or.inl rfl) (pe_callTy call_list_of rfl TS.list PyProof.Rows.boot_list (pa_cons (pv 1) pa_nil)))
      (pss_cons (ps_while PassesOwn.never (pt_cmpR op_gt (pe_callB call_len_seq rfl TS.len PySem.boot_len (pa_cons (pv 3) pa_nil)) pe_int (nomark _))
        (pss_cons (ps_set (i := 4) scSafe.nd rfl (Or.inl rfl) (pe_bm0 PySem.F.plainAttrs_list PySem.F.slot_list_pop PySem.F.type_list_pop mt_pop (pv 3)))
        (pss_one (ps_if (pt_not (pt_val (pe_call GH hr1 rfl mh FH.kp bH .nil pass0 (pa_cons (pe_op op_or (pe_fld (pv 0) rfl) (pe_fld (pv 0) rfl)) (pa_cons (pv 4) pa_nil)))))
          (pss_cons (ps_fld (pv 0) (pe_op op_or (pe_fld (pv 0) rfl) (pe_op op_shl pe_int (pv 4))) rfl)
          (pss_cons (ps_set (i := 2) scSafe.nd rfl (Or.inl rfl) (pe_op op_add (pv 2) pe_int))
          (pss_one (ps_if (pt_cmpR op_eq (pe_meth (pv 0) T.cl mA GA hr bA .nil pass0 (pa_cons (pv 4) pa_nil)) pe_int (nomark _))
            (pss_one (ps_expr (pe_bm PySem.F.plainAttrs_list PySem.F.slot_list_extend PySem.F.type_list_extend mt_extend (pv 3) (pa_cons (pe_call GN hr1 rfl mn FN.kp bN .nil pass0 (pa_cons (pv 4) pa_nil)) pa_nil)))) pss_nil))))
          pss_nil))))
      (pss_cons (ps_if (PW.pt (pw_and (pt_cmpR op_gt (pv 2) pe_int (nomark _)) (pw_and1 (pt_cmpR op_eq (pe_fld (pv 0) rfl) (pe_op op_xor (pgl TS.all) (pe_fld (pv 0) rfl)) (nomark _)))))
          (pss_one (ps_fld (pv 0) (pgl T.won) rfl)) pss_nil)
      (pss_one (ps_ret (pv 2)))))), ?_⟩
    refine ⟨_, rfl, l, _, rfl, .inl hS, fun q hq => ?_⟩
    have naq : a ≠ q := ne_of_none ha hq
    refine ⟨fun m σ H' => ∃ (ws : List Nat) (o' n : Nat) (v4 : Option V), σ = [some (.ref a), some (.ref l), some (.int (n : Int)), some (.ref q), v4] ∧ Keep a H H' ∧ H' a = some (.ins C dx (gf { g with open_ := o' })) ∧
      H' q = some (.lst (nvs ws)) ∧ Mid g.mines g.marks g.open_ cs ws o' ∧ o' < 2 ^ 60 ∧ n + Kg33.size g.open_ = Kg33.size o' ∧ m = ws.length + 8 * closedN o' ∧ m ≤ 1000, ⟨cs.length + 8 * closedN g.open_, cs, g.open_, 0, none, rfl, ?_⟩, ?_⟩
    · refine ⟨(Keep.refl H).new hq, by rw [upd_ne naq]; exact ha, upd_same, Mid.start hcs, hg.o, Nat.zero_add _, rfl, ?_⟩
      have := closedN_le g.open_; omega
    rintro m σ H1 ⟨ws, o', n, v4, rfl, kp, h1, h2, M, ho, hn, rfl, hm⟩
    refine ⟨_, rfl, q, _, rfl, .inl (SqL.of h2), _, _, rfl, rfl, _, rfl, ite2 (fun h3 => ?_) fun h3 => ?_⟩
    · -- a turn
      have hlen : 0 < ws.length := by
        rw [nvs_len] at h3
        simpa using h3
      obtain ⟨ws', c, rfl⟩ := last_get (show ws.length = (ws.length - 1) + 1 by omega)
      have hc : c < 60 := M.low c (by simp)
      refine ⟨fun σ' H' => ∃ m', m' < (ws' ++ [c]).length + 8 * closedN o' ∧ ∃ (ws : List Nat) (o' n : Nat) (v4 : Option V), σ' = [some (.ref a), some (.ref l), some (.int (n : Int)), some (.ref q), v4] ∧ Keep a H H' ∧ H' a = some (.ins C dx (gf { g with open_ := o' })) ∧
        H' q = some (.lst (nvs ws)) ∧ Mid g.mines g.marks g.open_ cs ws o' ∧ o' < 2 ^ 60 ∧ n + Kg33.size g.open_ = Kg33.size o' ∧ m' = ws.length + 8 * closedN o' ∧ m' ≤ 1000, fun _ _ z => z, ?_⟩
      have ew : nvs (ws' ++ [c]) = nvs ws' ++ [V.int (c : Int)] := nvs_app ws' [c]
      rw [ew] at h2
      refine ⟨_, rfl, .inl ⟨rfl, _, SqL.of h2⟩, q, _, V.int (c : Int), rfl, rfl, h2, by simp, ?_⟩
      rw [List.dropLast_concat]
      have h1' : (upd H1 q (.lst (nvs ws'))) a = some (.ins C dx (gf { g with open_ := o' })) := by rw [upd_ne naq]; exact h1
      have kp' : Keep a H (upd H1 q (.lst (nvs ws'))) := kp.new hq
      have hmem : ∀ d, d ∈ ws' ++ [c] ↔ d = c ∨ d ∈ ws' := by intro d; simp; exact Or.comm
      rw [List.length_append, List.length_singleton] at hm
      generalize hH2 : upd H1 q (.lst (nvs ws')) = H2 at h1' kp' ⊢
      have h2' : H2 q = some (.lst (nvs ws')) := by rw [← hH2]; exact upd_same
      refine ⟨_, rfl, a, C, dx, _, _, rfl, h1', T.cl, T.nO, gf_opened _, _, rfl, a, C, dx, _, _, rfl, h1', T.cl, T.nK, gf_marked _, _, _, rfl, rfl, _, rfl, o' ||| g.marks, c, ?_, _, rfl, ite2 (fun h4 => ?_) fun h4 => ?_⟩
      · rw [← bor_nat]; rfl
      · -- it is opened
        have h5 : has o' c = false ∧ has g.marks c = false := by
          rw [has_or] at h4; simpa using h4
        have e1 : Builtin.bitOr (o' : Int) (1 * 2 ^ ((c : Int)).toNat) = ((with_ o' c : Nat) : Int) := by
          rw [Int.toNat_natCast, Int.one_mul, or_at]
        refine ⟨_, rfl, a, C, dx, _, _, rfl, h1', T.cl, T.nO, gf_opened _, _, rfl, _, _, rfl, rfl, ⟨Int.natCast_nonneg _, by omega, by decide⟩, _, _, rfl, rfl, _, rfl, a, C, dx, _, rfl, h1', T.cl, T.nO, (by show 4 < 1000; decide), ?_⟩
        have eH : upd H2 a (.ins C dx (putF "opened" (V.int (Builtin.bitOr (o' : Int) (1 * 2 ^ ((c : Int)).toNat))) (gf { g with open_ := o' }))) = upd H2 a (.ins C dx (gf { g with open_ := with_ o' c })) := by rw [e1, gf_put_opened]
        rw [eH]
        generalize hH3 : upd H2 a (.ins C dx (gf { g with open_ := with_ o' c })) = H3
        have h1'' : H3 a = some (.ins C dx (gf { g with open_ := with_ o' c })) := by rw [← hH3]; exact upd_same
        have h2'' : H3 q = some (.lst (nvs ws')) := by rw [← hH3, upd_ne (Ne.symm naq)]; exact h2'
        have kp'' : Keep a H H3 := by rw [← hH3]; exact kp'.upd
        have q1 := closedN_with hc h5.1
        refine ⟨_, rfl, _, _, rfl, rfl, ?_⟩
        refine ⟨_, rfl, a, dx, _, rfl, h1'', rfl, _, rfl, a, { g with open_ := with_ o' c }, c, rfl, hc, ⟨dx, h1''⟩, fun H5 s5 => ⟨rfl, _, rfl, ite2 (fun h6 => ?_) fun h6 => ?_⟩⟩
        · have h7 : Kg33.about g.mines c = 0 := by
            have h6 := V.int.inj (of_decide_eq_true h6)
            show Kg33.about g.mines c = 0
            have h6 : ((Kg33.about g.mines c : Nat) : Int) = 0 := h6
            omega
          have hq5 : H5 q = some (.lst (nvs ws')) := s5 _ _ h2''
          have hl1 := near_len c hc
          refine ⟨_, rfl, .inl ⟨rfl, _, SqL.of hq5⟩, _, rfl, c, rfl, hc, fun H6 p s6 hp h6' => ?_⟩
          have hq6 : H6 q = some (.lst (nvs ws')) := s6 _ _ hq5
          refine ⟨q, p, _, _, rfl, rfl, hq6, h6', ?_, ?_⟩
          · rw [nvs_len, nvs_len]
            exact Nat.le_of_lt (Nat.lt_of_le_of_lt (show ws'.length + (near c).length ≤ 2000 by omega) (by decide))
          · rw [← nvs_app]
            refine ⟨_, ?_, ws' ++ near c, with_ o' c, n + 1, some (.int (c : Int)), ?_, ?_, ?_, upd_same, M.openAll hmem (by intro d; simp; exact Or.comm) h5.1 h5.2 h7, with_lt ho hc, ?_, rfl, ?_⟩
            · simp only [List.length_append, List.length_singleton]; omega
            · rfl
            · exact (kp''.trans (Keep.of (s5.trans s6))).new hq
            · rw [upd_ne naq]; exact s6 _ _ (s5 _ _ h1'')
            · rw [size_with hc h5.1]; omega
            · simp only [List.length_append]; omega
        · have h7 : Kg33.about g.mines c ≠ 0 := by
            intro e
            apply h6
            apply decide_eq_true
            show V.int ((Kg33.about g.mines c : Nat) : Int) = V.int 0
            rw [e]; rfl
          refine ⟨_, ?_, ws', with_ o' c, n + 1, some (.int (c : Int)), ?_, ?_, ?_, ?_, M.open0 hmem h5.1 h5.2 h7, with_lt ho hc, ?_, rfl, ?_⟩
          · simp only [List.length_append, List.length_singleton]; omega
          · rfl
          · exact kp''.trans (Keep.of s5)
          · exact s5 _ _ h1''
          · exact s5 _ _ h2''
          · rw [size_with hc h5.1]; omega
          · omega
      · -- it is passed over
        have h5 : has o' c = true ∨ has g.marks c = true := by
          rw [has_or] at h4
          cases e : has o' c with
          | true => exact .inl rfl
          | false =>
            cases e' : has g.marks c with
            | true => exact .inr rfl
            | false => rw [e, e'] at h4; simp at h4
        refine ⟨_, ?_, ws', o', n, _, rfl, kp', h1', h2', M.skip hmem h5, ho, hn, rfl, ?_⟩
        · simp only [List.length_append, List.length_singleton]; omega
        · omega
    · -- behind the loop
      have hw : ws = [] := by
        rw [nvs_len] at h3
        cases ws with
        | nil => rfl
        | cons _ _ => simp at h3
      subst hw
      have eo : o' = Kg33.spread g.mines g.marks 1000 cs g.open_ := M.unique (fun _ => Iff.rfl) (spread_done hcs (by omega))
      have en : (n : Int) = (Kg33.size (safeRes g cs).open_ : Int) - Kg33.size g.open_ := by
        show (n : Int) = (Kg33.size (Kg33.spread g.mines g.marks 1000 cs g.open_) : Int) - Kg33.size g.open_
        rw [← eo]; omega
      have eall : (Builtin.bitXor 1152921504606846975 (g.mines : Int)) = (((2 ^ 60 - 1) ^^^ g.mines : Nat) : Int) := by
        rw [show (1152921504606846975 : Int) = ((2 ^ 60 - 1 : Nat) : Int) from rfl, bxor_nat]
      have stay : ¬ (Kg33.size g.open_ < Kg33.size o' ∧ Kg33.cleared g.mines o' = true) → safeRes g cs = { g with open_ := o' } := by
        intro h
        unfold safeRes
        rw [← eo, if_neg h]
      refine ⟨_, rfl, _, _, rfl, rfl, _, rfl, ite2 (fun h4 => ?_) fun h4 => iteF ?_⟩
      · have h5 : 0 < n := by simpa using h4
        refine ⟨_, rfl, a, C, dx, _, _, rfl, h1, T.cl, T.nO, gf_opened _, _, rfl, a, C, dx, _, _, rfl, h1, T.cl, T.nM, gf_mines _, _, _, rfl, rfl, rfl, _, rfl, ite2 (fun h6 => ?_) fun h6 => ?_⟩
        · have h7 : Kg33.cleared g.mines o' = true := by
            rw [cleared_iff hg.m ho]
            have := V.int.inj (of_decide_eq_true h6)
            have : (o' : Int) = (((2 ^ 60 - 1) ^^^ g.mines : Nat) : Int) := this.trans eall
            omega
          refine ⟨_, rfl, a, C, dx, _, rfl, h1, T.cl, T.nS, (by show 4 < 1000; decide), ?_⟩
          refine ⟨_, rfl, ?_⟩
          have := k (upd H1 a (.ins C dx (putF "state" (V.int 1) (gf { g with open_ := o' })))) kp.upd ⟨dx, by
            rw [upd_same, show (V.int 1) = V.int ((1 : Nat) : Int) from rfl, gf_put_state]
            unfold safeRes
            rw [← eo, if_pos ⟨by omega, h7⟩]⟩
          rw [← en] at this
          exact this
        · have h7 : ¬ Kg33.cleared g.mines o' = true := by
            rw [cleared_iff hg.m ho]
            intro e
            apply h6
            apply decide_eq_true
            show V.int (o' : Int) = V.int (Builtin.bitXor 1152921504606846975 (g.mines : Int))
            rw [eall, ← e]
          refine ⟨_, rfl, ?_⟩
          have := k H1 kp ⟨dx, by rw [stay (fun z => h7 z.2)]; exact h1⟩
          rw [← en] at this
          exact this
      · have h5 : n = 0 := by
          have : ¬ 0 < n := by simpa using h4
          omega
        refine ⟨_, rfl, ?_⟩
        have := k H1 kp ⟨dx, by rw [stay (fun z => by omega)]; exact h1⟩
        rw [← en] at this
        exact this
end
end SM
end
section
set_option Elab.async false
set_option linter.all false
set_option maxRecDepth 100000
set_option maxHeartbeats 4000000
namespace SM
open PySem PySem.Spec PyProof.Rows L2
open Kg33 (has with_ near)

section
variable {P : Program} {w : World} {K : PySem.W.Frag} {mg : Str → Option Value} {base : Heap} {C : Addr}

theorem scMark : FnScope ["self", "c", "refusal"] ["self", "c"] (defScope sMark) := ⟨rfl, rfl, rfl, by decide +kernel, rfl, by decide +kernel, by decide +kernel⟩
theorem ok_mark {f fr fh : Addr} {fd fdr fdh : FuncData} (F : Fun K "mark" "Game.mark" sMark f fd) (T : TxtG K mg C)
    (GR : FnOk P w K mg base CX0 2 fr fdr ["self", "c"] (spRefusal C)) (bR : Binds K fdr ["self", "c"] []) (mR : Meth K C "refusal_of" fr)
    (FH : Fun K "holds" "holds" sHolds fh fdh) (bH : Binds K fdh ["squares", "c"] []) (mh : mg "holds" = some (.ref fh)) : FnOk P w K mg base CX0 3 f fd ["self", "c"] (spMove C .mark) := by
  have GH : FnOk P w K mg base CX0 1 fh fdh ["squares", "c"] spHolds := ok_holds FH
  refine F.ok scMark (fun vs H Q E h => ?_) (fun cdv A outer st H vs Q E hr h => ?_)
  · obtain ⟨a, g, c, rfl, _⟩ := h
    rfl
  · obtain ⟨a, g, c, rfl, ⟨dx, ha⟩, hg, k⟩ := h
    have hr1 : Room 1 _ := hr.mono (by decide)
    refine ⟨_, pss_cons (ps_set (i := 2) scMark.nd rfl (Or.inl rfl) (pe_meth (pv 0) T.cl mR GR hr bR .nil pass0 (pa_cons (pv 1) pa_nil)))
      (pss_cons (ps_if (pt_cmpR op_lt (pv 2) pe_int (nomark _)) (pss_one (ps_ret (pv 2))) pss_nil)
      (pss_cons (ps_if (pt_val (pe_call GH hr1 rfl mh FH.kp bH .nil pass0 (pa_cons (pe_fld (pv 0) rfl) (pa_cons (pv 1) pa_nil)))) (pss_one (ps_ret (pgl T.notAllowed))) pss_nil)
      (pss_cons (ps_fld (pv 0) (pe_op op_xor (pe_fld (pv 0) rfl) (pe_op op_shl pe_int (pv 1))) rfl)
      (pss_one (ps_ret (pe_ifExp (pt_val (pe_call GH hr1 rfl mh FH.kp bH .nil pass0 (pa_cons (pe_fld (pv 0) rfl) (pa_cons (pv 1) pa_nil)))) pe_int pe_int)))))), ?_⟩
    refine ⟨_, rfl, a, dx, _, rfl, ha, rfl, _, rfl, a, g, c, rfl, ⟨dx, ha⟩, ?_⟩
    refine ⟨_, rfl, _, _, rfl, rfl, _, rfl, ite2 (fun h1 => ?_) fun h1 => ?_⟩
    · have h1 : refusal g c < 0 := by simpa using h1
      rw [(does_refused h1).2.1] at k
      exact ⟨_, rfl, k H (Keep.refl H) ⟨dx, ha⟩⟩
    · have h1 : ¬ refusal g c < 0 := by simpa using h1
      obtain ⟨b1, b2, n, rfl, hn⟩ := allowed h1
      rw [does_mark b1 b2] at k
      refine ⟨_, rfl, a, C, dx, _, _, rfl, ha, T.cl, T.nO, gf_opened _, _, rfl, g.open_, n, rfl, _, rfl, ite2 (fun h2 => ?_) fun h2 => ?_⟩
      · rw [if_pos h2] at k
        exact k H (Keep.refl H) ⟨dx, ha⟩
      · rw [if_neg h2] at k
        have e1 : Builtin.bitXor (g.marks : Int) (1 * 2 ^ ((n : Int)).toNat) = ((if has g.marks n = true then g.marks - 2 ^ n else g.marks + 2 ^ n : Nat) : Int) := by
          rw [Int.toNat_natCast, Int.one_mul, xor_at]
        refine ⟨_, rfl, a, C, dx, _, _, rfl, ha, T.cl, T.nK, gf_marked _, _, rfl, _, _, rfl, rfl, ⟨Int.natCast_nonneg _, by omega, by decide⟩, _, _, rfl, rfl, _, rfl, a, C, dx, _, rfl, ha, T.cl, T.nK, (by show 4 < 1000; decide), ?_⟩
        have eH : upd H a (.ins C dx (putF "marked" (V.int (Builtin.bitXor (g.marks : Int) (1 * 2 ^ ((n : Int)).toNat))) (gf g))) = upd H a (.ins C dx (gf { g with marks := if has g.marks n = true then g.marks - 2 ^ n else g.marks + 2 ^ n })) := by rw [e1, gf_put_marked]
        rw [eH]
        refine ⟨_, rfl, a, C, dx, _, _, rfl, upd_same, T.cl, T.nK, gf_marked _, _, rfl, _, n, rfl, _, rfl, ?_⟩
        have bit : ∀ m : Nat, m = (if has g.marks n = true then g.marks - 2 ^ n else g.marks + 2 ^ n) → has m n = !has g.marks n := by
          intro m hm
          have e : ((m : Nat) : Int) = ((g.marks ^^^ 2 ^ n : Nat) : Int) := by
            rw [hm, ← xor_at, show ((2 : Int) ^ n) = ((2 ^ n : Nat) : Int) by norm_cast, bxor_nat]
          have e : m = g.marks ^^^ 2 ^ n := by omega
          rw [e]
          unfold Kg33.has
          rw [Nat.testBit_xor, Nat.testBit_two_pow]; simp
        refine ite2 (fun h3 => ?_) fun h3 => ?_
        · have h4 : ¬ has g.marks n = true := by
            have := bit _ rfl
            rw [show has _ n = true from h3] at this
            intro e; rw [e] at this; cases this
          rw [if_neg h4] at k
          refine k _ (Keep.upd (Keep.refl H)) ⟨dx, ?_⟩
          rw [upd_same, if_neg h4]
        · have h4 : has g.marks n = true := by
            have hb : has (if has g.marks n = true then g.marks - 2 ^ n else g.marks + 2 ^ n) n = !has g.marks n := bit _ rfl
            have h3' : ¬ has (if has g.marks n = true then g.marks - 2 ^ n else g.marks + 2 ^ n) n = true := h3
            rw [hb] at h3'
            simpa using h3'
          rw [if_pos h4] at k
          refine k _ (Keep.upd (Keep.refl H)) ⟨dx, ?_⟩
          rw [upd_same, if_pos h4]

theorem scUncover : FnScope ["self", "c", "refusal"] ["self", "c"] (defScope sUncover) := ⟨rfl, rfl, rfl, by decide +kernel, rfl, by decide +kernel, by decide +kernel⟩
theorem ok_uncover {f fr fh fl fs : Addr} {fd fdr fdh fdl fds : FuncData} (F : Fun K "uncover" "Game.uncover" sUncover f fd) (T : TxtG K mg C)
    (GR : FnOk P w K mg base CX0 2 fr fdr ["self", "c"] (spRefusal C)) (bR : Binds K fdr ["self", "c"] []) (mR : Meth K C "refusal_of" fr)
    (GL : FnOk P w K mg base CX0 1 fl fdl ["self", "c"] (spLose C)) (bL : Binds K fdl ["self", "c"] []) (mL : Meth K C "lose_at" fl)
    (GS : FnOk P w K mg base CX0 4 fs fds ["self", "squares"] (spSafe K C)) (bS : Binds K fds ["self", "squares"] []) (mS : Meth K C "uncover_safe" fs)
    (FH : Fun K "holds" "holds" sHolds fh fdh) (bH : Binds K fdh ["squares", "c"] []) (mh : mg "holds" = some (.ref fh)) : FnOk P w K mg base CX0 5 f fd ["self", "c"] (spMove C .open_) := by
  have GH : FnOk P w K mg base CX0 1 fh fdh ["squares", "c"] spHolds := ok_holds FH
  refine F.ok scUncover (fun vs H Q E h => ?_) (fun cdv A outer st H vs Q E hr h => ?_)
  · obtain ⟨a, g, c, rfl, _⟩ := h
    rfl
  · obtain ⟨a, g, c, rfl, ⟨dx, ha⟩, hg, k⟩ := h
    have hr1 : Room 1 _ := hr.mono (by decide)
    have hr2 : Room 2 _ := hr.mono (by decide)
    refine ⟨_, pss_cons (ps_set (i := 2) scUncover.nd rfl (Or.inl rfl) (pe_meth (pv 0) T.cl mR GR hr2 bR .nil pass0 (pa_cons (pv 1) pa_nil)))
      (pss_cons (ps_if (pt_cmpR op_lt (pv 2) pe_int (nomark _)) (pss_one (ps_ret (pv 2))) pss_nil)
      (pss_cons (ps_if (pt_val (pe_call GH hr1 rfl mh FH.kp bH .nil pass0 (pa_cons (pe_op op_or (pe_fld (pv 0) rfl) (pe_fld (pv 0) rfl)) (pa_cons (pv 1) pa_nil)))) (pss_one (ps_ret pe_int)) pss_nil)
      (pss_cons (ps_if (pt_val (pe_call GH hr1 rfl mh FH.kp bH .nil pass0 (pa_cons (pe_fld (pv 0) rfl) (pa_cons (pv 1) pa_nil)))) (pss_one (ps_ret (pe_meth (pv 0) T.cl mL GL hr1 bL .nil pass0 (pa_cons (pv 1) pa_nil)))) pss_nil)
      (pss_one (ps_ret (pe_meth (pv 0) T.cl mS GS hr bS .nil pass0 (pa_cons (pe_lst (pa_cons (pv 1) pa_nil)) pa_nil))))))), ?_⟩
    refine ⟨_, rfl, a, dx, _, rfl, ha, rfl, _, rfl, a, g, c, rfl, ⟨dx, ha⟩, ?_⟩
    refine ⟨_, rfl, _, _, rfl, rfl, _, rfl, ite2 (fun h1 => ?_) fun h1 => ?_⟩
    · have h1 : refusal g c < 0 := by simpa using h1
      rw [(does_refused h1).1] at k
      exact ⟨_, rfl, k H (Keep.refl H) ⟨dx, ha⟩⟩
    · have h1 : ¬ refusal g c < 0 := by simpa using h1
      obtain ⟨b1, b2, n, rfl, hn⟩ := allowed h1
      rw [does_open b1 b2] at k
      refine ⟨_, rfl, a, C, dx, _, _, rfl, ha, T.cl, T.nO, gf_opened _, _, rfl, a, C, dx, _, _, rfl, ha, T.cl, T.nK, gf_marked _, _, _, rfl, rfl, _, rfl, g.open_ ||| g.marks, n, ?_, _, rfl, ite2 (fun h2 => ?_) fun h2 => ?_⟩
      · rw [← bor_nat]; rfl
      · have h3 : shut g [n] = [] := by
          rw [has_or] at h2
          unfold shut
          rw [List.filter_cons_of_neg]
          · rfl
          · intro e
            rw [Bool.and_eq_true] at e
            cases x : has g.open_ n <;> cases y : has g.marks n <;> simp [x, y] at h2 e
        rw [opens_none h3] at k
        have := k H (Keep.refl H) ⟨dx, ha⟩
        rw [if_neg (by omega)] at this
        have this : Q (V.int 0) H := by simpa [Kg33.num] using this
        exact this
      · have h3 : shut g [n] = [n] := by
          rw [has_or] at h2
          unfold shut
          rw [List.filter_cons_of_pos]
          · rfl
          · cases x : has g.open_ n <;> cases y : has g.marks n <;> simp [x, y] at h2 ⊢
        refine ⟨_, rfl, a, C, dx, _, _, rfl, ha, T.cl, T.nM, gf_mines _, _, rfl, g.mines, n, rfl, _, rfl, ite2 (fun h4 => ?_) fun h4 => ?_⟩
        · have h5 : (shut g [n]).find? (has g.mines) = some n := by rw [h3]; simp [h4]
          rw [opens_hit h5] at k
          refine ⟨_, rfl, a, dx, _, rfl, ha, rfl, _, rfl, a, g, n, rfl, hn, ⟨dx, ha⟩, fun H' k1 k2 => ?_⟩
          exact k H' k1 k2
        · have h5 : (shut g [n]).find? (has g.mines) = none := by rw [h3]; simp [h4]
          rw [opens_safe (by simpa using hn) (by simp) b2 h5, h3] at k
          refine ⟨_, rfl, a, dx, _, rfl, ha, rfl, _, rfl, (by show 1 ≤ sizeLine; decide), fun p hp => ?_⟩
          refine ⟨a, p, g, [n], rfl, ⟨dx, ?_⟩, hg, SqL.of upd_same, by simp, by simpa using hn, fun H' k1 k2 => ?_⟩
          · rw [upd_ne (ne_of_none ha hp)]; exact ha
          · have := k H' ((Keep.of (Same.new hp)).trans k1) k2
            rw [if_neg (safeRes_over b2)] at this
            exact this

theorem scAboutG : FnScope ["self", "c", "refusal", "near", "chosen", "hit", "d"] ["self", "c"] (defScope sAbout) := ⟨rfl, rfl, rfl, by decide +kernel, rfl, by decide +kernel, by decide +kernel⟩
theorem ok_about {f fr fh fl fs fn fm fq : Addr} {fd fdr fdh fdl fds fdn fdm fdq : FuncData} (F : Fun K "uncover_about" "Game.uncover_about" sAbout f fd) (T : TxtG K mg C) (TS : TxtS mg)
    (GR : FnOk P w K mg base CX0 2 fr fdr ["self", "c"] (spRefusal C)) (bR : Binds K fdr ["self", "c"] []) (mR : Meth K C "refusal_of" fr)
    (GL : FnOk P w K mg base CX0 1 fl fdl ["self", "c"] (spLose C)) (bL : Binds K fdl ["self", "c"] []) (mL : Meth K C "lose_at" fl)
    (GS : FnOk P w K mg base CX0 4 fs fds ["self", "squares"] (spSafe K C)) (bS : Binds K fds ["self", "squares"] []) (mS : Meth K C "uncover_safe" fs)
    (GQ : FnOk P w K mg base CX0 3 fq fdq ["self", "squares"] (spAsMany K C)) (bQ : Binds K fdq ["self", "squares"] []) (mQ : Meth K C "as_many_marks_as_mines" fq)
    (FM : Fun K "members_among" "members_among" sAmong fm fdm) (bM : Binds K fdm ["squares", "candidates"] []) (mm : mg "members_among" = some (.ref fm))
    (FN : Fun K "squares_about" "squares_about" sNear fn fdn) (bN : Binds K fdn ["c"] []) (mn : mg "squares_about" = some (.ref fn))
    (FH : Fun K "holds" "holds" sHolds fh fdh) (bH : Binds K fdh ["squares", "c"] []) (mh : mg "holds" = some (.ref fh)) : FnOk P w K mg base CX0 5 f fd ["self", "c"] (spMove C .about) := by
  have GH : FnOk P w K mg base CX0 1 fh fdh ["squares", "c"] spHolds := ok_holds FH
  have GM : FnOk P w K mg base CX0 2 fm fdm ["squares", "candidates"] (spAmong K) := ok_among FM FH bH mh
  have GN : FnOk P w K mg base CX0 1 fn fdn ["c"] spNear := ok_near FN TS
  refine F.ok scAboutG (fun vs H Q E h => ?_) (fun cdv A outer st H vs Q E hr h => ?_)
  · obtain ⟨a, g, c, rfl, _⟩ := h
    rfl
  · obtain ⟨a, g, c, rfl, ⟨dx, ha⟩, hg, k⟩ := h
    have hr1 : Room 1 _ := hr.mono (by decide)
    have hr2 : Room 2 _ := hr.mono (by decide)
    refine ⟨_, pss_cons (ps_set (i := 2) scAboutG.nd rfl (Or.inl rfl) (pe_meth (pv 0) T.cl mR GR hr2 bR .nil pass0 (pa_cons (pv 1) pa_nil)))
      (pss_cons (ps_if (pt_cmpR op_lt (pv 2) pe_int (nomark _)) (pss_one (ps_ret (pv 2))) pss_nil)
      (pss_cons (ps_set (i := 3) scAboutG.nd rfl (Or.inl rfl) (pe_call GN hr1 rfl mn FN.kp bN .nil pass0 (pa_cons (pv 1) pa_nil)))
      (pss_cons (ps_if (PW.pt (pw_or (pt_not (pt_val (pe_call GH hr1 rfl mh FH.kp bH .nil pass0 (pa_cons (pe_fld (pv 0) rfl) (pa_cons (pv 1) pa_nil)))))
          (pw_or1 (pt_not (pt_val (pe_meth (pv 0) T.cl mQ GQ (hr.mono (by decide)) bQ .nil pass0 (pa_cons (pv 3) pa_nil))))))) (pss_one (ps_ret (pgl T.notAllowed))) pss_nil)
      (pss_cons (ps_setLc (i := 4) (own := [("d", 6)]) (tt := tNot (tB (tCall spHolds [] E0 (tCons (tOp (rI0 fun i j => .int (Builtin.bitOr i j)) (tFld K (tVar 0) "opened") (tFld K (tVar 0) "marked")) (tCons (tVar 6) tNil))))) rfl scAboutG.nd rfl rfl (sw_true rfl rfl rfl (by decide +kernel)) (pi_list (pv 3)) (blkOk_by (by rfl))
          (fun s H C cl fp => pg_name (i := 6) scAboutG.nd rfl (Or.inl rfl) (.inr rfl))
          (fun s H C cl fp => pts_one (pt_not (pt_val (pe_call GH hr1 rfl mh FH.kp bH .nil pass0 (pa_cons (pe_op op_or (pe_fld (pv 0) rfl) (pe_fld (pv 0) rfl)) (pa_cons (pv 6) pa_nil))))))
          (fun s H C cl fp => pv 6))
      (pss_cons (ps_set (i := 5) scAboutG.nd rfl (Or.inl rfl) (pe_call GM hr2 rfl mm FM.kp bM .nil pass0 (pa_cons (pe_fld (pv 0) rfl) (pa_cons (pv 4) pa_nil))))
      (pss_cons (ps_if (pt_cmpR op_gt (pe_callB call_len_seq rfl TS.len PySem.boot_len (pa_cons (pv 5) pa_nil)) pe_int (nomark _))
          (pss_one (ps_ret (pe_meth (pv 0) T.cl mL GL hr1 bL .nil pass0 (pa_cons (pe_ix ix_list (pv 5) pe_int (fun _ _ => rfl)) pa_nil)))) pss_nil)
      (pss_one (ps_ret (pe_meth (pv 0) T.cl mS GS hr bS .nil pass0 (pa_cons (pv 4) pa_nil)))))))))), ?_⟩
    refine ⟨_, rfl, a, dx, _, rfl, ha, rfl, _, rfl, a, g, c, rfl, ⟨dx, ha⟩, ?_⟩
    refine ⟨_, rfl, _, _, rfl, rfl, _, rfl, ite2 (fun h1 => ?_) fun h1 => ?_⟩
    · have h1 : refusal g c < 0 := by simpa using h1
      rw [(does_refused h1).2.2] at k
      exact ⟨_, rfl, k H (Keep.refl H) ⟨dx, ha⟩⟩
    have h1 : ¬ refusal g c < 0 := by simpa using h1
    obtain ⟨b1, b2, n, rfl, hn⟩ := allowed h1
    rw [does_about b1 b2] at k
    refine ⟨_, rfl, n, rfl, hn, fun H1 p s1 hp hn1 => ?_⟩
    have ha1 : H1 a = some (.ins C dx (gf g)) := s1 _ _ ha
    refine ⟨_, rfl, a, C, dx, _, _, rfl, ha1, T.cl, T.nO, gf_opened _, _, rfl, g.open_, n, rfl, _, rfl, ite2 (fun h2 => iteT ?_) fun h2 => ?_⟩
    · have h3 : has g.open_ n = false := by simpa using h2
      rw [if_pos (.inl h3)] at k
      exact k H1 (Keep.of s1) ⟨dx, ha1⟩
    have h3 : has g.open_ n = true := by simpa using h2
    refine ⟨_, rfl, a, dx, _, rfl, ha1, rfl, _, rfl, a, p, g, near n, rfl, ⟨dx, ha1⟩, SqL.of hn1, Nat.le_trans (near_len n hn) (by decide), fun H2 s2 => ⟨_, rfl, ite2 (fun h4 => ?_) fun h4 => ?_⟩⟩
    · have h5 : Kg33.about g.marks n ≠ Kg33.about g.mines n := by
        unfold Kg33.about; simpa using h4
      rw [if_pos (.inr h5)] at k
      exact k H2 (Keep.of (s1.trans s2)) ⟨dx, s2 _ _ ha1⟩
    have h5 : Kg33.about g.marks n = Kg33.about g.mines n := by
      unfold Kg33.about; simpa using h4
    have hne : ¬ (has g.open_ n = false ∨ Kg33.about g.marks n ≠ Kg33.about g.mines n) := by
      rintro (e | e)
      · rw [h3] at e; cases e
      · exact e h5
    rw [if_neg hne] at k
    have ha2 : H2 a = some (.ins C dx (gf g)) := s2 _ _ ha1
    have hn2 : H2 p = some (.lst (nvs (near n))) := s2 _ _ hn1
    have s02 := s1.trans s2
    -- chosen
    refine ⟨_, rfl, p, rfl, ⟨_, SqL.of hn2⟩, fun D hD => lc_list (K := K) (a := p) (xs := nvs (near n)) (fun i H' => Same H2 H' ∧ H' D = some (.lst (nvs (shut g ((near n).take i)))))
      ⟨Same.new hD, upd_same⟩ (fun i H' _ ⟨z, _⟩ => SqL.of (z _ _ hn2)) ?_ ?_⟩
    · rintro i x H3 hx ⟨s3, h6⟩
      obtain ⟨d, hd, rfl⟩ := nvs_get hx
      refine ⟨rfl, _, rfl, a, C, dx, _, _, rfl, s3 _ _ ha2, T.cl, T.nO, gf_opened _, _, rfl, a, C, dx, _, _, rfl, s3 _ _ ha2, T.cl, T.nK, gf_marked _, _, _, rfl, rfl, _, rfl, g.open_ ||| g.marks, d, ?_, _, rfl, ite2 (fun h7 => ?_) fun h7 => ?_⟩
      · rw [← bor_nat]; rfl
      · have h8 : (!has g.open_ d && !has g.marks d) = true := by
          rw [has_or] at h7
          cases x : has g.open_ d <;> cases y : has g.marks d <;> simp [x, y] at h7 ⊢
        refine ⟨_, rfl, _, h6, ?_, Same.at s3 hD, ?_⟩
        · rw [nvs_len]
          exact Nat.lt_of_le_of_lt (Nat.le_trans (List.length_filter_le _ _) (Nat.le_trans (takeLe _ _) (Nat.le_trans (near_len n hn) (show 8 ≤ 1000 by decide)))) (by decide)
        · rw [upd_same, take_snoc hd]
          unfold shut
          rw [List.filter_append, List.filter_cons, if_pos h8, nvs_app]; rfl
      · have h8 : ¬ (!has g.open_ d && !has g.marks d) = true := by
          rw [has_or] at h7
          cases x : has g.open_ d <;> cases y : has g.marks d <;> simp [x, y] at h7 ⊢
        refine ⟨s3, ?_⟩
        rw [h6, take_snoc hd]
        unfold shut
        rw [List.filter_append, List.filter_cons, if_neg h8, List.filter_nil, List.append_nil]
    · rintro H3 ⟨s3, h6⟩
      rw [nvs_len, List.take_length] at h6
      have ha3 : H3 a = some (.ins C dx (gf g)) := s3 _ _ ha2
      have hlen : (shut g (near n)).length ≤ 8 := Nat.le_trans (List.length_filter_le _ _) (near_len n hn)
      have hD0 : H D = none := s02.free hD
      refine ⟨_, rfl, a, C, dx, _, _, rfl, ha3, T.cl, T.nM, gf_mines _, _, rfl, g.mines, D, shut g (near n), rfl, SqL.of h6, by omega, fun H4 p4 s4 hp4 h7 => ?_⟩
      have ha4 : H4 a = some (.ins C dx (gf g)) := s4 _ _ ha3
      have s04 : Same H H4 := s02.trans (s3.trans s4)
      refine ⟨_, rfl, p4, _, rfl, .inl (SqL.of h7), _, _, rfl, rfl, _, rfl, ite2 (fun h8 => ?_) fun h8 => ?_⟩
      · rw [nvs_len] at h8
        have h8 : 0 < ((shut g (near n)).filter (has g.mines)).length := by simpa using h8
        obtain ⟨d, r, hdr⟩ : ∃ d r, (shut g (near n)).filter (has g.mines) = d :: r := by
          cases e : (shut g (near n)).filter (has g.mines) with
          | nil => rw [e] at h8; simp at h8
          | cons d r => exact ⟨d, r, rfl⟩
        have hfind : (shut g (near n)).find? (has g.mines) = some d := by rw [find_filter, hdr]; rfl
        have hd60 : d < 60 := near_lt (memF (List.mem_of_find?_eq_some hfind))
        rw [opens_hit hfind] at k
        refine ⟨_, rfl, a, dx, _, rfl, ha4, rfl, _, rfl, p4, _, _, _, rfl, rfl, SqL.of h7, at_of (j := 0) (v := V.int (d : Int)) rfl (by rw [hdr]; rfl), a, g, d, rfl, hd60, ⟨dx, ha4⟩, fun H' k1 k2 => ?_⟩
        exact k H' ((Keep.of s04).trans k1) k2
      · have h9 : (shut g (near n)).filter (has g.mines) = [] := by
          rw [nvs_len] at h8
          apply List.eq_nil_of_length_eq_zero
          have : ¬ 0 < ((shut g (near n)).filter (has g.mines)).length := by simpa using h8
          omega
        have hfind : (shut g (near n)).find? (has g.mines) = none := by rw [find_filter, h9]; rfl
        rw [opens_safe (fun c hc => near_lt hc) (near_nodup_len n) b2 hfind] at k
        refine ⟨_, rfl, a, dx, _, rfl, ha4, rfl, _, rfl, a, D, g, shut g (near n), rfl, ⟨dx, ha4⟩, hg, SqL.of (s4 _ _ h6), by omega, fun c hc => near_lt (memF hc), fun H' k1 k2 => ?_⟩
        have := k H' ((Keep.of s04).trans k1) k2
        rw [if_neg (safeRes_over b2)] at this
        exact this
end
end SM
end
section
set_option Elab.async false
set_option linter.all false
set_option maxRecDepth 100000
set_option maxHeartbeats 4000000
namespace SM
open PySem PySem.Spec PyProof.Rows L2
open Kg33 (has with_ near at_)

/-! ### tables as dicts -/
def enc (l : Tab) : List (Key × V) := l.map fun p => ((Sum.inl (p.1 : Int) : Key), V.int (p.2 : Int))
theorem enc_len (l : Tab) : (enc l).length = l.length := by unfold enc; rw [List.length_map]
theorem enc_get {l : Tab} {i : Nat} {k : Key} {v : V} (h : (enc l)[i]? = some (k, v)) : ∃ p : Nat × Nat, l[i]? = some p ∧ k = Sum.inl (p.1 : Int) ∧ v = .int (p.2 : Int) := by
  unfold enc at h
  rw [List.getElem?_map] at h
  cases e : l[i]? with
  | none => rw [e] at h; cases h
  | some p =>
    rw [e] at h
    have h := Option.some.inj h
    exact ⟨p, rfl, (congrArg Prod.fst h).symm, (congrArg Prod.snd h).symm⟩
theorem key_eq (x y : Nat) : ((Sum.inl (x : Int) : Key) = Sum.inl (y : Int)) ↔ x = y := by
  constructor
  · intro h
    have := Sum.inl.inj h
    omega
  · intro h; rw [h]
theorem valV_enc (l : Tab) (y : Nat) : valV (enc l) (Sum.inl (y : Int)) = (lk l y).map fun r => V.int (r : Int) := by
  induction l with
  | nil => rfl
  | cons p l ih =>
    rw [lk_cons]
    show valV (((Sum.inl (p.1 : Int) : Key), V.int (p.2 : Int)) :: enc l) _ = _
    by_cases h : p.1 = y
    · rw [valV_pos (by exact (key_eq _ _).2 h), if_pos h]; rfl
    · rw [valV_neg (by exact fun z => h ((key_eq _ _).1 z)), if_neg h, ih]
theorem valV_val (l : Tab) (y : Nat) : (valV (enc l) (Sum.inl (y : Int))).getD (.int 0) = .int ((val l y : Nat) : Int) := by
  rw [valV_enc]
  unfold val
  cases lk l y <;> rfl
theorem putK_enc (l : Tab) (y r : Nat) : putK (enc l) (Sum.inl (y : Int)) (V.int (r : Int)) = enc (put l y r) := by
  unfold putK put
  have e : ((enc l).any fun kv => decide (kv.1 = Sum.inl (y : Int))) = (l.any fun p => decide (p.1 = y)) := by
    unfold enc
    rw [List.any_map]
    congr 1
    funext p
    exact decide_eq_decide.2 (key_eq _ _)
  rw [e]
  split
  · unfold enc
    rw [List.map_map, List.map_map]
    apply List.map_congr_left
    intro p _
    show (if (Sum.inl (p.1 : Int) : Key) = Sum.inl (y : Int) then ((Sum.inl (p.1 : Int) : Key), V.int (r : Int)) else (Sum.inl (p.1 : Int), V.int (p.2 : Int))) = _
    by_cases h : p.1 = y
    · rw [if_pos ((key_eq _ _).2 h)]
      show _ = ((Sum.inl (((if p.1 = y then (p.1, r) else p) : Nat × Nat).1 : Int) : Key), V.int (((if p.1 = y then (p.1, r) else p) : Nat × Nat).2 : Int))
      rw [if_pos h]
    · rw [if_neg (fun z => h ((key_eq _ _).1 z))]
      show _ = ((Sum.inl (((if p.1 = y then (p.1, r) else p) : Nat × Nat).1 : Int) : Key), V.int (((if p.1 = y then (p.1, r) else p) : Nat × Nat).2 : Int))
      rw [if_neg h]
  · unfold enc
    rw [List.map_append]; rfl
theorem put_new {l : Tab} {y : Nat} (r : Nat) (h : y ∉ keys l) : put l y r = l ++ [(y, r)] := by
  unfold put
  rw [if_neg (fun e => h (any_key.1 e))]
theorem put_last {l : Tab} {y : Nat} (x r : Nat) (h : y ∉ keys l) : put (l ++ [(y, x)]) y r = l ++ [(y, r)] := by
  unfold put
  rw [if_pos (any_key.2 (by unfold keys; simp)), List.map_append]
  congr 1
  · have : ∀ p ∈ l, (if p.1 = y then (p.1, r) else p) = p := by
      intro p hp
      rw [if_neg]
      intro e; apply h; rw [← e]; exact List.mem_map_of_mem hp
    exact (List.map_congr_left this).trans (List.map_id _)
  · simp
theorem val_last {l : Tab} {y : Nat} (x : Nat) (h : y ∉ keys l) : lk (l ++ [(y, x)]) y = some x := by
  rw [lk_app, lk_none.2 h, lk_cons, if_pos rfl]; rfl
theorem enc_vals (l : Tab) : (enc l).map (·.2) = (l.map fun p => (p.2 : Int)).map V.int := by
  unfold enc
  rw [List.map_map, List.map_map]; rfl
theorem sum_int (l : Tab) : (l.map fun p => (p.2 : Int)).sum = ((sumL l (·.2) : Nat) : Int) := by
  induction l with
  | nil => rfl
  | cons p l ih => rw [List.map_cons, List.sum_cons, sumL_cons, ih]; omega
/-- from each tally that is left a mine, or none, may be taken without going below nothing -/
theorem lay_ge {s : Kg33.Seen} {W k : Nat} (hk : k < (Bs s).length) {p : Nat × Nat} (hp : p ∈ lay (tk s) (gd s) W (begS s) k) (b : Bool) : tk s k b ≤ p.1 := by
  obtain ⟨_, a2, _⟩ := lay_all (tk s) (gd s) W (begS s) k
  obtain ⟨u, hu, e⟩ := (a2 p.1).1 (List.mem_map_of_mem hp)
  have hl := fills_length k u hu
  have : Decidable (alive s u) := Classical.propDecidable _
  rw [run_alive k u hl (by omega)] at e
  split at e
  · have e := Option.some.inj e
    rw [← e]
    unfold tk
    rw [Bs_at hk]
    refine (pk_sub fun q hq => ?_).2
    have h1 := touch_le (if b = true then 1 else 32) ((Bs s).getD k 0) q
    have h2 : (if b = true then 1 else 32) ≤ 32 := by cases b <;> decide
    unfold stQ
    omega
  · cases e
end SM
end
section
set_option Elab.async false
set_option linter.all false
set_option maxRecDepth 100000
set_option maxHeartbeats 4000000
namespace SM
open PySem PySem.Spec PyProof.Rows L2
open Kg33 (has with_ near at_)

abbrev sTally : Stmt := top 26
abbrev sTInit : Stmt := inClass sTally 0
abbrev sEnter : Stmt := inClass sTally 1
abbrev sLack : Stmt := inClass sTally 2

/-! ### what a tally holds when the squares below n have been entered -/
def takeN (s : Kg33.Seen) (w n d : Nat) : Nat := if at_ s d = 9 then pk (touch w d) (sel (good s) n) else 0
def takes (s : Kg33.Seen) (w n : Nat) : List Nat := (List.range 60).map (takeN s w n)
def possN (s : Kg33.Seen) (n : Nat) : Bool := (List.range n).all fun q => !bad s q
def bitsN (s : Kg33.Seen) (n : Nat) : Nat := 10 * (sel (good s) n).length
def begN (s : Kg33.Seen) (n : Nat) : Nat := pk (lackQ s) (sel (good s) n)
def clQ (s : Kg33.Seen) (c : Nat) : List Nat := (near c).filter (clo s)
def mix (s : Kg33.Seen) (w c i : Nat) : List Nat := (List.range 60).map fun d => if d ∈ (clQ s c).take i then takeN s w (c + 1) d else takeN s w c d
theorem map_range_set {f : Nat → Nat} {n d v : Nat} : ((List.range n).map f).set d v = (List.range n).map fun j => if j = d then v else f j := by
  apply List.ext_getElem?
  intro j
  rw [List.getElem?_set, List.getElem?_map, List.getElem?_map, List.length_map, List.length_range]
  by_cases hj : j < n
  · rw [List.getElem?_range hj]
    by_cases e : d = j
    · subst e; simp [hj]
    · have e' : ¬ j = d := fun z => e z.symm
      simp [e, e']
  · have : (List.range n)[j]? = none := List.getElem?_eq_none (by simp; omega)
    rw [this]
    by_cases e : d = j
    · subst e; simp [hj]
    · simp [e]
theorem sel_good_lt {s : Kg33.Seen} {n : Nat} : (sel (good s) n).length ≤ n := by
  unfold sel
  refine Nat.le_trans (List.length_filter_le _ _) ?_
  simp
theorem takeN_lt {s : Kg33.Seen} {w n d : Nat} (hw : w < 1024) : takeN s w n d < 2 ^ bitsN s n := by
  unfold takeN bitsN
  split
  · exact pk_lt fun q _ => Nat.lt_of_le_of_lt (touch_le _ _ _) hw
  · exact Nat.two_pow_pos _
theorem takeN_in {s : Kg33.Seen} {w c d : Nat} (hg : good s c = true) (hd : d ∈ clQ s c) : takeN s w (c + 1) d = takeN s w c d + w * 2 ^ bitsN s c := by
  unfold clQ at hd
  rw [List.mem_filter] at hd
  have h9 : at_ s d = 9 := of_decide_eq_true hd.2
  unfold takeN bitsN
  rw [if_pos h9, if_pos h9, sel_succ, if_pos hg, pk_snoc]
  unfold touch
  rw [if_pos hd.1]
theorem takeN_out {s : Kg33.Seen} {w c d : Nat} (hd : d ∉ clQ s c) : takeN s w (c + 1) d = takeN s w c d := by
  unfold takeN
  by_cases h9 : at_ s d = 9
  · rw [if_pos h9, if_pos h9, sel_succ]
    split
    · rw [pk_snoc]
      have : touch w d c = 0 := by
        unfold touch
        rw [if_neg]
        intro h
        apply hd
        unfold clQ
        rw [List.mem_filter]
        exact ⟨h, decide_eq_true h9⟩
      rw [this]; omega
    · rfl
  · rw [if_neg h9, if_neg h9]
theorem clQ_nodup (s : Kg33.Seen) (c : Nat) : (clQ s c).Nodup := List.Pairwise.filter _ (near_nodup c)
theorem clQ_lt {s : Kg33.Seen} {c d : Nat} (h : d ∈ clQ s c) : d < 60 := near_in (List.mem_filter.1 h).1
theorem not_mem_take {l : List Nat} (hn : l.Nodup) {i d : Nat} (h : l[i]? = some d) : d ∉ l.take i := by
  intro hm
  obtain ⟨j, hj, e⟩ := List.getElem_of_mem hm
  rw [List.length_take] at hj
  have h1 : l[j]? = some d := by
    rw [List.getElem_take] at e
    rw [List.getElem?_eq_getElem (by omega), e]
  have := nd_ix hn h1 h
  omega
theorem mix_get {s : Kg33.Seen} {w c i d : Nat} (h : (clQ s c)[i]? = some d) : (mix s w c i)[d]? = some (takeN s w c d) := by
  have hd := clQ_lt (List.mem_of_getElem? h)
  unfold mix
  rw [List.getElem?_map, List.getElem?_range hd]
  show some (if d ∈ (clQ s c).take i then _ else _) = _
  rw [if_neg (not_mem_take (clQ_nodup s c) h)]
theorem mix_step {s : Kg33.Seen} {w c i d : Nat} (hw : w < 1024) (hg : good s c = true) (h : (clQ s c)[i]? = some d) : (mix s w c i).set d (takeN s w c d ||| (w * 2 ^ bitsN s c)) = mix s w c (i + 1) := by
  have hm := List.mem_of_getElem? h
  rw [or_add (takeN_lt hw), ← takeN_in hg hm]
  unfold mix
  rw [map_range_set]
  apply List.map_congr_left
  intro j _
  rw [take_snoc h]
  simp only [List.mem_append, List.mem_singleton]
  by_cases e : j = d
  · subst e; simp
  · simp [e]
theorem mix_zero (s : Kg33.Seen) (w c : Nat) : mix s w c 0 = takes s w c := by unfold mix takes; simp
theorem mix_all (s : Kg33.Seen) (w c : Nat) : mix s w c (clQ s c).length = takes s w (c + 1) := by
  unfold mix takes
  rw [List.take_length]
  apply List.map_congr_left
  intro d _
  split
  · rfl
  · rename_i h; exact (takeN_out h).symm
theorem takes_skip {s : Kg33.Seen} {w c : Nat} (hg : good s c = false) : takes s w (c + 1) = takes s w c := by
  unfold takes takeN
  rw [sel_succ, hg]; rfl
theorem possN_succ (s : Kg33.Seen) (n : Nat) : possN s (n + 1) = (possN s n && !bad s n) := by
  unfold possN
  rw [List.range_succ, List.all_append]; simp
theorem good_not_bad {s : Kg33.Seen} {q : Nat} (h : good s q = true) : bad s q = false := by
  have := good_num h
  unfold bad
  simp
  omega
theorem clQ_len (s : Kg33.Seen) (c : Nat) : (clQ s c).length = closedQ s c := by unfold clQ closedQ; rw [List.countP_eq_length_filter]

/-! ### the object -/
def tf (p : Bool) (b n : Nat) (m e g : Addr) : List (Str × V) := [("possible", .bl p), ("beginning", .int (b : Int)), ("bits", .int (n : Int)), ("by_mine", .ref m), ("by_empty", .ref e), ("guards", .ref g)]
structure TallyIs (C : Addr) (H : Hp) (a dx m e g : Addr) (s : Kg33.Seen) (n : Nat) : Prop where
  obj : H a = some (.ins C dx (tf (possN s n) (begN s n) (bitsN s n) m e g))
  hm : H m = some (.lst (nvs (takes s 1 n)))
  he : H e = some (.lst (nvs (takes s 32 n)))
  hg : H g = some (.lst (nvs (takes s 528 n)))
  me : m ≠ e
  mg : m ≠ g
  eg : e ≠ g
theorem TallyIs.same {C : Addr} {H H' : Hp} {a dx m e g : Addr} {s : Kg33.Seen} {n : Nat} (t : TallyIs C H a dx m e g s n) (h : Same H H') : TallyIs C H' a dx m e g s n := ⟨h _ _ t.obj, h _ _ t.hm, h _ _ t.he, h _ _ t.hg, t.me, t.mg, t.eg⟩
def Keep4 (a m e g : Addr) (H H' : Hp) : Prop := ∀ b o, H b = some o → b ≠ a → b ≠ m → b ≠ e → b ≠ g → H' b = some o
theorem Keep4.refl {a m e g : Addr} (H : Hp) : Keep4 a m e g H H := fun _ _ h _ _ _ _ => h
theorem Keep4.trans {a m e g : Addr} {H H1 H2 : Hp} (x : Keep4 a m e g H H1) (y : Keep4 a m e g H1 H2) : Keep4 a m e g H H2 := fun b o h n1 n2 n3 n4 => y b o (x b o h n1 n2 n3 n4) n1 n2 n3 n4
theorem Keep4.of {a m e g : Addr} {H H' : Hp} (s : Same H H') : Keep4 a m e g H H' := fun b o h _ _ _ _ => s b o h
theorem Keep4.upd {a m e g p : Addr} {H H' : Hp} {o : HO} (x : Keep4 a m e g H H') (hp : p = a ∨ p = m ∨ p = e ∨ p = g) : Keep4 a m e g H (L2.upd H' p o) := fun b u h n1 n2 n3 n4 => by
  rw [upd_ne]
  · exact x b u h n1 n2 n3 n4
  · rcases hp with rfl | rfl | rfl | rfl <;> assumption
theorem sql_keep4 {K : PySem.W.Frag} {a m e g l : Addr} {H H' : Hp} {xs : List V} (h : SqL K H l xs) (k : Keep4 a m e g H H') (na : l ≠ a) (nm : l ≠ m) (ne : l ≠ e) (ng : l ≠ g) : SqL K H' l xs := by
  rcases h with (h | ⟨o, h⟩) | h
  · exact .inl (.inl (k _ _ h na nm ne ng))
  · exact .inl (.inr ⟨o, k _ _ h na nm ne ng⟩)
  · exact .inr h

structure TxtT (K : PySem.W.Frag) (mg : Str → Option Value) (C : Addr) : Prop where
  cl : Cls K C
  nP : NoAttr K C "possible"
  nB : NoAttr K C "beginning"
  nN : NoAttr K C "bits"
  nM : NoAttr K C "by_mine"
  nE : NoAttr K C "by_empty"
  nG : NoAttr K C "guards"
  high : ∃ t, mg "HIGHEST_NUMBER" = some (.int 8 t)
  closed : ∃ t, mg "CLOSED" = some (.int 9 t)
  mine : ∃ t, mg "MINE" = some (.int 10 t)
  guard : ∃ t, mg "GUARD" = some (.int 16 t)
  oneM : ∃ t, mg "ONE_MINE" = some (.int 1 t)
  oneE : ∃ t, mg "ONE_EMPTY" = some (.int 32 t)
  bitsN : ∃ t, mg "BITS_OF_A_NUMBER" = some (.int 10 t)

theorem nvs_at {s : Kg33.Seen} (hl : s.length = 60) {d : Nat} (hd : d < 60) : (nvs s)[d]? = some (.int (at_ s d : Int)) := by
  unfold nvs Kg33.at_
  rw [List.getElem?_map, List.getD_eq_getElem?_getD, List.getElem?_eq_getElem (by omega)]; rfl
theorem nvs_of {l : List Nat} {d z : Nat} (h : l[d]? = some z) : (nvs l)[d]? = some (.int (z : Int)) := by
  unfold nvs; rw [List.getElem?_map, h]; rfl
theorem nvs_set (l : List Nat) (d z : Nat) : (nvs l).set d (.int (z : Int)) = nvs (l.set d z) := by
  unfold nvs; rw [List.map_set]
theorem shl_nat (w n : Nat) : (w : Int) * 2 ^ ((n : Int)).toNat = ((w * 2 ^ n : Nat) : Int) := by
  rw [Int.toNat_natCast]; push_cast; rfl
theorem ixN_nat {n d : Nat} (h : d < n) : ixN n (d : Int) = some d := by
  unfold ixN
  rw [if_pos (by omega), if_pos (by omega)]; simp

def spLack (K : PySem.W.Frag) (C : Addr) : Sp := fun vs H Q _ => ∃ (a dx m e g l : Addr) (s : Kg33.Seen) (c : Nat), vs = [.ref a, .int (aQ s c : Int), .int (eQ s c : Int), .ref l] ∧ TallyIs C H a dx m e g s c ∧ SqL K H l (nvs (clQ s c)) ∧ (l ≠ a ∧ l ≠ m ∧ l ≠ e ∧ l ≠ g) ∧ c < 60 ∧ good s c = true ∧
  ∀ H' : Hp, Keep4 a m e g H H' → TallyIs C H' a dx m e g s (c + 1) → Q .non H'
def spEnter (K : PySem.W.Frag) (C : Addr) : Sp := fun vs H Q _ => ∃ (a dx m e g l : Addr) (s : Kg33.Seen) (c : Nat), vs = [.ref a, .ref l, .int (c : Int)] ∧ TallyIs C H a dx m e g s c ∧ H l = some (.lst (nvs s)) ∧ s.length = 60 ∧ (l ≠ a ∧ l ≠ m ∧ l ≠ e ∧ l ≠ g) ∧ c < 60 ∧ at_ s c ≤ 8 ∧
  ∀ H' : Hp, Keep4 a m e g H H' → TallyIs C H' a dx m e g s (c + 1) → Q .non H'
def spTInit (K : PySem.W.Frag) (C : Addr) : Sp := fun vs H Q _ => ∃ (a dx l : Addr) (s : Kg33.Seen), vs = [.ref a, .ref l] ∧ H a = some (.ins C dx []) ∧ H l = some (.lst (nvs s)) ∧ s.length = 60 ∧
  ∀ (H' : Hp) (m e g : Addr), (∀ b o, H b = some o → b ≠ a → H' b = some o) → TallyIs C H' a dx m e g s 60 → Q .non H'

section
variable {P : Program} {w : World} {K : PySem.W.Frag} {mg : Str → Option Value} {base : Heap} {C : Addr}

theorem scLack : FnScope ["self", "mines", "empties", "closed", "lack", "d"] ["self", "mines", "empties", "closed"] (defScope sLack) := ⟨rfl, rfl, rfl, by decide +kernel, rfl, by decide +kernel, by decide +kernel⟩
theorem ok_lack {f : Addr} {fd : FuncData} (F : Fun K "enter_lack" "Tally.enter_lack" sLack f fd) (T : TxtT K mg C) : FnOk P w K mg base CX0 1 f fd ["self", "mines", "empties", "closed"] (spLack K C) := by
  refine F.ok scLack (fun vs H Q E h => ?_) (fun cdv A outer st H vs Q E hr h => ?_)
  · obtain ⟨a, dx, m, e, g, l, s, c, rfl, _⟩ := h
    rfl
  · obtain ⟨a, dx, m, e, g, l, s, c, rfl, t, hS, ⟨la, lm, le, lg⟩, hc, hgd, k⟩ := h
    refine ⟨_, pss_cons (ps_set (i := 4) scLack.nd rfl (Or.inl rfl) (pe_op op_add (pe_op op_mul (pe_op op_add (pgl T.guard) (pv 1)) (pgl T.oneM)) (pe_op op_mul (pe_op op_add (pgl T.guard) (pv 2)) (pgl T.oneE))))
      (pss_cons (ps_fld (pv 0) (pe_op op_or (pe_fld (pv 0) rfl) (pe_op op_shl (pv 4) (pe_fld (pv 0) rfl))) rfl)
      (pss_cons (ps_for PassesOwn.never rfl (pi_list (pv 3)) (pg_name (i := 5) scLack.nd rfl (Or.inl rfl))
        (pss_cons (ps_asg (pe_op op_or (pe_ix ix_list (pe_fld (pv 0) rfl) (pv 5) (fun _ _ => rfl)) (pe_op op_shl (pgl T.oneM) (pe_fld (pv 0) rfl))) (pg_sub (pe_fld (pv 0) rfl) (pv 5) set_list))
        (pss_cons (ps_asg (pe_op op_or (pe_ix ix_list (pe_fld (pv 0) rfl) (pv 5) (fun _ _ => rfl)) (pe_op op_shl (pgl T.oneE) (pe_fld (pv 0) rfl))) (pg_sub (pe_fld (pv 0) rfl) (pv 5) set_list))
        (pss_one (ps_asg (pe_op op_or (pe_ix ix_list (pe_fld (pv 0) rfl) (pv 5) (fun _ _ => rfl)) (pe_op op_shl (pe_op op_add (pe_op op_mul (pgl T.guard) (pgl T.oneM)) (pe_op op_mul (pgl T.guard) (pgl T.oneE))) (pe_fld (pv 0) rfl))) (pg_sub (pe_fld (pv 0) rfl) (pv 5) set_list))))))
      (pss_one (ps_fld (pv 0) (pe_op op_add (pe_fld (pv 0) rfl) (pgl T.bitsN)) rfl)))), ?_⟩
    have hq := mem_nums.2 ⟨hc, hgd⟩
    have hq8 := aQ_le hq
    have hb600 : bitsN s c ≤ 600 := by
      have := sel_good_lt (s := s) (n := c)
      unfold bitsN; omega
    have elack : ((16 : Int) + (aQ s c : Int)) * 1 + (16 + (eQ s c : Int)) * 32 = ((lackQ s c : Nat) : Int) := by
      unfold lackQ; omega
    have hlack : lackQ s c < 1024 := by unfold lackQ; omega
    -- lack
    refine ⟨_, rfl, _, _, rfl, rfl, _, _, rfl, rfl, .inr ⟨by decide, by decide⟩, _, rfl, _, _, rfl, rfl, _, _, rfl, rfl, .inr ⟨by decide, by decide⟩, _, _, rfl, rfl, ?_⟩
    dsimp only
    rw [elack]
    -- beginning
    have ebeg : Builtin.bitOr ((begN s c : Nat) : Int) (((lackQ s c : Nat) : Int) * 2 ^ ((bitsN s c : Nat) : Int).toNat) = ((begN s (c + 1) : Nat) : Int) := by
      rw [shl_nat, bor_nat, or_add]
      · unfold begN bitsN
        rw [sel_succ, if_pos hgd, pk_snoc]
      · unfold begN bitsN
        exact pk_lt fun q hq => by
          have hq' : q ∈ nums s := by
            rw [mem_sel] at hq
            exact mem_nums.2 ⟨by omega, hq.2⟩
          have := aQ_le hq'
          unfold lackQ; omega
    refine ⟨_, rfl, a, C, dx, _, _, rfl, t.obj, T.cl, T.nB, rfl, _, rfl, _, rfl, a, C, dx, _, _, rfl, t.obj, T.cl, T.nN, rfl, _, _, rfl, rfl, ⟨Int.natCast_nonneg _, by omega, by omega⟩, _, _, rfl, rfl, _, rfl, a, C, dx, _, rfl, t.obj, T.cl, T.nB, (by show 6 < 1000; decide), ?_⟩
    have eH : upd H a (.ins C dx (putF "beginning" (V.int (Builtin.bitOr ((begN s c : Nat) : Int) (((lackQ s c : Nat) : Int) * 2 ^ ((bitsN s c : Nat) : Int).toNat))) (tf (possN s c) (begN s c) (bitsN s c) m e g))) = upd H a (.ins C dx (tf (possN s c) (begN s (c + 1)) (bitsN s c) m e g)) := by rw [ebeg]; rfl
    rw [eH]
    have am : m ≠ a := ne_of t.hm t.obj (by intro z; cases z)
    have ae : e ≠ a := ne_of t.he t.obj (by intro z; cases z)
    have ag : g ≠ a := ne_of t.hg t.obj (by intro z; cases z)
    have k0 : Keep4 a m e g H (upd H a (.ins C dx (tf (possN s c) (begN s (c + 1)) (bitsN s c) m e g))) := (Keep4.refl H).upd (.inl rfl)
    refine ⟨_, rfl, l, rfl, ⟨_, sql_keep4 hS k0 la lm le lg⟩, for_list (K := K) (a := l) (xs := nvs (clQ s c)) (fun i σ H' => ∃ v : Option V, σ = [some (.ref a), some (.int (aQ s c : Int)), some (.int (eQ s c : Int)), some (.ref l), some (.int ((lackQ s c : Nat) : Int)), v] ∧ Keep4 a m e g H H' ∧
        H' a = some (.ins C dx (tf (possN s c) (begN s (c + 1)) (bitsN s c) m e g)) ∧ H' m = some (.lst (nvs (mix s 1 c i))) ∧ H' e = some (.lst (nvs (mix s 32 c i))) ∧ H' g = some (.lst (nvs (mix s 528 c i))))
      ⟨none, rfl, k0, upd_same, by rw [upd_ne am, mix_zero]; exact t.hm, by rw [upd_ne ae, mix_zero]; exact t.he, by rw [upd_ne ag, mix_zero]; exact t.hg⟩ (fun i σ H' _ ⟨_, _, k1, _⟩ => sql_keep4 hS k1 la lm le lg) ?_ ?_⟩
    · rintro i x σ H1 hx ⟨v, rfl, k1, h1, h2, h3, h4⟩
      obtain ⟨d, hd, rfl⟩ := nvs_get hx
      have hd60 := clQ_lt (List.mem_of_getElem? hd)
      have ln : ∀ w, (nvs (mix s w c i)).length = 60 := by intro w; rw [nvs_len]; unfold mix; simp
      have up : ∀ w, w < 1024 → (nvs (mix s w c i)).set d (V.int (Builtin.bitOr ((takeN s w c d : Nat) : Int) ((w : Int) * 2 ^ ((bitsN s c : Nat) : Int).toNat))) = nvs (mix s w c (i + 1)) := by
        intro w hw
        rw [shl_nat, bor_nat, nvs_set, mix_step hw hgd hd]
      -- by_mine
      refine ⟨_, rfl, a, C, dx, _, _, rfl, h1, T.cl, T.nM, rfl, _, rfl, m, _, _, _, rfl, rfl, SqL.of h2, at_of (j := d) rfl (nvs_of (mix_get hd)), _, rfl, a, C, dx, _, _, rfl, h1, T.cl, T.nN, rfl, _, _, rfl, rfl, ⟨Int.natCast_nonneg _, by omega, by decide⟩, _, _, rfl, rfl, _, rfl, a, C, dx, _, _, rfl, h1, T.cl, T.nM, rfl, _, rfl, m, _, _, d, rfl, rfl, h2, (by rw [ln]; exact ixN_nat hd60), ?_⟩
      have u1 := up 1 (by decide)
      have u1 : (nvs (mix s 1 c i)).set d (V.int (Builtin.bitOr ((takeN s 1 c d : Nat) : Int) (1 * 2 ^ ((bitsN s c : Nat) : Int).toNat))) = nvs (mix s 1 c (i + 1)) := u1
      rw [u1]
      generalize hH2 : upd H1 m (.lst (nvs (mix s 1 c (i + 1)))) = H2
      have h1' : H2 a = some (.ins C dx (tf (possN s c) (begN s (c + 1)) (bitsN s c) m e g)) := by rw [← hH2, upd_ne am.symm]; exact h1
      have h2' : H2 m = some (.lst (nvs (mix s 1 c (i + 1)))) := by rw [← hH2]; exact upd_same
      have h3' : H2 e = some (.lst (nvs (mix s 32 c i))) := by rw [← hH2, upd_ne t.me.symm]; exact h3
      have h4' : H2 g = some (.lst (nvs (mix s 528 c i))) := by rw [← hH2, upd_ne t.mg.symm]; exact h4
      have k2 : Keep4 a m e g H H2 := by rw [← hH2]; exact k1.upd (.inr (.inl rfl))
      -- by_empty
      refine ⟨_, rfl, a, C, dx, _, _, rfl, h1', T.cl, T.nE, rfl, _, rfl, e, _, _, _, rfl, rfl, SqL.of h3', at_of (j := d) rfl (nvs_of (mix_get hd)), _, rfl, a, C, dx, _, _, rfl, h1', T.cl, T.nN, rfl, _, _, rfl, rfl, ⟨Int.natCast_nonneg _, by omega, by decide⟩, _, _, rfl, rfl, _, rfl, a, C, dx, _, _, rfl, h1', T.cl, T.nE, rfl, _, rfl, e, _, _, d, rfl, rfl, h3', (by rw [ln]; exact ixN_nat hd60), ?_⟩
      have u2 : (nvs (mix s 32 c i)).set d (V.int (Builtin.bitOr ((takeN s 32 c d : Nat) : Int) (32 * 2 ^ ((bitsN s c : Nat) : Int).toNat))) = nvs (mix s 32 c (i + 1)) := up 32 (by decide)
      rw [u2]
      generalize hH3 : upd H2 e (.lst (nvs (mix s 32 c (i + 1)))) = H3
      have h1'' : H3 a = some (.ins C dx (tf (possN s c) (begN s (c + 1)) (bitsN s c) m e g)) := by rw [← hH3, upd_ne ae.symm]; exact h1'
      have h2'' : H3 m = some (.lst (nvs (mix s 1 c (i + 1)))) := by rw [← hH3, upd_ne t.me]; exact h2'
      have h3'' : H3 e = some (.lst (nvs (mix s 32 c (i + 1)))) := by rw [← hH3]; exact upd_same
      have h4'' : H3 g = some (.lst (nvs (mix s 528 c i))) := by rw [← hH3, upd_ne t.eg.symm]; exact h4'
      have k3 : Keep4 a m e g H H3 := by rw [← hH3]; exact k2.upd (.inr (.inr (.inl rfl)))
      -- guards
      refine ⟨_, rfl, a, C, dx, _, _, rfl, h1'', T.cl, T.nG, rfl, _, rfl, g, _, _, _, rfl, rfl, SqL.of h4'', at_of (j := d) rfl (nvs_of (mix_get hd)), _, _, rfl, rfl, .inr ⟨by decide, by decide⟩, _, _, rfl, rfl, .inr ⟨by decide, by decide⟩, _, _, rfl, rfl, _, rfl, a, C, dx, _, _, rfl, h1'', T.cl, T.nN, rfl, _, _, rfl, rfl, ⟨Int.natCast_nonneg _, by omega, by decide⟩, _, _, rfl, rfl, _, rfl, a, C, dx, _, _, rfl, h1'', T.cl, T.nG, rfl, _, rfl, g, _, _, d, rfl, rfl, h4'', (by rw [ln]; exact ixN_nat hd60), ?_⟩
      have u3 : (nvs (mix s 528 c i)).set d (V.int (Builtin.bitOr ((takeN s 528 c d : Nat) : Int) ((16 * 1 + 16 * 32) * 2 ^ ((bitsN s c : Nat) : Int).toNat))) = nvs (mix s 528 c (i + 1)) := up 528 (by decide)
      rw [u3]
      refine ⟨some (.int (d : Int)), rfl, k3.upd (.inr (.inr (.inr rfl))), ?_, ?_, ?_, upd_same⟩
      · rw [upd_ne ag.symm]; exact h1''
      · rw [upd_ne t.mg]; exact h2''
      · rw [upd_ne t.eg]; exact h3''
    · rintro σ H1 ⟨v, rfl, k1, h1, h2, h3, h4⟩
      rw [nvs_len, mix_all] at h2 h3 h4
      refine ⟨_, rfl, a, C, dx, _, _, rfl, h1, T.cl, T.nN, rfl, _, _, rfl, rfl, _, rfl, a, C, dx, _, rfl, h1, T.cl, T.nN, (by show 6 < 1000; decide), ?_⟩
      have ebits : ((bitsN s c : Nat) : Int) + 10 = ((bitsN s (c + 1) : Nat) : Int) := by
        unfold bitsN; rw [sel_succ, if_pos hgd, List.length_append, List.length_singleton]; omega
      refine k _ (k1.upd (.inl rfl)) ⟨?_, ?_, ?_, ?_, t.me, t.mg, t.eg⟩
      · rw [upd_same, possN_succ, good_not_bad hgd]
        show some (HO.ins C dx (putF "bits" (V.int (((bitsN s c : Nat) : Int) + 10)) (tf (possN s c) (begN s (c + 1)) (bitsN s c) m e g))) = _
        rw [ebits, show (possN s c && !false) = possN s c by simp]; rfl
      · rw [upd_ne am]; exact h2
      · rw [upd_ne ae]; exact h3
      · rw [upd_ne ag]; exact h4
end
end SM
end
section
set_option Elab.async false
set_option linter.all false
set_option maxRecDepth 100000
set_option maxHeartbeats 4000000
namespace SM
open PySem PySem.Spec PyProof.Rows L2
open Kg33 (has with_ near at_)

theorem TallyIs.skip {C : Addr} {H : Hp} {a dx m e g : Addr} {s : Kg33.Seen} {c : Nat} (t : TallyIs C H a dx m e g s c) (hg : good s c = false) (hb : bad s c = false) : TallyIs C H a dx m e g s (c + 1) := by
  have e1 : begN s (c + 1) = begN s c := by unfold begN; rw [sel_succ, hg]; rfl
  have e2 : bitsN s (c + 1) = bitsN s c := by unfold bitsN; rw [sel_succ, hg]; rfl
  have e3 : possN s (c + 1) = possN s c := by rw [possN_succ, hb]; simp
  exact ⟨by rw [e1, e2, e3]; exact t.obj, by rw [takes_skip hg]; exact t.hm, by rw [takes_skip hg]; exact t.he, by rw [takes_skip hg]; exact t.hg, t.me, t.mg, t.eg⟩
theorem takes_zero (s : Kg33.Seen) (w : Nat) : nvs (takes s w 0) = (List.replicate 60 [V.int 0]).flatten := by
  have e : takes s w 0 = (List.range 60).map fun _ => 0 := by
    unfold takes
    apply List.map_congr_left
    intro d _
    unfold takeN sel
    split <;> rfl
  rw [e]; rfl
theorem countP_filter_len (p : Nat → Bool) (l : List Nat) : l.countP p = (l.filter p).length := List.countP_eq_length_filter

section
variable {P : Program} {w : World} {K : PySem.W.Frag} {mg : Str → Option Value} {base : Heap} {C : Addr}

theorem scEnter : FnScope ["self", "seen", "c", "near", "closed", "mines", "empties", "d"] ["self", "seen", "c"] (defScope sEnter) := ⟨rfl, rfl, rfl, by decide +kernel, rfl, by decide +kernel, by decide +kernel⟩
theorem ok_enter {f fn fl : Addr} {fd fdn fdl : FuncData} (F : Fun K "enter" "Tally.enter" sEnter f fd) (T : TxtT K mg C) (TS : TxtS mg)
    (FN : Fun K "squares_about" "squares_about" sNear fn fdn) (bN : Binds K fdn ["c"] []) (mn : mg "squares_about" = some (.ref fn))
    (GL : FnOk P w K mg base CX0 1 fl fdl ["self", "mines", "empties", "closed"] (spLack K C)) (bL : Binds K fdl ["self", "mines", "empties", "closed"] []) (mL : Meth K C "enter_lack" fl) : FnOk P w K mg base CX0 2 f fd ["self", "seen", "c"] (spEnter K C) := by
  have GN : FnOk P w K mg base CX0 1 fn fdn ["c"] spNear := ok_near FN TS
  refine F.ok scEnter (fun vs H Q E h => ?_) (fun cdv A outer st H vs Q E hr h => ?_)
  · obtain ⟨a, dx, m, e, g, l, s, c, rfl, _⟩ := h
    rfl
  · obtain ⟨a, dx, m, e, g, l, s, c, rfl, t, hS, hlen, ⟨la, lm, le, lg⟩, hc, h8, k⟩ := h
    refine ⟨_, pss_cons (ps_set (i := 3) scEnter.nd rfl (Or.inl rfl) (pe_call GN hr rfl mn FN.kp bN .nil pass0 (pa_cons (pv 2) pa_nil)))
      (pss_cons (ps_setLc (i := 4) (own := [("d", 7)]) (tt := tTest (tOp rEq (tOp (rIxL K) (tVar 1) (tVar 7)) (tC (.int 9)))) rfl scEnter.nd rfl rfl (sw_true rfl rfl rfl (by decide +kernel)) (pi_list (pv 3)) (blkOk_by (by rfl))
          (fun s H C cl fp => pg_name (i := 7) scEnter.nd rfl (Or.inl rfl) (.inr rfl))
          (fun s H C cl fp => pts_one (pt_cmpR op_eq (pe_ix ix_list (pv 1) (pv 7) (fun _ _ => rfl)) (pgl T.closed) (nomark _)))
          (fun s H C cl fp => pv 7))
      (pss_cons (ps_set (i := 5) scEnter.nd rfl (Or.inl rfl) (pe_op op_sub (pe_ix ix_list (pv 1) (pv 2) (fun _ _ => rfl)) (pe_callB call_len_seq rfl TS.len PySem.boot_len (pa_cons
          (pe_lc (own := [("d", 7)]) (tt := tTest (tOp rEq (tOp (rIxL K) (tVar 1) (tVar 7)) (tC (.int 10)))) rfl scEnter.nd (pi_list (pv 3)) (blkOk_by (by rfl))
            (fun s H C cl fp => pg_name (i := 7) scEnter.nd rfl (Or.inl rfl) (.inr rfl))
            (fun s H C cl fp => pts_one (pt_cmpR op_eq (pe_ix ix_list (pv 1) (pv 7) (fun _ _ => rfl)) (pgl T.mine) (nomark _)))
            (fun s H C cl fp => pv 7)) pa_nil))))
      (pss_cons (ps_set (i := 6) scEnter.nd rfl (Or.inl rfl) (pe_op op_sub (pe_callB call_len_seq rfl TS.len PySem.boot_len (pa_cons (pv 4) pa_nil)) (pv 5)))
      (pss_one (ps_if (PW.pt (pw_or (pt_cmpR op_lt (pv 5) pe_int (nomark _)) (pw_or1 (pt_cmpR op_lt (pv 6) pe_int (nomark _)))))
        (pss_one (ps_fld (pv 0) pe_bl rfl))
        (pss_one (ps_if (pt_cmpR op_gt (pe_callB call_len_seq rfl TS.len PySem.boot_len (pa_cons (pv 4) pa_nil)) pe_int (nomark _))
          (pss_one (ps_expr (pe_meth (pv 0) T.cl mL GL hr bL .nil pass0 (pa_cons (pv 5) (pa_cons (pv 6) (pa_cons (pv 4) pa_nil)))))) pss_nil))))))), ?_⟩
    have am : m ≠ a := ne_of t.hm t.obj (by intro z; cases z)
    have ae : e ≠ a := ne_of t.he t.obj (by intro z; cases z)
    have ag : g ≠ a := ne_of t.hg t.obj (by intro z; cases z)
    refine ⟨_, rfl, c, rfl, hc, fun H1 p s1 hp hn1 => ?_⟩
    have hnl := near_len c hc
    -- closed
    refine ⟨_, rfl, p, rfl, ⟨_, SqL.of hn1⟩, fun D hD => lc_list (K := K) (a := p) (xs := nvs (near c)) (fun i H' => Same H1 H' ∧ H' D = some (.lst (nvs (((near c).take i).filter (clo s)))))
      ⟨Same.new hD, upd_same⟩ (fun i H' _ ⟨z, _⟩ => SqL.of (z _ _ hn1)) ?_ ?_⟩
    · rintro i x H2 hx ⟨s2, h2⟩
      obtain ⟨d, hd, rfl⟩ := nvs_get hx
      have hd60 : d < 60 := near_in (List.mem_of_getElem? hd)
      refine ⟨rfl, _, rfl, _, rfl, l, _, _, _, rfl, rfl, SqL.of ((s1.trans s2) _ _ hS), at_of (j := d) rfl (nvs_at hlen hd60), rfl, _, rfl, ite2 (fun h3 => ?_) fun h3 => ?_⟩
      · have h4 : clo s d = true := decide_eq_true (by have := veq_t h3; omega)
        refine ⟨_, rfl, _, h2, ?_, Same.at s2 hD, ?_⟩
        · rw [nvs_len]
          exact Nat.lt_of_le_of_lt (Nat.le_trans (List.length_filter_le _ _) (Nat.le_trans (takeLe _ _) (Nat.le_trans hnl (show 8 ≤ 1000 by decide)))) (by decide)
        · rw [upd_same, take_snoc hd, List.filter_append, nvs_app]
          simp [h4, nvs]
      · have h4 : clo s d = false := decide_eq_false (by have := veq_f h3; omega)
        refine ⟨s2, ?_⟩
        rw [h2, take_snoc hd, List.filter_append]
        simp [h4]
    · rintro H2 ⟨s2, h2⟩
      rw [nvs_len, List.take_length] at h2
      have h2 : H2 D = some (.lst (nvs (clQ s c))) := h2
      have s02 := s1.trans s2
      have hD0 : H D = none := s1.free hD
      -- mines
      refine ⟨_, rfl, _, rfl, l, _, _, _, rfl, rfl, SqL.of (s02 _ _ hS), at_of (j := c) rfl (nvs_at hlen hc), _, rfl, p, rfl, ⟨_, SqL.of (s2 _ _ hn1)⟩, fun D2 hD2 => lc_list (K := K) (a := p) (xs := nvs (near c)) (fun i H' => Same H2 H' ∧ H' D2 = some (.lst (nvs (((near c).take i).filter fun d => decide (at_ s d = 10)))))
        ⟨Same.new hD2, upd_same⟩ (fun i H' _ ⟨z, _⟩ => SqL.of (z _ _ (s2 _ _ hn1))) ?_ ?_⟩
      · rintro i x H3 hx ⟨s3, h3⟩
        obtain ⟨d, hd, rfl⟩ := nvs_get hx
        have hd60 : d < 60 := near_in (List.mem_of_getElem? hd)
        refine ⟨rfl, _, rfl, _, rfl, l, _, _, _, rfl, rfl, SqL.of ((s02.trans s3) _ _ hS), at_of (j := d) rfl (nvs_at hlen hd60), rfl, _, rfl, ite2 (fun h4 => ?_) fun h4 => ?_⟩
        · have h5 : decide (at_ s d = 10) = true := decide_eq_true (by have := veq_t h4; omega)
          refine ⟨_, rfl, _, h3, ?_, Same.at s3 hD2, ?_⟩
          · rw [nvs_len]
            exact Nat.lt_of_le_of_lt (Nat.le_trans (List.length_filter_le _ _) (Nat.le_trans (takeLe _ _) (Nat.le_trans hnl (show 8 ≤ 1000 by decide)))) (by decide)
          · rw [upd_same, take_snoc hd, List.filter_append, nvs_app]
            simp only [List.filter_cons, h5, List.filter_nil]; rfl
        · have h5 : decide (at_ s d = 10) = false := decide_eq_false (by have := veq_f h4; omega)
          refine ⟨s3, ?_⟩
          rw [h3, take_snoc hd, List.filter_append]
          simp only [List.filter_cons, h5, List.filter_nil]; simp
      · rintro H3 ⟨s3, h3⟩
        rw [nvs_len, List.take_length] at h3
        have s03 := s02.trans s3
        have h2' : H3 D = some (.lst (nvs (clQ s c))) := s3 _ _ h2
        refine ⟨D2, _, rfl, .inl (SqL.of h3), _, _, rfl, rfl, ?_⟩
        have ekn : ((nvs ((near c).filter fun d => decide (at_ s d = 10))).length : Int) = ((knownQ s c : Nat) : Int) := by
          rw [nvs_len, ← countP_filter_len]; rfl
        rw [ekn]
        refine ⟨_, rfl, D, _, rfl, .inl (SqL.of h2'), _, rfl, _, _, rfl, rfl, ?_⟩
        have ecl : ((nvs (clQ s c)).length : Int) = ((closedQ s c : Nat) : Int) := by rw [nvs_len, clQ_len]
        rw [ecl]
        have t3 := t.same s03
        refine ⟨_, rfl, _, _, rfl, rfl, _, rfl, ite2 (fun h4 => iteT ?_) fun h4 => ?_⟩
        · -- too few
          have h4 : (at_ s c : Int) - (knownQ s c : Int) < 0 := by simpa using h4
          have hb : bad s c = true := by unfold bad; simp; omega
          have hg : good s c = false := by
            cases z : good s c with
            | false => rfl
            | true => rw [good_not_bad z] at hb; cases hb
          refine ⟨_, rfl, a, C, dx, _, rfl, t3.obj, T.cl, T.nP, (by show 6 < 1000; decide), ?_⟩
          refine k _ ((Keep4.of s03).upd (.inl rfl)) ⟨?_, ?_, ?_, ?_, t.me, t.mg, t.eg⟩
          · rw [upd_same, possN_succ, hb]
            have e1 : begN s (c + 1) = begN s c := by unfold begN; rw [sel_succ, hg]; rfl
            have e2 : bitsN s (c + 1) = bitsN s c := by unfold bitsN; rw [sel_succ, hg]; rfl
            rw [e1, e2]
            show some (HO.ins C dx (tf false _ _ m e g)) = some (HO.ins C dx (tf (possN s c && !true) _ _ m e g))
            simp
          · rw [upd_ne am, takes_skip hg]; exact t3.hm
          · rw [upd_ne ae, takes_skip hg]; exact t3.he
          · rw [upd_ne ag, takes_skip hg]; exact t3.hg
        · have h4 : ¬ (at_ s c : Int) - (knownQ s c : Int) < 0 := by simpa using h4
          refine ⟨_, rfl, _, _, rfl, rfl, _, rfl, ite2 (fun h5 => ?_) fun h5 => ?_⟩
          · -- too many
            have h5 : (closedQ s c : Int) - ((at_ s c : Int) - (knownQ s c : Int)) < 0 := by simpa using h5
            have hb : bad s c = true := by unfold bad; simp; omega
            have hg : good s c = false := by
              cases z : good s c with
              | false => rfl
              | true => rw [good_not_bad z] at hb; cases hb
            refine ⟨_, rfl, a, C, dx, _, rfl, t3.obj, T.cl, T.nP, (by show 6 < 1000; decide), ?_⟩
            refine k _ ((Keep4.of s03).upd (.inl rfl)) ⟨?_, ?_, ?_, ?_, t.me, t.mg, t.eg⟩
            · rw [upd_same, possN_succ, hb]
              have e1 : begN s (c + 1) = begN s c := by unfold begN; rw [sel_succ, hg]; rfl
              have e2 : bitsN s (c + 1) = bitsN s c := by unfold bitsN; rw [sel_succ, hg]; rfl
              rw [e1, e2]
              show some (HO.ins C dx (tf false _ _ m e g)) = some (HO.ins C dx (tf (possN s c && !true) _ _ m e g))
              simp
            · rw [upd_ne am, takes_skip hg]; exact t3.hm
            · rw [upd_ne ae, takes_skip hg]; exact t3.he
            · rw [upd_ne ag, takes_skip hg]; exact t3.hg
          · have h5 : ¬ (closedQ s c : Int) - ((at_ s c : Int) - (knownQ s c : Int)) < 0 := by simpa using h5
            have hb : bad s c = false := by unfold bad; simp; omega
            refine ⟨_, rfl, D, _, rfl, .inl (SqL.of h2'), _, _, rfl, rfl, _, rfl, ite2 (fun h6 => ?_) fun h6 => ?_⟩
            · rw [nvs_len, clQ_len] at h6
              have h6 : 0 < closedQ s c := by simpa using h6
              have hg : good s c = true := by unfold good; simp; omega
              have eA : (at_ s c : Int) - (knownQ s c : Int) = ((aQ s c : Nat) : Int) := by unfold aQ; omega
              have eE : (closedQ s c : Int) - ((at_ s c : Int) - (knownQ s c : Int)) = ((eQ s c : Nat) : Int) := by unfold eQ aQ; omega
              refine ⟨_, rfl, a, dx, _, rfl, t3.obj, rfl, _, rfl, _, rfl, _, rfl, a, dx, m, e, g, D, s, c, ?_, t3, SqL.of h2', ⟨?_, ?_, ?_, ?_⟩, hc, hg, fun H' k1 t' => k H' ((Keep4.of s03).trans k1) t'⟩
              · rw [← eA, ← eE]; rfl
              · exact (ne_of_none t.obj hD0).symm
              · exact (ne_of_none t.hm hD0).symm
              · exact (ne_of_none t.he hD0).symm
              · exact (ne_of_none t.hg hD0).symm
            · rw [nvs_len, clQ_len] at h6
              have h6 : ¬ 0 < closedQ s c := by simpa using h6
              have hg : good s c = false := by
                cases z : good s c with
                | false => rfl
                | true => exact absurd (good_num z).2.2.2 h6
              exact k H3 (Keep4.of s03) (t3.skip hg hb)

theorem scTInit : FnScope ["self", "seen", "c"] ["self", "seen"] (defScope sTInit) := ⟨rfl, rfl, rfl, by decide +kernel, rfl, by decide +kernel, by decide +kernel⟩
theorem ok_tinit {f fe : Addr} {fd fde : FuncData} (F : Fun K "__init__" "Tally.__init__" sTInit f fd) (T : TxtT K mg C) (TS : TxtS mg)
    (GE : FnOk P w K mg base CX0 2 fe fde ["self", "seen", "c"] (spEnter K C)) (bE : Binds K fde ["self", "seen", "c"] []) (mE : Meth K C "enter" fe) : FnOk P w K mg base CX0 3 f fd ["self", "seen"] (spTInit K C) := by
  refine F.ok scTInit (fun vs H Q E h => ?_) (fun cdv A outer st H vs Q E hr h => ?_)
  · obtain ⟨a, dx, l, s, rfl, _⟩ := h
    rfl
  · obtain ⟨a, dx, l, s, rfl, ha, hS, hlen, k⟩ := h
    have la : l ≠ a := ne_of hS ha (by intro z; cases z)
    refine ⟨_, pss_cons (ps_fld (pv 0) pe_bl rfl) (pss_cons (ps_fld (pv 0) pe_int rfl) (pss_cons (ps_fld (pv 0) pe_int rfl)
      (pss_cons (ps_fld (pv 0) (pe_op op_rep (pe_lst (pa_cons pe_int pa_nil)) (pgl TS.sqs)) rfl)
      (pss_cons (ps_fld (pv 0) (pe_op op_rep (pe_lst (pa_cons pe_int pa_nil)) (pgl TS.sqs)) rfl)
      (pss_cons (ps_fld (pv 0) (pe_op op_rep (pe_lst (pa_cons pe_int pa_nil)) (pgl TS.sqs)) rfl)
      (pss_one (ps_for PassesOwn.never rfl (pi_range1 rfl TS.range (pa_cons (pgl TS.sqs) pa_nil)) (pg_name (i := 2) scTInit.nd rfl (Or.inl rfl))
        (pss_one (ps_if (pt_cmpR op_le (pe_ix ix_list (pv 1) (pv 2) (fun _ _ => rfl)) (pgl T.high) (nomark _))
          (pss_one (ps_expr (pe_meth (pv 0) T.cl mE GE hr bE .nil pass0 (pa_cons (pv 1) (pa_cons (pv 2) pa_nil))))) pss_nil))))))))), ?_⟩
    refine ⟨_, rfl, a, C, dx, _, rfl, ha, T.cl, T.nP, (by show 0 < 1000; decide), ?_⟩
    refine ⟨_, rfl, a, C, dx, _, rfl, upd_same, T.cl, T.nB, (by show 1 < 1000; decide), ?_⟩
    refine ⟨_, rfl, a, C, dx, _, rfl, upd_same, T.cl, T.nN, (by show 2 < 1000; decide), ?_⟩
    have eH : ∀ (H1 : Hp), H1 = upd (upd (upd H a (.ins C dx (putF "possible" (V.bl true) []))) a (.ins C dx (putF "beginning" (V.int 0) (putF "possible" (V.bl true) [])))) a (.ins C dx (putF "bits" (V.int 0) (putF "beginning" (V.int 0) (putF "possible" (V.bl true) [])))) →
        H1 a = some (.ins C dx [("possible", .bl true), ("beginning", .int 0), ("bits", .int 0)]) ∧ Keep a H H1 := by
      rintro H1 rfl
      exact ⟨upd_same, Keep.upd (Keep.upd (Keep.upd (Keep.refl H)))⟩
    generalize hH1 : upd (upd (upd H a (.ins C dx (putF "possible" (V.bl true) []))) a (.ins C dx (putF "beginning" (V.int 0) (putF "possible" (V.bl true) [])))) a (.ins C dx (putF "bits" (V.int 0) (putF "beginning" (V.int 0) (putF "possible" (V.bl true) [])))) = H1
    obtain ⟨a1, k1⟩ := eH H1 hH1.symm
    -- by_mine
    refine ⟨(by show 1 ≤ sizeLine; decide), fun l1 hl1 => ⟨l1, 60, _, rfl, rfl, upd_same, by decide, by decide, by decide, fun m hm => ⟨_, rfl, a, C, dx, _, rfl, (by rw [upd_ne (ne_of_none (by rw [upd_ne (ne_of_none a1 hl1)]; exact a1) hm), upd_ne (ne_of_none a1 hl1)]; exact a1), T.cl, T.nM, (by show 3 < 1000; decide), ?_⟩⟩⟩
    have hm1 : H1 m = none := by
      have hne : m ≠ l1 := by
        intro z; subst z; rw [upd_same] at hm; cases hm
      rw [upd_ne hne] at hm; exact hm
    have ma : m ≠ a := (ne_of_none a1 hm1).symm
    have eH2 : ∀ (H2 : Hp), H2 = upd (upd (upd H1 l1 (.lst [V.int 0])) m (.lst (List.replicate ((60 : Int)).toNat [V.int 0]).flatten)) a (.ins C dx (putF "by_mine" (V.ref m) [("possible", .bl true), ("beginning", .int 0), ("bits", .int 0)])) →
        H2 a = some (.ins C dx [("possible", .bl true), ("beginning", .int 0), ("bits", .int 0), ("by_mine", .ref m)]) ∧ Keep a H1 H2 ∧ H2 m = some (.lst (nvs (takes s 1 0))) := by
      rintro H2 rfl
      refine ⟨upd_same, Keep.upd (Keep.new (Keep.of (Same.new hl1)) hm1), ?_⟩
      rw [upd_ne ma, upd_same, takes_zero]; rfl
    generalize hH2 : upd (upd (upd H1 l1 (.lst [V.int 0])) m (.lst (List.replicate ((60 : Int)).toNat [V.int 0]).flatten)) a (.ins C dx (putF "by_mine" (V.ref m) [("possible", .bl true), ("beginning", .int 0), ("bits", .int 0)])) = H2
    obtain ⟨a2, k2, m2⟩ := eH2 H2 hH2.symm
    -- by_empty
    refine ⟨(by show 1 ≤ sizeLine; decide), fun l2 hl2 => ⟨l2, 60, _, rfl, rfl, upd_same, by decide, by decide, by decide, fun e he => ⟨_, rfl, a, C, dx, _, rfl, (by rw [upd_ne (ne_of_none (by rw [upd_ne (ne_of_none a2 hl2)]; exact a2) he), upd_ne (ne_of_none a2 hl2)]; exact a2), T.cl, T.nE, (by show 4 < 1000; decide), ?_⟩⟩⟩
    have he2 : H2 e = none := by
      have hne : e ≠ l2 := by
        intro z; subst z; rw [upd_same] at he; cases he
      rw [upd_ne hne] at he; exact he
    have ea : e ≠ a := (ne_of_none a2 he2).symm
    have me : m ≠ e := ne_of_none m2 he2
    have eH3 : ∀ (H3 : Hp), H3 = upd (upd (upd H2 l2 (.lst [V.int 0])) e (.lst (List.replicate ((60 : Int)).toNat [V.int 0]).flatten)) a (.ins C dx (putF "by_empty" (V.ref e) [("possible", .bl true), ("beginning", .int 0), ("bits", .int 0), ("by_mine", .ref m)])) →
        H3 a = some (.ins C dx [("possible", .bl true), ("beginning", .int 0), ("bits", .int 0), ("by_mine", .ref m), ("by_empty", .ref e)]) ∧ Keep a H2 H3 ∧ H3 e = some (.lst (nvs (takes s 32 0))) := by
      rintro H3 rfl
      refine ⟨upd_same, Keep.upd (Keep.new (Keep.of (Same.new hl2)) he2), ?_⟩
      rw [upd_ne ea, upd_same, takes_zero]; rfl
    generalize hH3 : upd (upd (upd H2 l2 (.lst [V.int 0])) e (.lst (List.replicate ((60 : Int)).toNat [V.int 0]).flatten)) a (.ins C dx (putF "by_empty" (V.ref e) [("possible", .bl true), ("beginning", .int 0), ("bits", .int 0), ("by_mine", .ref m)])) = H3
    obtain ⟨a3, k3, e3⟩ := eH3 H3 hH3.symm
    have m3 := k3 _ _ m2 ma
    -- guards
    refine ⟨(by show 1 ≤ sizeLine; decide), fun l3 hl3 => ⟨l3, 60, _, rfl, rfl, upd_same, by decide, by decide, by decide, fun g hg => ⟨_, rfl, a, C, dx, _, rfl, (by rw [upd_ne (ne_of_none (by rw [upd_ne (ne_of_none a3 hl3)]; exact a3) hg), upd_ne (ne_of_none a3 hl3)]; exact a3), T.cl, T.nG, (by show 5 < 1000; decide), ?_⟩⟩⟩
    have hg3 : H3 g = none := by
      have hne : g ≠ l3 := by
        intro z; subst z; rw [upd_same] at hg; cases hg
      rw [upd_ne hne] at hg; exact hg
    have ga : g ≠ a := (ne_of_none a3 hg3).symm
    have mgn : m ≠ g := ne_of_none m3 hg3
    have egn : e ≠ g := ne_of_none e3 hg3
    have eH4 : ∀ (H4 : Hp), H4 = upd (upd (upd H3 l3 (.lst [V.int 0])) g (.lst (List.replicate ((60 : Int)).toNat [V.int 0]).flatten)) a (.ins C dx (putF "guards" (V.ref g) [("possible", .bl true), ("beginning", .int 0), ("bits", .int 0), ("by_mine", .ref m), ("by_empty", .ref e)])) →
        Keep a H3 H4 ∧ TallyIs C H4 a dx m e g s 0 := by
      rintro H4 rfl
      have kk : Keep a H3 (upd (upd (upd H3 l3 (.lst [V.int 0])) g (.lst (List.replicate ((60 : Int)).toNat [V.int 0]).flatten)) a (.ins C dx (putF "guards" (V.ref g) [("possible", .bl true), ("beginning", .int 0), ("bits", .int 0), ("by_mine", .ref m), ("by_empty", .ref e)]))) := Keep.upd (Keep.new (Keep.of (Same.new hl3)) hg3)
      refine ⟨kk, ⟨upd_same, kk _ _ m3 ma, kk _ _ e3 ea, ?_, me, mgn, egn⟩⟩
      rw [upd_ne ga, upd_same, takes_zero]; rfl
    generalize hH4 : upd (upd (upd H3 l3 (.lst [V.int 0])) g (.lst (List.replicate ((60 : Int)).toNat [V.int 0]).flatten)) a (.ins C dx (putF "guards" (V.ref g) [("possible", .bl true), ("beginning", .int 0), ("bits", .int 0), ("by_mine", .ref m), ("by_empty", .ref e)])) = H4
    obtain ⟨k4, t4⟩ := eH4 H4 hH4.symm
    have k04 : Keep a H H4 := k1.trans (k2.trans (k3.trans k4))
    have mH : H m = none := by
      cases z : H m with
      | none => rfl
      | some o => exact absurd (k1 _ _ z ma) (by rw [hm1]; simp)
    have eHn : H e = none := by
      cases z : H e with
      | none => rfl
      | some o => exact absurd ((k1.trans k2) _ _ z ea) (by rw [he2]; simp)
    have gH : H g = none := by
      cases z : H g with
      | none => rfl
      | some o => exact absurd ((k1.trans (k2.trans k3)) _ _ z ga) (by rw [hg3]; simp)
    have lm : l ≠ m := ne_of_none hS mH
    have le : l ≠ e := ne_of_none hS eHn
    have lg : l ≠ g := ne_of_none hS gH
    refine ⟨60, rfl, by decide, by decide, for_range (lo := 0) (n := 60) (fun i σ H' => ∃ v : Option V, σ = [some (.ref a), some (.ref l), v] ∧ Keep a H H' ∧ TallyIs C H' a dx m e g s i)
      ⟨none, rfl, k04, t4⟩ ?_ ?_⟩
    · rintro i σ H5 hi ⟨v, rfl, k5, t5⟩
      have e0 : (0 : Int) + (i : Nat) = (i : Int) := by omega
      rw [e0]
      refine ⟨_, rfl, _, rfl, l, _, _, _, rfl, rfl, SqL.of (k5 _ _ hS la), at_of (j := i) rfl (nvs_at hlen hi), _, _, rfl, rfl, _, rfl, ite2 (fun h6 => ?_) fun h6 => ?_⟩
      · have h6 : at_ s i ≤ 8 := by
          have : (at_ s i : Int) ≤ 8 := by simpa using h6
          omega
        refine ⟨_, rfl, a, dx, _, rfl, t5.obj, rfl, _, rfl, _, rfl, a, dx, m, e, g, l, s, i, rfl, t5, k5 _ _ hS la, hlen, ⟨la, lm, le, lg⟩, hi, h6, fun H6 k6 t6 => ?_⟩
        refine ⟨_, rfl, fun b o hb hn => ?_, t6⟩
        exact k6 _ _ (k5 _ _ hb hn) hn (ne_of_none hb mH) (ne_of_none hb eHn) (ne_of_none hb gH)
      · have h6 : ¬ at_ s i ≤ 8 := by
          have : ¬ (at_ s i : Int) ≤ 8 := by simpa using h6
          omega
        have hg0 : good s i = false := by unfold good; simp; omega
        have hb0 : bad s i = false := by unfold bad; simp; omega
        exact ⟨_, rfl, k5, t5.skip hg0 hb0⟩
    · rintro σ H5 ⟨v, rfl, k5, t5⟩
      exact k H5 m e g k5 t5
end
end SM
end
section
set_option Elab.async false
set_option linter.all false
set_option maxRecDepth 100000
set_option maxHeartbeats 4000000
namespace SM
open PySem PySem.Spec PyProof.Rows L2
open Kg33 (has with_ near at_)

abbrev sWays : Stmt := top 28
abbrev sWInit : Stmt := inClass sWays 0
abbrev sLayers : Stmt := inClass sWays 1
abbrev sLayer : Stmt := inClass sWays 2
abbrev sFilled : Stmt := inClass sWays 3
abbrev sWith : Stmt := inClass sWays 4
abbrev sRows : Stmt := inClass sWays 5
abbrev sChoices : Stmt := top 29

structure TxtW (K : PySem.W.Frag) (mg : Str → Option Value) (C : Addr) : Prop where
  cl : Cls K C
  nS : NoAttr K C "seen"
  nT : NoAttr K C "tally"
  nB : NoAttr K C "beside"
  nA : NoAttr K C "apart"
  nH : NoAttr K C "hidden"
  nW : NoAttr K C "width"
  nL : NoAttr K C "layers"
  nR : NoAttr K C "row"
  nC : NoAttr K C "choices"
  nO : NoAttr K C "total"
  sum : mg "sum" = none
  zip : mg "zip" = none

def spChoices : Sp := fun vs H Q _ => ∃ n : Nat, vs = [.int (n : Int)] ∧ n ≤ 60 ∧ ∀ (H' : Hp) (p : Addr), Same H H' → H p = none → H' p = some (.lst (nvs (choices n))) → Q (.ref p) H'
def layT (s : Kg33.Seen) (k : Nat) : Tab := lay (tk s) (gd s) (nB s + 1) (begS s) k
def spLayer (CW CT : Addr) : Sp := fun vs H Q _ => ∃ (a dxw d t dx m e g : Addr) (fs : List (Str × V)) (s : Kg33.Seen) (k : Nat), vs = [.ref a, .ref d, .int (((Bs s).getD k 0 : Nat) : Int)] ∧ H a = some (.ins CW dxw fs) ∧ fs.lookup ("tally" : Str) = some (.ref t) ∧ fs.lookup ("width" : Str) = some (.int ((nB s + 1 : Nat) : Int)) ∧
  TallyIs CT H t dx m e g s 60 ∧ k < (Bs s).length ∧ H d = some (.dK (enc (layT s k))) ∧
  ∀ (H' : Hp) (p : Addr), Same H H' → H p = none → H' p = some (.dK (enc (layT s (k + 1)))) → Q (.ref p) H'
def LayersAt (H : Hp) (y : Addr) (ds : List Addr) (s : Kg33.Seen) (n : Nat) : Prop := H y = some (.lst (ds.map V.ref)) ∧ ds.length = n ∧ ∀ (k : Nat) (d : Addr), ds[k]? = some d → H d = some (.dK (enc (layT s k)))
def spLayers (CW CT : Addr) : Sp := fun vs H Q _ => ∃ (a dxw t dx m e g b : Addr) (fs : List (Str × V)) (s : Kg33.Seen), vs = [.ref a] ∧ H a = some (.ins CW dxw fs) ∧ fs.lookup ("tally" : Str) = some (.ref t) ∧ fs.lookup ("width" : Str) = some (.int ((nB s + 1 : Nat) : Int)) ∧ fs.lookup ("beside" : Str) = some (.ref b) ∧ fs.lookup ("layer_behind" : Str) = none ∧
  TallyIs CT H t dx m e g s 60 ∧ H b = some (.lst (nvs (Bs s))) ∧
  ∀ (H' : Hp) (y : Addr) (ds : List Addr), Same H H' → H y = none → LayersAt H' y ds s (nB s + 1) → Q (.ref y) H'
def spFilled (K : PySem.W.Frag) (CW : Addr) : Sp := fun vs H Q _ => ∃ (a dxw b l : Addr) (fs : List (Str × V)) (bs ch : List Nat) (row : Nat) (mines : Int), vs = [.ref a, .int (row : Int), .ref l, .int mines] ∧ H a = some (.ins CW dxw fs) ∧ fs.lookup ("width" : Str) = some (.int ((bs.length + 1 : Nat) : Int)) ∧ fs.lookup ("beside" : Str) = some (.ref b) ∧
  H b = some (.lst (nvs bs)) ∧ bs.length ≤ 60 ∧ H l = some (.lst (nvs ch)) ∧ Q (.int ((filledUp (bs.length + 1) bs.length row ch mines : Nat) : Int)) H

theorem takes_at {s : Kg33.Seen} {w c : Nat} (hc : c < 60) : (takes s w 60)[c]? = some (takeOf s w c) := by
  unfold takes
  rw [List.getElem?_map, List.getElem?_range hc]; rfl
theorem Bs_at60 {s : Kg33.Seen} {k : Nat} (hk : k < (Bs s).length) : (Bs s).getD k 0 < 60 := by
  obtain ⟨d, _, e, _, h, _⟩ := Bs_get hk
  rw [e]; exact h

section
variable {P : Program} {w : World} {K : PySem.W.Frag} {mg : Str → Option Value} {base : Heap} {C CT : Addr}

theorem scChoices : FnScope ["squares", "choices", "k", "without", "within"] ["squares"] (defScope sChoices) := ⟨rfl, rfl, rfl, by decide +kernel, rfl, by decide +kernel, by decide +kernel⟩
theorem ok_choices {f : Addr} {fd : FuncData} (F : Fun K "choices_among" "choices_among" sChoices f fd) (TS : TxtS mg) (tz : mg "zip" = none) : FnOk P w K mg base CX0 1 f fd ["squares"] spChoices := by
  refine F.ok scChoices (fun vs H Q E h => ?_) (fun cdv A outer st H vs Q E hr h => ?_)
  · obtain ⟨n, rfl, _⟩ := h
    rfl
  · obtain ⟨n, rfl, hn, k⟩ := h
    refine ⟨_, pss_cons (ps_set (i := 1) scChoices.nd rfl (Or.inl rfl) (pe_lst (pa_cons pe_int pa_nil)))
      (pss_cons (ps_for PassesOwn.never rfl (pi_range1 rfl TS.range (pa_cons (pv 0) pa_nil)) (pg_name (i := 2) scChoices.nd rfl (Or.inl rfl))
        (pss_one (ps_setLc (i := 1) (own := [("without", 3), ("within", 4)]) (g := gTup K 2 (gCons (gName 3) (gCons (gName 4) gNil))) (tt := tYes) (te := tOp (rI0 fun i j => .int (i + j)) (tVar 3) (tVar 4)) rfl scChoices.nd rfl rfl (sw_true rfl rfl rfl (by decide +kernel))
          (pi_zip rfl tz (pa_cons (pe_op op_cat (pv 1) (pe_lst (pa_cons pe_int pa_nil))) (pa_cons (pe_op op_cat (pe_lst (pa_cons pe_int pa_nil)) (pv 1)) pa_nil))) (blkOk_by (by rfl))
          (fun s H C cl fp => pg_tup rfl (pgs_cons (pg_name (i := 3) scChoices.nd rfl (Or.inl rfl) (.inr rfl)) (pgs_cons (pg_name (i := 4) scChoices.nd rfl (Or.inl rfl) (.inr rfl)) pgs_nil)))
          (fun s H C cl fp => pts_nil)
          (fun s H C cl fp => pe_op op_add (pv 3) (pv 4)))))
      (pss_one (ps_ret (pv 1)))), ?_⟩
    refine ⟨(by show 1 ≤ sizeLine; decide), fun p0 hp0 => ?_⟩
    refine ⟨_, rfl, n, rfl, by omega, by omega, ?_⟩
    rw [show ((n : Int)).toNat = n from Int.toNat_natCast n]
    refine for_range (lo := 0) (n := n) (fun i σ H' => ∃ (v : Option V) (p : Addr), σ = [some (.int (n : Int)), some (.ref p), v, none, none] ∧ Same H H' ∧ H p = none ∧ H' p = some (.lst (nvs (choices i))))
      ⟨none, p0, rfl, Same.new hp0, hp0, upd_same⟩ ?_ ?_
    · rintro i σ H1 hi ⟨v, p, rfl, s1, hp, h1⟩
      have hcl := choices_len i
      refine ⟨_, rfl, (by show 1 ≤ sizeLine; decide), fun q1 hq1 => ⟨p, q1, _, _, rfl, rfl, (by rw [upd_ne (ne_of_none h1 hq1)]; exact h1), upd_same, (by rw [nvs_len, hcl]; exact Nat.le_trans (show i + 1 + 1 ≤ 1000 by omega) (by decide)), fun x hx => ?_⟩⟩
      have hx1 : H1 x = none := by
        have hne : x ≠ q1 := by
          intro z; subst z; rw [upd_same] at hx; cases hx
        rw [upd_ne hne] at hx; exact hx
      generalize hH2 : upd (upd H1 q1 (.lst [V.int 0])) x (.lst (nvs (choices i) ++ [V.int 0])) = H2
      have s2 : Same H1 H2 := by rw [← hH2]; exact Same.at (Same.new hq1) hx1
      have x2 : H2 x = some (.lst (nvs (choices i ++ [0]))) := by rw [← hH2, upd_same, nvs_app]; rfl
      refine ⟨(by show 1 ≤ sizeLine; decide), fun q2 hq2 => ⟨_, rfl, q2, p, _, _, rfl, rfl, upd_same, (by rw [upd_ne (ne_of_none (s2 _ _ h1) hq2)]; exact s2 _ _ h1), (by rw [nvs_len, hcl]; exact Nat.le_trans (show 1 + (i + 1) ≤ 1000 by omega) (by decide)), fun y hy => ?_⟩⟩
      have hy1 : H2 y = none := by
        have hne : y ≠ q2 := by
          intro z; subst z; rw [upd_same] at hy; cases hy
        rw [upd_ne hne] at hy; exact hy
      generalize hH3 : upd (upd H2 q2 (.lst [V.int 0])) y (.lst ([V.int 0] ++ nvs (choices i))) = H3
      have s3 : Same H2 H3 := by rw [← hH3]; exact Same.at (Same.new hq2) hy1
      have y3 : H3 y = some (.lst (nvs (0 :: choices i))) := by rw [← hH3, upd_same]; rfl
      have x3 := s3 _ _ x2
      have s13 := s2.trans s3
      refine ⟨x, y, _, _, rfl, SqL.of x3, SqL.of y3, fun D hD => lc_zip (K := K) (a := x) (b := y) (xs := nvs (choices i ++ [0])) (ys := nvs (0 :: choices i)) (by rw [nvs_len, nvs_len]; simp) (fun j H' => Same H3 H' ∧ H' D = some (.lst (nvs ((choices (i + 1)).take j))))
        ⟨Same.new hD, upd_same⟩ (fun j H' _ ⟨z, _⟩ => ⟨SqL.of (z _ _ x3), SqL.of (z _ _ y3)⟩) ?_ ?_⟩
      · rintro j u v' T H4 hu hv ⟨s4, h4⟩ hT
        obtain ⟨u, hu', rfl⟩ := nvs_get hu
        obtain ⟨v', hv', rfl⟩ := nvs_get hv
        have hj : (choices (i + 1))[j]? = some (u + v') := by
          rw [choices, List.getElem?_map]
          have : (List.zip (choices i ++ [0]) (0 :: choices i))[j]? = some (u, v') := by
            rw [List.getElem?_zip_eq_some]; exact ⟨hu', hv'⟩
          rw [this]; rfl
        refine ⟨T, _, rfl, SqT.of upd_same, rfl, _, _, rfl, _, _, rfl, rfl, rfl, ?_⟩
        refine ⟨_, rfl, _, rfl, _, _, rfl, rfl, _, (by rw [upd_ne (ne_of_none h4 hT)]; exact h4), ?_, ?_, ?_⟩
        · rw [nvs_len]
          have := choices_len (i + 1)
          exact Nat.lt_of_le_of_lt (takeLe _ _) (Nat.lt_of_le_of_lt (show _ ≤ 1000 by omega) (by decide))
        · exact Same.at (s4.trans (Same.new hT)) hD
        · rw [upd_same, take_snoc hj, nvs_app]
          have e : (u : Int) + (v' : Int) = ((u + v' : Nat) : Int) := by omega
          dsimp only
          rw [e]; rfl
      · rintro H4 ⟨s4, h4⟩
        have hD0 : H D = none := s1.free (s13.free hD)
        rw [nvs_len, List.take_of_length_le (by rw [choices_len]; simp [hcl])] at h4
        exact ⟨_, D, rfl, s1.trans (s13.trans s4), hD0, h4⟩
    · rintro σ H1 ⟨v, p, rfl, s1, hp, h1⟩
      exact ⟨_, rfl, k H1 p s1 hp h1⟩

theorem scLayer : FnScope ["self", "layer", "c", "guards", "behind", "tally", "row", "mined", "empty"] ["self", "layer", "c"] (defScope sLayer) := ⟨rfl, rfl, rfl, by decide +kernel, rfl, by decide +kernel, by decide +kernel⟩
theorem ok_layer {f : Addr} {fd : FuncData} (F : Fun K "layer_behind" "Ways.layer_behind" sLayer f fd) (T : TxtW K mg C) (TT : TxtT K mg CT) : FnOk P w K mg base CX0 1 f fd ["self", "layer", "c"] (spLayer C CT) := by
  refine F.ok scLayer (fun vs H Q E h => ?_) (fun cdv A outer st H vs Q E hr h => ?_)
  · obtain ⟨a, dxw, d, t, dx, m, e, g, fs, s, k, rfl, _⟩ := h
    rfl
  · obtain ⟨a, dxw, d, t, dx, m, e, g, fs, s, k, rfl, ha, ft, fw, ht, hk, hd, kk⟩ := h
    have hu := hu_of hr
    refine ⟨_, pss_cons (ps_set (i := 3) scLayer.nd rfl (Or.inl rfl) (pe_ix ix_list (pe_fld (pe_fld (pv 0) rfl) rfl) (pv 2) (fun _ _ => rfl)))
      (pss_cons (ps_set (i := 4) scLayer.nd rfl (Or.inl rfl) pe_dnewK)
      (pss_cons (ps_lock (ps_for PassesOwn.never rfl (pi_items (pv 1)) (pg_tup rfl (pgs_cons (pg_name (i := 5) scLayer.nd rfl (Or.inl rfl)) (pgs_cons (pg_name (i := 6) scLayer.nd rfl (Or.inl rfl)) pgs_nil)))
        (pss_cons (ps_set (i := 7) scLayer.nd rfl (Or.inl rfl) (pe_op op_sub (pv 5) (pe_ix ix_list (pe_fld (pe_fld (pv 0) rfl) rfl) (pv 2) (fun _ _ => rfl))))
        (pss_mid (ps_if (pt_cmpR op_eq (pe_op op_and (pv 7) (pv 3)) (pv 3) (nomark _))
          (pss_one (ps_dput hu (pv 4) (pv 7) (pe_op op_add (pe_dget2 hu (pv 4) (pv 7) pe_int ⟨rfl, rfl, rfl, rfl⟩) (pe_op op_shlW (pv 6) (pe_fld (pv 0) rfl))) rfl)) pss_nil)
        (pss_cons (ps_set (i := 8) scLayer.nd rfl (Or.inl rfl) (pe_op op_sub (pv 5) (pe_ix ix_list (pe_fld (pe_fld (pv 0) rfl) rfl) (pv 2) (fun _ _ => rfl))))
        (pss_one (ps_if (pt_cmpR op_eq (pe_op op_and (pv 8) (pv 3)) (pv 3) (nomark _))
          (pss_one (ps_dput hu (pv 4) (pv 8) (pe_op op_add (pe_dget2 hu (pv 4) (pv 8) pe_int ⟨rfl, rfl, rfl, rfl⟩) (pv 6)) rfl)) pss_nil)))))))
      (pss_one (ps_ret (pv 4))))), ?_⟩
    have hc60 := Bs_at60 hk
    generalize hcc : (Bs s).getD k 0 = c at hc60 ⊢
    have egd : takeOf s 528 c = gd s k := by unfold gd; rw [hcc]
    have etk : ∀ b, takeOf s (if b = true then 1 else 32) c = tk s k b := by intro b; unfold tk; rw [hcc]
    have etM : takeOf s 1 c = tk s k true := etk true
    have etE : takeOf s 32 c = tk s k false := etk false
    have hB60 := Bs_len (s := s)
    refine ⟨_, rfl, a, C, dxw, _, _, rfl, ha, T.cl, T.nT, ft, t, CT, dx, _, _, rfl, ht.obj, TT.cl, TT.nG, rfl, _, rfl, g, _, _, _, rfl, rfl, SqL.of ht.hg, at_of (j := c) rfl (nvs_of (takes_at hc60)), ?_⟩
    rw [egd]
    intro p hp
    have s0 : Same H (upd H p (.dK [])) := Same.new hp
    refine ⟨d, _, s0 _ _ hd, trivial, fun od => ?_⟩
    refine ⟨_, rfl, d, od, _, rfl, upd_same, ?_⟩
    have npd : d ≠ p := ne_of_none hd hp
    let fold := fun i : Nat => ((layT s k).take i).foldl (stepL (tk s) (gd s) (nB s + 1) k) []
    refine for_items (fun i σ H' => ∃ v5 v6 v7 v8 : Option V, σ = [some (.ref a), some (.ref d), some (.int (c : Int)), some (.int ((gd s k : Nat) : Int)), some (.ref p), v5, v6, v7, v8] ∧ (∀ b o, H b = some o → b ≠ d → H' b = some o) ∧ H' d = some (.frz od (.dK (enc (layT s k)))) ∧ H' p = some (.dK (enc (fold i))))
      ⟨none, none, none, none, rfl, fun b o hb hn => by rw [upd_ne hn]; exact s0 _ _ hb, upd_same, by rw [upd_ne npd.symm, upd_same]; rfl⟩ (fun i σ H' _ ⟨_, _, _, _, _, _, z, _⟩ => z) ?_ ?_
    · rintro i kq vq T' σ H1 hkv ⟨v5, v6, v7, v8, rfl, k1, d1, p1⟩ hT
      obtain ⟨pr, hpr, rfl, rfl⟩ := enc_get hkv
      have hmem : pr ∈ lay (tk s) (gd s) (nB s + 1) (begS s) k := List.mem_of_getElem? hpr
      have hge := lay_ge hk hmem
      have hsm := lay_small (s := s) (W := nB s + 1) (k := k) (by show (Bs s).length + 1 ≤ 61; omega) (by omega) hmem
      have hsplit : layT s k = (layT s k).take i ++ (layT s k).drop i := (List.take_append_drop i _).symm
      have few : (fold i).length ≤ 16384 := part_few hk hsplit
      refine ⟨T', _, rfl, SqT.of upd_same, rfl, _, _, rfl, _, _, rfl, rfl, ?_⟩
      generalize hH2 : upd H1 T' (.tup [kV (Sum.inl (pr.1 : Int)), V.int (pr.2 : Int)]) = H2
      have s2 : Same H1 H2 := by rw [← hH2]; exact Same.new hT
      have k2 : ∀ b o, H b = some o → b ≠ d → H2 b = some o := fun b o hb hn => s2 _ _ (k1 _ _ hb hn)
      have d2 := s2 _ _ d1
      have p2 := s2 _ _ p1
      have nad : a ≠ d := ne_of ha hd (by intro z; cases z)
      have ntd : t ≠ d := ne_of ht.obj hd (by intro z; cases z)
      have nmd : m ≠ d := ne_of ht.hm hd (by intro z; cases z)
      have ned : e ≠ d := ne_of ht.he hd (by intro z; cases z)
      have a2 := k2 _ _ ha nad
      have t2 := k2 _ _ ht.obj ntd
      have m2 := k2 _ _ ht.hm nmd
      -- mined
      refine ⟨_, rfl, _, rfl, a, C, dxw, _, _, rfl, a2, T.cl, T.nT, ft, t, CT, dx, _, _, rfl, t2, TT.cl, TT.nM, rfl, _, rfl, m, _, _, _, rfl, rfl, SqL.of m2, at_of (j := c) rfl (nvs_of (takes_at hc60)), _, _, rfl, rfl, ?_⟩
      have emin : (pr.1 : Int) - ((takeOf s 1 c : Nat) : Int) = ((pr.1 - tk s k true : Nat) : Int) := by
        rw [etM]; have := hge true; omega
      have eemp : (pr.1 : Int) - ((takeOf s 32 c : Nat) : Int) = ((pr.1 - tk s k false : Nat) : Int) := by
        rw [etE]; have := hge false; omega
      dsimp only
      rw [emin]
      generalize hx1 : pr.1 - tk s k true = x1
      generalize hx2 : pr.1 - tk s k false = x2 at eemp
      have fsucc : fold (i + 1) = stepL (tk s) (gd s) (nB s + 1) k (fold i) pr := by
        show ((layT s k).take (i + 1)).foldl _ [] = _
        rw [take_snoc hpr, List.foldl_append]; rfl
      have eb : ∀ x : Nat, (decide (V.int (Builtin.bitAnd (x : Int) ((gd s k : Nat) : Int)) = V.int ((gd s k : Nat) : Int)) = true) ↔ x &&& gd s k = gd s k := by
        intro x
        rw [band_nat]
        constructor
        · intro h; have := V.int.inj (of_decide_eq_true h); omega
        · intro h; rw [h]; exact decide_eq_true rfl
      refine ⟨fun σ' H' => ∃ b1 : Tab, b1 = (if x1 &&& gd s k = gd s k then add (fold i) x1 (pr.2 * 2 ^ (nB s + 1)) else fold i) ∧ σ' = [some (.ref a), some (.ref d), some (.int (c : Int)), some (.int ((gd s k : Nat) : Int)), some (.ref p), some (.int (pr.1 : Int)), some (.int (pr.2 : Int)), some (.int (x1 : Int)), v8] ∧ (∀ b o, H b = some o → b ≠ d → H' b = some o) ∧ H' d = some (.frz od (.dK (enc (layT s k)))) ∧ H' p = some (.dK (enc b1)), ?_, ?_⟩
      · refine ⟨_, rfl, _, rfl, _, _, rfl, rfl, _, rfl, rfl, _, rfl, ite2 (fun h3 => ?_) fun h3 => ?_⟩
        · have h3 := (eb x1).1 h3
          refine ⟨_, rfl, p, rfl, .inl ⟨_, .inl p2⟩, _, rfl, _, DGet.k (k := Sum.inl (x1 : Int)) p2, _, rfl, _, rfl, a, C, dxw, _, _, rfl, a2, T.cl, T.nW, fw, _, _, rfl, rfl, ⟨Int.natCast_nonneg _, ?_⟩, _, _, valV_val _ _, rfl, _, rfl, _, rfl, p, _, rfl, DPut.k (k := Sum.inl (x1 : Int)) p2 (by rw [enc_len]; exact Nat.lt_of_le_of_lt few (by decide)), ?_⟩
          · have hb := bits_of hsm
            have hw : nB s + 1 ≤ 61 := by show (Bs s).length + 1 ≤ 61; omega
            omega
          · refine ⟨_, rfl, rfl, fun b o hb hn => ?_, ?_, ?_⟩
            · rw [upd_ne (ne_of_none hb hp)]; exact k2 _ _ hb hn
            · rw [upd_ne npd]; exact d2
            · rw [upd_same, if_pos h3, shl_nat]
              unfold add
              rw [← putK_enc]
              congr 4
        · have h3 : ¬ x1 &&& gd s k = gd s k := fun z => h3 ((eb x1).2 z)
          exact ⟨_, rfl, rfl, k2, d2, by rw [if_neg h3]; exact p2⟩
      · rintro σ' H3 ⟨b1, hb1, rfl, k3, d3, p3⟩
        have few1 : b1.length ≤ 16385 := by
          rw [hb1]
          have := stepL_few (t := tk s) (g := gd s) (W := nB s + 1) (k := k) (b := fold i) (p := pr)
          rw [hx1] at this
          omega
        have a3 := k3 _ _ ha nad
        have t3 := k3 _ _ ht.obj ntd
        have e3 := k3 _ _ ht.he ned
        refine ⟨_, rfl, _, rfl, a, C, dxw, _, _, rfl, a3, T.cl, T.nT, ft, t, CT, dx, _, _, rfl, t3, TT.cl, TT.nE, rfl, _, rfl, e, _, _, _, rfl, rfl, SqL.of e3, at_of (j := c) rfl (nvs_of (takes_at hc60)), _, _, rfl, rfl, ?_⟩
        dsimp only
        rw [eemp]
        have fs1 : fold (i + 1) = if x2 &&& gd s k = gd s k then add b1 x2 pr.2 else b1 := by
          rw [fsucc, hb1, ← hx1, ← hx2]; rfl
        refine ⟨_, rfl, _, rfl, _, _, rfl, rfl, _, rfl, rfl, _, rfl, ite2 (fun h4 => ?_) fun h4 => ?_⟩
        · have h4 := (eb x2).1 h4
          refine ⟨_, rfl, p, rfl, .inl ⟨_, .inl p3⟩, _, rfl, _, DGet.k (k := Sum.inl (x2 : Int)) p3, _, rfl, _, _, valV_val _ _, rfl, _, rfl, _, rfl, p, _, rfl, DPut.k (k := Sum.inl (x2 : Int)) p3 (by rw [enc_len]; exact Nat.lt_of_le_of_lt few1 (by decide)), ?_⟩
          refine ⟨_, _, _, _, rfl, fun b o hb hn => ?_, ?_, ?_⟩
          · rw [upd_ne (ne_of_none hb hp)]; exact k3 _ _ hb hn
          · rw [upd_ne npd]; exact d3
          · rw [upd_same, fs1, if_pos h4]
            unfold add
            rw [← putK_enc]
            congr 4
        · have h4 : ¬ x2 &&& gd s k = gd s k := fun z => h4 ((eb x2).2 z)
          exact ⟨_, _, _, _, rfl, k3, d3, by rw [fs1, if_neg h4]; exact p3⟩
    · rintro σ H1 ⟨v5, v6, v7, v8, rfl, k1, d1, p1⟩
      refine ⟨d1, _, rfl, ?_⟩
      have e1 : fold (enc (layT s k)).length = layT s (k + 1) := by
        show ((layT s k).take _).foldl _ [] = _
        rw [enc_len, List.take_length]; rfl
      rw [e1] at p1
      refine kk (upd H1 d (.dK (enc (layT s k)))) p (fun b o hb => ?_) hp (by rw [upd_ne npd.symm]; exact p1)
      by_cases hbd : b = d
      · subst hbd; rw [upd_same, ← hd, hb]
      · rw [upd_ne hbd]; exact k1 _ _ hb hbd
end
end SM
end
section
set_option Elab.async false
set_option linter.all false
set_option maxRecDepth 100000
set_option maxHeartbeats 4000000
namespace SM
open PySem PySem.Spec PyProof.Rows L2
open Kg33 (has with_ near at_)

theorem mask_nat (row k W : Nat) : Builtin.bitAnd ((row : Int) / 2 ^ ((k : Int) * (W : Int)).toNat) (1 * 2 ^ ((W : Int)).toNat - 1) = ((row / 2 ^ (k * W) % 2 ^ W : Nat) : Int) := by
  have e0 : (k : Int) * (W : Int) = ((k * W : Nat) : Int) := by push_cast; rfl
  rw [e0, Int.toNat_natCast, Int.toNat_natCast, Int.one_mul]
  have e1 : (row : Int) / 2 ^ (k * W) = ((row / 2 ^ (k * W) : Nat) : Int) := by push_cast; rfl
  have e2 : (2 : Int) ^ W - 1 = ((2 ^ W - 1 : Nat) : Int) := by
    have h := Nat.two_pow_pos W
    have e3 : (2 : Int) ^ W = ((2 ^ W : Nat) : Int) := by push_cast; rfl
    rw [e3]; omega
  rw [e1, e2, band_nat, Nat.and_two_pow_sub_one_eq_mod]
def filledN (W row : Nat) (ch : List Nat) (mines : Int) (i : Nat) : Nat :=
  sumL (List.range i) fun k => if 0 ≤ mines - (k : Int) ∧ mines - (k : Int) < (ch.length : Int) then (row / 2 ^ (k * W) % 2 ^ W) * ch.getD (mines - (k : Int)).toNat 0 else 0
theorem filledN_succ (W row : Nat) (ch : List Nat) (mines : Int) (i : Nat) : filledN W row ch mines (i + 1) = filledN W row ch mines i + if 0 ≤ mines - (i : Int) ∧ mines - (i : Int) < (ch.length : Int) then (row / 2 ^ (i * W) % 2 ^ W) * ch.getD (mines - (i : Int)).toNat 0 else 0 := by
  unfold filledN
  rw [List.range_succ, sumL_append, sumL_cons, sumL_nil, Nat.add_zero]

section
variable {P : Program} {w : World} {K : PySem.W.Frag} {mg : Str → Option Value} {base : Heap} {C CT : Addr}

theorem scFilled : FnScope ["self", "row", "choices", "mines", "field", "many", "k", "left"] ["self", "row", "choices", "mines"] (defScope sFilled) := ⟨rfl, rfl, rfl, by decide +kernel, rfl, by decide +kernel, by decide +kernel⟩
theorem ok_filled {f : Addr} {fd : FuncData} (F : Fun K "filled_up" "Ways.filled_up" sFilled f fd) (T : TxtW K mg C) (TS : TxtS mg) : FnOk P w K mg base CX0 1 f fd ["self", "row", "choices", "mines"] (spFilled K C) := by
  refine F.ok scFilled (fun vs H Q E h => ?_) (fun cdv A outer st H vs Q E hr h => ?_)
  · obtain ⟨a, dxw, b, l, fs, bs, ch, row, mines, rfl, _⟩ := h
    rfl
  · obtain ⟨a, dxw, b, l, fs, bs, ch, row, mines, rfl, ha, fw, fb, hb, hbs, hl, k⟩ := h
    refine ⟨_, pss_cons (ps_set (i := 4) scFilled.nd rfl (Or.inl rfl) (pe_op op_sub (pe_op op_shl pe_int (pe_fld (pv 0) rfl)) pe_int))
      (pss_cons (ps_set (i := 5) scFilled.nd rfl (Or.inl rfl) pe_int)
      (pss_cons (ps_for PassesOwn.never rfl (pi_range1 rfl TS.range (pa_cons (pe_op op_add (pe_callB call_len_seq rfl TS.len PySem.boot_len (pa_cons (pe_fld (pv 0) rfl) pa_nil)) pe_int) pa_nil)) (pg_name (i := 6) scFilled.nd rfl (Or.inl rfl))
        (pss_cons (ps_set (i := 7) scFilled.nd rfl (Or.inl rfl) (pe_op op_sub (pv 3) (pv 6)))
        (pss_one (ps_if (PW.pt (pw_and (pt_cmpR op_le pe_int (pv 7) (nomark _)) (pw_and1 (pt_cmpR op_lt (pv 7) (pe_callB call_len_seq rfl TS.len PySem.boot_len (pa_cons (pv 2) pa_nil)) (nomark _)))))
          (pss_one (ps_set (i := 5) scFilled.nd rfl (Or.inl rfl) (pe_op op_add (pv 5) (pe_op op_mul (pe_op op_and (pe_op op_shr (pv 1) (pe_op op_mul (pv 6) (pe_fld (pv 0) rfl))) (pv 4)) (pe_ix ix_list (pv 2) (pv 7) (fun _ _ => rfl)))))) pss_nil))))
      (pss_one (ps_ret (pv 5))))), ?_⟩
    refine ⟨_, rfl, a, C, dxw, _, _, rfl, ha, T.cl, T.nW, fw, _, _, rfl, rfl, ⟨Int.natCast_nonneg _, by omega, by decide⟩, _, _, rfl, rfl, ?_⟩
    refine ⟨_, rfl, a, C, dxw, _, _, rfl, ha, T.cl, T.nB, fb, b, _, rfl, .inl (SqL.of hb), _, _, rfl, rfl, _, rfl, ?_, ?_, ?_⟩
    · rw [nvs_len]; omega
    · rw [nvs_len]; omega
    have en : (((nvs bs).length : Int) + 1).toNat = bs.length + 1 := by rw [nvs_len]; omega
    rw [en]
    refine for_range (lo := 0) (n := bs.length + 1) (fun i σ H' => ∃ v6 v7 : Option V, σ = [some (.ref a), some (.int (row : Int)), some (.ref l), some (.int mines), some (.int (1 * 2 ^ ((bs.length + 1 : Nat) : Int).toNat - 1)), some (.int ((filledN (bs.length + 1) row ch mines i : Nat) : Int)), v6, v7] ∧ H' = H)
      ⟨none, none, rfl, rfl⟩ ?_ ?_
    · rintro i σ H' hi ⟨v6, v7, rfl, rfl⟩
      have e0 : (0 : Int) + (i : Nat) = (i : Int) := by omega
      rw [e0]
      refine ⟨_, rfl, _, rfl, _, _, rfl, rfl, ?_⟩
      refine ⟨_, rfl, _, _, rfl, rfl, _, rfl, ite2 (fun h1 => ?_) fun h1 => iteF ?_⟩
      · have h1 : 0 ≤ mines - (i : Int) := by simpa using h1
        refine ⟨_, rfl, _, rfl, l, _, rfl, .inl (SqL.of hl), _, _, rfl, rfl, _, rfl, ite2 (fun h2 => ?_) fun h2 => ?_⟩
        · have h2 : mines - (i : Int) < (ch.length : Int) := by
            rw [nvs_len] at h2
            simpa using h2
          have hlt : (mines - (i : Int)).toNat < ch.length := by omega
          have hget : ch[(mines - (i : Int)).toNat]? = some (ch.getD (mines - (i : Int)).toNat 0) := by
            rw [List.getD_eq_getElem?_getD, List.getElem?_eq_getElem hlt]; rfl
          have hmod : row / 2 ^ (i * (bs.length + 1)) % 2 ^ (bs.length + 1) < 2 ^ 64 := Nat.lt_of_lt_of_le (Nat.mod_lt _ (Nat.two_pow_pos _)) (Nat.pow_le_pow_right (by decide) (by omega))
          refine ⟨_, rfl, _, rfl, _, rfl, _, rfl, a, C, dxw, _, _, rfl, ha, T.cl, T.nW, fw, _, _, rfl, rfl, .inl ⟨by omega, by omega⟩, _, _, rfl, rfl, ?_, _, rfl, _, _, rfl, rfl, _, rfl, _, rfl, l, _, _, _, rfl, rfl, SqL.of hl, at_of (j := (mines - (i : Int)).toNat) (by omega) (nvs_of hget), _, _, rfl, rfl, ?_, _, _, rfl, rfl, ?_⟩
          · exact Int.mul_nonneg (Int.natCast_nonneg _) (Int.natCast_nonneg _)
          · try dsimp only
            rw [mask_nat]
            exact .inl ⟨by omega, by omega⟩
          · refine ⟨some (.int (i : Int)), some (.int (mines - (i : Int))), ?_, rfl⟩
            have e1 : ((filledN (bs.length + 1) row ch mines i : Nat) : Int) + Builtin.bitAnd ((row : Int) / 2 ^ ((i : Int) * ((bs.length + 1 : Nat) : Int)).toNat) (1 * 2 ^ ((bs.length + 1 : Nat) : Int).toNat - 1) * ((ch.getD (mines - (i : Int)).toNat 0 : Nat) : Int) = ((filledN (bs.length + 1) row ch mines (i + 1) : Nat) : Int) := by
              rw [mask_nat, filledN_succ, if_pos ⟨h1, h2⟩]; push_cast; rfl
            show [some (V.ref a), some (V.int (row : Int)), some (V.ref l), some (V.int mines), some (V.int _), some (V.int (((filledN (bs.length + 1) row ch mines i : Nat) : Int) + Builtin.bitAnd ((row : Int) / 2 ^ ((i : Int) * ((bs.length + 1 : Nat) : Int)).toNat) (1 * 2 ^ ((bs.length + 1 : Nat) : Int).toNat - 1) * ((ch.getD (mines - (i : Int)).toNat 0 : Nat) : Int))), some (V.int (i : Int)), some (V.int (mines - (i : Int)))] = _
            rw [e1]
        · have h2 : ¬ mines - (i : Int) < (ch.length : Int) := by
            rw [nvs_len] at h2
            simpa using h2
          refine ⟨some (.int (i : Int)), some (.int (mines - (i : Int))), ?_, rfl⟩
          rw [filledN_succ, if_neg (fun z => h2 z.2), Nat.add_zero]; rfl
      · have h1 : ¬ 0 ≤ mines - (i : Int) := by simpa using h1
        refine ⟨some (.int (i : Int)), some (.int (mines - (i : Int))), ?_, rfl⟩
        rw [filledN_succ, if_neg (fun z => h1 z.1), Nat.add_zero]; rfl
    · rintro σ H' ⟨v6, v7, rfl, rfl⟩
      exact ⟨_, rfl, k⟩

theorem scLayers : FnScope ["self", "layer", "layers", "c"] ["self"] (defScope sLayers) := ⟨rfl, rfl, rfl, by decide +kernel, rfl, by decide +kernel, by decide +kernel⟩
theorem ok_layers {f fl : Addr} {fd fdl : FuncData} (F : Fun K "all_layers" "Ways.all_layers" sLayers f fd) (T : TxtW K mg C) (TT : TxtT K mg CT)
    (GL : FnOk P w K mg base CX0 1 fl fdl ["self", "layer", "c"] (spLayer C CT)) (bL : Binds K fdl ["self", "layer", "c"] []) (mL : Meth K C "layer_behind" fl) : FnOk P w K mg base CX0 2 f fd ["self"] (spLayers C CT) := by
  refine F.ok scLayers (fun vs H Q E h => ?_) (fun cdv A outer st H vs Q E hr h => ?_)
  · obtain ⟨a, dxw, t, dx, m, e, g, b, fs, s, rfl, _⟩ := h
    rfl
  · obtain ⟨a, dxw, t, dx, m, e, g, b, fs, s, rfl, ha, ft, fw, fb, fl, ht, hb, k⟩ := h
    have hu := hu_of hr
    refine ⟨_, pss_cons (ps_set (i := 1) scLayers.nd rfl (Or.inl rfl) pe_dnewK)
      (pss_mid (ps_if (pt_val (pe_fld (pe_fld (pv 0) rfl) rfl)) (pss_one (ps_dput hu (pv 1) (pe_fld (pe_fld (pv 0) rfl) rfl) pe_int rfl)) pss_nil)
      (pss_cons (ps_set (i := 2) scLayers.nd rfl (Or.inl rfl) (pe_lst (pa_cons (pv 1) pa_nil)))
      (pss_cons (ps_for PassesOwn.never rfl (pi_list (pe_fld (pv 0) rfl)) (pg_name (i := 3) scLayers.nd rfl (Or.inl rfl))
        (pss_cons (ps_set (i := 1) scLayers.nd rfl (Or.inl rfl) (pe_meth (pv 0) T.cl mL GL hr bL .nil pass0 (pa_cons (pv 1) (pa_cons (pv 3) pa_nil))))
        (pss_one (ps_expr (pe_bm PySem.F.plainAttrs_list PySem.F.slot_list_append PySem.F.type_list_append mt_append (pv 2) (pa_cons (pv 1) pa_nil))))))
      (pss_one (ps_ret (pv 2)))))), ?_⟩
    intro p hp
    have s0 : Same H (upd H p (.dK [])) := Same.new hp
    refine ⟨fun σ' H' => σ' = [some (.ref a), some (.ref p), none, none] ∧ Same H H' ∧ H' p = some (.dK (enc (layT s 0))), ?_, ?_⟩
    · refine ⟨_, rfl, a, C, dxw, _, _, rfl, s0 _ _ ha, T.cl, T.nT, ft, t, CT, dx, _, _, rfl, s0 _ _ ht.obj, TT.cl, TT.nP, rfl, _, rfl, ite2 (fun h1 => ?_) fun h1 => ?_⟩
      · refine ⟨_, rfl, _, rfl, a, C, dxw, _, _, rfl, s0 _ _ ha, T.cl, T.nT, ft, t, CT, dx, _, _, rfl, s0 _ _ ht.obj, TT.cl, TT.nB, rfl, p, _, rfl, DPut.k (k := Sum.inl ((begN s 60 : Nat) : Int)) upd_same (by decide), rfl, Same.at s0 hp, ?_⟩
        rw [upd_same]
        have h2 : possible s = true := h1
        have e1 : layT s 0 = [(begN s 60, 1)] := by
          show start0 (begS s) = _
          unfold begS; rw [if_pos h2]; rfl
        rw [e1]
        exact congrArg (fun z => some (HO.dK z)) (putK_enc [] (begN s 60) 1)
      · have h2 : ¬ possible s = true := h1
        have e1 : layT s 0 = [] := by
          show start0 (begS s) = _
          unfold begS; rw [if_neg h2]; rfl
        refine ⟨rfl, s0, ?_⟩
        rw [upd_same, e1]; rfl
    · rintro σ' H1 ⟨rfl, s1, p1⟩
      refine ⟨_, rfl, (by show 1 ≤ sizeLine; decide), fun y hy => ?_⟩
      have hy0 : H y = none := s1.free hy
      have s2 : Same H1 (upd H1 y (.lst [V.ref p])) := Same.new hy
      have s02 := s1.trans s2
      refine ⟨_, rfl, a, C, dxw, _, _, rfl, s02 _ _ ha, T.cl, T.nB, fb, b, rfl, ⟨_, SqL.of (s02 _ _ hb)⟩, for_list (K := K) (a := b) (xs := nvs (Bs s)) (fun i σ H' => ∃ (v : Option V) (dc : Addr) (ds : List Addr), σ = [some (.ref a), some (.ref dc), some (.ref y), v] ∧ Same H H' ∧ LayersAt H' y ds s (i + 1) ∧ ds[i]? = some dc)
        ⟨none, p, [p], rfl, s02, ⟨upd_same, rfl, fun k d hkd => ?_⟩, rfl⟩ (fun i σ H' _ ⟨_, _, _, _, z, _⟩ => SqL.of (z _ _ hb)) ?_ ?_⟩
      · cases k with
        | zero =>
          have e1 : p = d := Option.some.inj hkd
          subst e1
          exact s2 _ _ p1
        | succ k => simp at hkd
      · rintro i x σ H2 hx ⟨v, dc, ds, rfl, s3, ⟨y3, l3, d3⟩, hdc⟩
        obtain ⟨c, hc, rfl⟩ := nvs_get hx
        have hi : i < (Bs s).length := (List.getElem?_eq_some_iff.1 hc).1
        have ec : (Bs s).getD i 0 = c := by rw [List.getD_eq_getElem?_getD, hc]; rfl
        refine ⟨_, rfl, a, dxw, _, rfl, s3 _ _ ha, fl, _, rfl, _, rfl, a, dxw, dc, t, dx, m, e, g, fs, s, i, (by rw [ec]; rfl), s3 _ _ ha, ft, fw, ht.same s3, hi, d3 i dc hdc, fun H4 p4 s4 hp4 h4 => ?_⟩
        have y4 := s4 _ _ y3
        have hB := Bs_len (s := s)
        refine ⟨_, rfl, .inl ⟨rfl, _, SqL.of y4⟩, _, rfl, y, _, _, rfl, rfl, y4, (by rw [List.length_map, l3]; exact Nat.lt_of_le_of_lt (show i + 1 ≤ 1000 by omega) (by decide)), ?_⟩
        have npy : p4 ≠ y := (ne_of_none y3 hp4).symm
        refine ⟨_, p4, ds ++ [p4], rfl, Same.at (s3.trans s4) hy0, ⟨?_, by simp [l3], fun k' d hkd => ?_⟩, ?_⟩
        · rw [upd_same, List.map_append]; rfl
        · by_cases hk' : k' < ds.length
          · rw [List.getElem?_append_left hk'] at hkd
            have h5 := d3 k' d hkd
            rw [upd_ne (ne_of h5 y3 (by intro z; cases z))]
            exact s4 _ _ h5
          · rw [List.getElem?_append_right (by omega)] at hkd
            have e5 : k' - ds.length = 0 := by
              cases z : k' - ds.length with
              | zero => rfl
              | succ j => rw [z] at hkd; simp at hkd
            rw [e5] at hkd
            have e6 : p4 = d := Option.some.inj hkd
            subst e6
            have e7 : k' = i + 1 := by omega
            subst e7
            rw [upd_ne npy]; exact h4
        · rw [List.getElem?_append_right (by omega), l3]; simp
      · rintro σ H2 ⟨v, dc, ds, rfl, s3, L3, hdc⟩
        rw [nvs_len] at L3
        exact ⟨_, rfl, k H2 y ds s3 hy0 L3⟩
end
end SM
end
section
set_option Elab.async false
set_option linter.all false
set_option maxRecDepth 100000
set_option maxHeartbeats 4000000
namespace SM
open PySem PySem.Spec PyProof.Rows L2
open Kg33 (has with_ near at_)

/-! ### going back from the end -/
def onwT (s : Kg33.Seen) (j : Nat) : Tab := onw (tk s) (gd s) (nB s + 1) (begS s) (nB s) j
def rowsTab (s : Kg33.Seen) (i : Nat) : Tab := (List.range i).map fun j => ((Bs s).getD (nB s - 1 - j) 0, rowAt s (nB s - 1 - j))
def pre (l : Tab) (f : Nat × Nat → Nat) (i : Nat) : Tab := (l.take i).map fun p => (p.1, f p)
theorem keys_take {l : Tab} {i : Nat} {p : Nat × Nat} (hn : (keys l).Nodup) (h : l[i]? = some p) : p.1 ∉ keys (l.take i) := by
  have h1 : (keys l)[i]? = some p.1 := by unfold keys; rw [List.getElem?_map, h]; rfl
  have h2 := not_mem_take hn h1
  unfold keys at h2 ⊢
  rw [← List.map_take] at h2
  exact h2
theorem pre_keys (l : Tab) (f : Nat × Nat → Nat) (i : Nat) : keys (pre l f i) = keys (l.take i) := keys_map2 _ f
theorem pre_step {l : Tab} {f : Nat × Nat → Nat} {i : Nat} {p : Nat × Nat} (hn : (keys l).Nodup) (h : l[i]? = some p) : put (pre l f i) p.1 (f p) = pre l f (i + 1) := by
  rw [put_new _ (by rw [pre_keys]; exact keys_take hn h)]
  unfold pre
  rw [take_snoc h, List.map_append]; rfl
theorem pre_len (l : Tab) (f : Nat × Nat → Nat) (i : Nat) : (pre l f i).length ≤ l.length := by
  unfold pre; rw [List.length_map]; exact takeLe _ _
theorem layT_nodup (s : Kg33.Seen) (k : Nat) : (keys (layT s k)).Nodup := (lay_all _ _ _ _ k).1
theorem layT_len {s : Kg33.Seen} {k : Nat} (hk : k ≤ nB s) : (layT s k).length ≤ 16384 := by
  have := lay_few (s := s) (W := nB s + 1) hk
  unfold keys at this
  rw [List.length_map] at this
  exact this
theorem rowsTab_succ (s : Kg33.Seen) (i : Nat) : rowsTab s (i + 1) = rowsTab s i ++ [((Bs s).getD (nB s - 1 - i) 0, rowAt s (nB s - 1 - i))] := by
  unfold rowsTab; rw [List.range_succ, List.map_append]; rfl
theorem rowsTab_len (s : Kg33.Seen) (i : Nat) : (rowsTab s i).length = i := by unfold rowsTab; simp
theorem Bs_inj {s : Kg33.Seen} {i j : Nat} (hi : i < (Bs s).length) (hj : j < (Bs s).length) (h : (Bs s).getD i 0 = (Bs s).getD j 0) : i = j := by
  obtain ⟨x, _, e1, r1, _⟩ := Bs_get hi
  obtain ⟨y, _, e2, r2, _⟩ := Bs_get hj
  rw [e1, e2] at h
  rw [← r1, ← r2, h]
theorem rowsTab_not {s : Kg33.Seen} {i : Nat} (hi : i < nB s) : (Bs s).getD (nB s - 1 - i) 0 ∉ keys (rowsTab s i) := by
  unfold keys rowsTab
  rw [List.map_map, List.mem_map]
  rintro ⟨j, hj, e⟩
  have hj := List.mem_range.1 hj
  have hn : nB s = (Bs s).length := rfl
  have := Bs_inj (s := s) (i := nB s - 1 - j) (j := nB s - 1 - i) (by omega) (by omega) e
  omega

def spRows (CW CT : Addr) : Sp := fun vs H Q _ => ∃ (a dxw t dx m e g b y : Addr) (ds : List Addr) (fs : List (Str × V)) (s : Kg33.Seen), vs = [.ref a] ∧ H a = some (.ins CW dxw fs) ∧ fs.lookup ("tally" : Str) = some (.ref t) ∧ fs.lookup ("width" : Str) = some (.int ((nB s + 1 : Nat) : Int)) ∧ fs.lookup ("beside" : Str) = some (.ref b) ∧ fs.lookup ("layers" : Str) = some (.ref y) ∧
  TallyIs CT H t dx m e g s 60 ∧ H b = some (.lst (nvs (Bs s))) ∧ LayersAt H y ds s (nB s + 1) ∧
  ∀ (H' : Hp) (p : Addr), Same H H' → H p = none → H' p = some (.dK (enc (rowsTab s (nB s)))) → Q (.ref p) H'

section
variable {P : Program} {w : World} {K : PySem.W.Frag} {mg : Str → Option Value} {base : Heap} {C CT : Addr}

theorem scRows : FnScope ["self", "rows", "onward", "tally", "k", "c", "before", "row", "mined"] ["self"] (defScope sRows) := ⟨rfl, rfl, rfl, by decide +kernel, rfl, by decide +kernel, by decide +kernel⟩
theorem ok_rows {f : Addr} {fd : FuncData} (F : Fun K "rows_with_mine" "Ways.rows_with_mine" sRows f fd) (T : TxtW K mg C) (TT : TxtT K mg CT) (TS : TxtS mg) : FnOk P w K mg base CX0 1 f fd ["self"] (spRows C CT) := by
  refine F.ok scRows (fun vs H Q E h => ?_) (fun cdv A outer st H vs Q E hr h => ?_)
  · obtain ⟨a, dxw, t, dx, m, e, g, b, y, ds, fs, s, rfl, _⟩ := h
    rfl
  · obtain ⟨a, dxw, t, dx, m, e, g, b, y, ds, fs, s, rfl, ha, ft, fw, fb, fy, ht, hb, hL, kk⟩ := h
    have hu := hu_of hr
    refine ⟨_, pss_cons (ps_set (i := 1) scRows.nd rfl (Or.inl rfl) pe_dnewK)
      (pss_cons (ps_set (i := 2) scRows.nd rfl (Or.inl rfl) pe_dnewK)
      (pss_cons (ps_lock (ps_for PassesOwn.never rfl (pi_keys (pe_ix ix_list (pe_fld (pv 0) rfl) (pe_un un_neg pe_int) (fun _ _ => rfl))) (pg_name (i := 3) scRows.nd rfl (Or.inl rfl))
        (pss_one (ps_dput hu (pv 2) (pv 3) pe_int rfl))))
      (pss_cons (ps_for PassesOwn.never rfl (pi_range3 rfl TS.range (pa_cons (pe_op op_sub (pe_callB call_len_seq rfl TS.len PySem.boot_len (pa_cons (pe_fld (pv 0) rfl) pa_nil)) pe_int) (pa_cons (pe_un un_neg pe_int) (pa_cons (pe_un un_neg pe_int) pa_nil)))) (pg_name (i := 4) scRows.nd rfl (Or.inl rfl))
        (pss_cons (ps_set (i := 5) scRows.nd rfl (Or.inl rfl) (pe_ix ix_list (pe_fld (pv 0) rfl) (pv 4) (fun _ _ => rfl)))
        (pss_cons (ps_dput hu (pv 1) (pv 5) pe_int rfl)
        (pss_cons (ps_set (i := 6) scRows.nd rfl (Or.inl rfl) pe_dnewK)
        (pss_cons (ps_lock (ps_for PassesOwn.never rfl (pi_items (pe_ix ix_list (pe_fld (pv 0) rfl) (pv 4) (fun _ _ => rfl))) (pg_tup rfl (pgs_cons (pg_name (i := 3) scRows.nd rfl (Or.inl rfl)) (pgs_cons (pg_name (i := 7) scRows.nd rfl (Or.inl rfl)) pgs_nil)))
          (pss_cons (ps_set (i := 8) scRows.nd rfl (Or.inl rfl) (pe_op op_shlW (pe_dget2 hu (pv 2) (pe_op op_sub (pv 3) (pe_ix ix_list (pe_fld (pe_fld (pv 0) rfl) rfl) (pv 5) (fun _ _ => rfl))) pe_int ⟨rfl, rfl, rfl, rfl⟩) (pe_fld (pv 0) rfl)))
          (pss_cons (ps_dput hu (pv 1) (pv 5) (pe_op op_add (pe_dget hu (pv 1) (pv 5) (fun _ _ => rfl)) (pe_op op_mulW (pv 7) (pv 8))) rfl)
          (pss_one (ps_dput hu (pv 6) (pv 3) (pe_op op_add (pv 8) (pe_dget2 hu (pv 2) (pe_op op_sub (pv 3) (pe_ix ix_list (pe_fld (pe_fld (pv 0) rfl) rfl) (pv 5) (fun _ _ => rfl))) pe_int ⟨rfl, rfl, rfl, rfl⟩)) rfl))))))
        (pss_one (ps_set (i := 2) scRows.nd rfl (Or.inl rfl) (pv 6))))))))
      (pss_one (ps_ret (pv 1)))))), ?_⟩
    have hB60 : nB s ≤ 60 := Bs_len
    have hnB : (Bs s).length = nB s := rfl
    obtain ⟨y0, hdl, d0⟩ := hL
    intro r hr0
    have s1 : Same H (upd H r (.dK [])) := Same.new hr0
    intro po hpo
    have npr : r ≠ po := by
      intro z; subst z; rw [upd_same] at hpo; cases hpo
    have hpo0 : H po = none := by rw [upd_ne npr.symm] at hpo; exact hpo
    have s2 : Same H (upd (upd H r (.dK [])) po (.dK [])) := Same.at s1 hpo0
    generalize hH2 : upd (upd H r (.dK [])) po (.dK []) = H2 at s2
    have r2 : H2 r = some (.dK []) := by rw [← hH2, upd_ne npr, upd_same]
    have po2 : H2 po = some (.dK []) := by rw [← hH2, upd_same]
    -- the last layer
    obtain ⟨ds', dn, hds⟩ : ∃ ds' dn, ds = ds' ++ [dn] := by
      cases ds with
      | nil => simp at hdl
      | cons x xs => exact ⟨_, _, (List.dropLast_concat_getLast (l := x :: xs) (by simp)).symm⟩
    have hlen' : ds'.length = nB s := by rw [hds, List.length_append, List.length_singleton] at hdl; omega
    have hdn : ds[nB s]? = some dn := by rw [hds, List.getElem?_append_right (by omega), hlen']; simp
    have dn0 := d0 _ _ hdn
    have ndr : dn ≠ r := ne_of_none dn0 hr0
    have ndp : dn ≠ po := ne_of_none dn0 hpo0
    have nyd : y ≠ dn := ne_of y0 dn0 (by intro z; cases z)
    have nad : a ≠ dn := ne_of ha dn0 (by intro z; cases z)
    refine ⟨dn, _, s2 _ _ dn0, trivial, fun od => ?_⟩
    refine ⟨_, rfl, a, C, dxw, _, _, rfl, (by rw [upd_ne nad]; exact s2 _ _ ha), T.cl, T.nL, fy, _, rfl, y, _, _, _, rfl, rfl, SqL.of (by rw [upd_ne nyd]; exact s2 _ _ y0), (by rw [hds, List.map_append]; exact atI_last _ _), dn, od, rfl, .inl ⟨_, upd_same, ?_⟩⟩
    refine for_keys (fun i σ H' => ∃ v3 : Option V, σ = [some (.ref a), some (.ref r), some (.ref po), v3, none, none, none, none, none] ∧ (∀ b o, H b = some o → b ≠ dn → H' b = some o) ∧ H' dn = some (.frz od (.dK (enc (layT s (nB s))))) ∧ H' r = some (.dK []) ∧ H' po = some (.dK (enc (pre (layT s (nB s)) (fun _ => 1) i))))
      ⟨none, rfl, fun b o hb hn => by rw [upd_ne hn]; exact s2 _ _ hb, upd_same, by rw [upd_ne ndr.symm]; exact r2, by rw [upd_ne ndp.symm]; exact po2⟩ (fun i σ H' _ ⟨_, _, _, z, _⟩ => z) ?_ ?_
    · rintro i kq vq σ H3 hkv ⟨v3, rfl, k3, d3, r3, p3⟩
      obtain ⟨pr, hpr, rfl, rfl⟩ := enc_get hkv
      refine ⟨_, rfl, _, rfl, po, _, rfl, DPut.k (k := Sum.inl (pr.1 : Int)) p3 (by rw [enc_len]; exact Nat.lt_of_le_of_lt (Nat.le_trans (pre_len _ _ _) (layT_len (Nat.le_refl _))) (by decide)), ?_⟩
      refine ⟨_, rfl, fun b o hb hn => ?_, ?_, ?_, ?_⟩
      · rw [upd_ne (ne_of_none hb hpo0)]; exact k3 _ _ hb hn
      · rw [upd_ne ndp]; exact d3
      · rw [upd_ne npr]; exact r3
      · rw [upd_same, ← pre_step (layT_nodup s _) hpr, ← putK_enc]; rfl
    · rintro σ H3 ⟨v3, rfl, k3, d3, r3, p3⟩
      refine ⟨d3, ?_⟩
      have on0 : pre (layT s (nB s)) (fun _ => 1) (enc (layT s (nB s))).length = onwT s 0 := by
        unfold pre; rw [enc_len, List.take_length]; rfl
      rw [on0] at p3
      generalize hH4 : upd H3 dn (.dK (enc (layT s (nB s)))) = H4
      have s4 : Same H H4 := by
        intro b' o hb'
        rw [← hH4]
        by_cases hbd : b' = dn
        · subst hbd; rw [upd_same, ← dn0, hb']
        · rw [upd_ne hbd]; exact k3 _ _ hb' hbd
      have r4 : H4 r = some (.dK (enc (rowsTab s 0))) := by rw [← hH4, upd_ne ndr.symm]; exact r3
      have p4 : H4 po = some (.dK (enc (onwT s 0))) := by rw [← hH4, upd_ne ndp.symm]; exact p3
      -- from the end back
      refine ⟨_, rfl, a, C, dxw, _, _, rfl, s4 _ _ ha, T.cl, T.nB, fb, b, _, rfl, .inl (SqL.of (s4 _ _ hb)), _, _, rfl, rfl, _, rfl, _, rfl, _, _, _, nB s, rfl, ?_, ?_⟩
      · have := RgC.neg (i := ((nvs (Bs s)).length : Int) - 1) (j := -1) (by rw [nvs_len, hnB]; omega) (by rw [nvs_len, hnB]; omega) (by decide) (by decide)
        rw [show ((((nvs (Bs s)).length : Int) - 1) - -1).toNat = nB s by rw [nvs_len, hnB]; omega] at this
        exact this
      refine for_rangeC (fun i σ H' => ∃ (v3 v4 v5 v6 v7 v8 : Option V) (po : Addr), σ = [some (.ref a), some (.ref r), some (.ref po), v3, v4, v5, v6, v7, v8] ∧ Same H H' ∧ H po = none ∧ r ≠ po ∧ H' r = some (.dK (enc (rowsTab s i))) ∧ H' po = some (.dK (enc (onwT s i))))
        ⟨_, _, _, _, _, _, po, rfl, s4, hpo0, npr, r4, p4⟩ ?_ ?_
      · rintro i σ H5 hi ⟨v3, v4, v5, v6, v7, v8, po, rfl, s5, hpo0, npr, r5, p5⟩
        obtain ⟨k, hk⟩ : ∃ k, k = nB s - 1 - i := ⟨_, rfl⟩
        have hkB : k < (Bs s).length := by omega
        have ek : ((nvs (Bs s)).length : Int) - 1 + (i : Nat) * (-1) = (k : Int) := by rw [nvs_len, hnB]; omega
        rw [ek]
        obtain ⟨c, hc, hcg, hcr, hc60, hcp⟩ := Bs_get hkB
        obtain ⟨d, hd⟩ : ∃ d, ds[k]? = some d := ⟨_, List.getElem?_eq_getElem (by omega)⟩
        have dk0 := d0 _ _ hd
        have ndr : d ≠ r := ne_of_none dk0 hr0
        have ndp : d ≠ po := ne_of_none dk0 hpo0
        have etM : takeOf s 1 c = tk s k true := by unfold tk; rw [hcg]; rfl
        have etE : takeOf s 32 c = tk s k false := by unfold tk; rw [hcg]; rfl
        have cnot : c ∉ keys (rowsTab s i) := by
          have := rowsTab_not hi
          rw [← hk, hcg] at this
          exact this
        refine ⟨_, rfl, a, C, dxw, _, _, rfl, s5 _ _ ha, T.cl, T.nB, fb, _, rfl, b, _, _, _, rfl, rfl, SqL.of (s5 _ _ hb), at_of (j := k) rfl (nvs_of hc), ?_⟩
        refine ⟨_, rfl, _, rfl, r, _, rfl, DPut.k (k := Sum.inl (c : Int)) r5 (by rw [enc_len, rowsTab_len]; exact Nat.lt_of_le_of_lt (show i ≤ 1000 by omega) (by decide)), ?_⟩
        have er6 : putK (enc (rowsTab s i)) (Sum.inl (c : Int)) (V.int 0) = enc (rowsTab s i ++ [(c, 0)]) := by
          rw [← put_new 0 cnot]; exact putK_enc _ c 0
        rw [er6]
        intro bf hbf
        have nbr : r ≠ bf := by
          intro z; subst z; rw [upd_same] at hbf; cases hbf
        have hbf5 : H5 bf = none := by rw [upd_ne nbr.symm] at hbf; exact hbf
        have nbp : po ≠ bf := ne_of_none p5 hbf5
        have hbf0 : H bf = none := s5.free hbf5
        generalize hH6 : upd (upd H5 r (.dK (enc (rowsTab s i ++ [(c, 0)])))) bf (.dK []) = H6
        have s6 : Same H H6 := by rw [← hH6]; exact Same.at (Same.at s5 hr0) hbf0
        have r6 : H6 r = some (.dK (enc (rowsTab s i ++ [(c, 0)]))) := by rw [← hH6, upd_ne nbr, upd_same]
        have p6 : H6 po = some (.dK (enc (onwT s i))) := by rw [← hH6, upd_ne nbp, upd_ne npr.symm]; exact p5
        have b6 : H6 bf = some (.dK []) := by rw [← hH6, upd_same]
        have ndb : d ≠ bf := ne_of_none dk0 hbf0
        have nyd : y ≠ d := ne_of y0 dk0 (by intro z; cases z)
        have nad : a ≠ d := ne_of ha dk0 (by intro z; cases z)
        have ntd : t ≠ d := ne_of ht.obj dk0 (by intro z; cases z)
        have nmd : m ≠ d := ne_of ht.hm dk0 (by intro z; cases z)
        have ned : e ≠ d := ne_of ht.he dk0 (by intro z; cases z)
        refine ⟨d, _, s6 _ _ dk0, trivial, fun od => ?_⟩
        refine ⟨_, rfl, a, C, dxw, _, _, rfl, (by rw [upd_ne nad]; exact s6 _ _ ha), T.cl, T.nL, fy, _, rfl, y, _, _, _, rfl, rfl, SqL.of (by rw [upd_ne nyd]; exact s6 _ _ y0), at_of (j := k) (v := V.ref d) rfl (by rw [List.getElem?_map, hd]; rfl), d, od, _, rfl, upd_same, ?_⟩
        let fM : Nat × Nat → Nat := fun p => val (onwT s i) (p.1 - tk s k true) * 2 ^ (nB s + 1)
        let fB : Nat × Nat → Nat := fun p => val (onwT s i) (p.1 - tk s k true) * 2 ^ (nB s + 1) + val (onwT s i) (p.1 - tk s k false)
        let part : Nat → Nat := fun j => sumL ((layT s k).take j) fun p => p.2 * fM p
        refine for_items (fun j σ H' => ∃ v3 v7 v8 : Option V, σ = [some (.ref a), some (.ref r), some (.ref po), v3, some (.int (k : Int)), some (.int (c : Int)), some (.ref bf), v7, v8] ∧ (∀ b o, H b = some o → b ≠ d → H' b = some o) ∧ H' d = some (.frz od (.dK (enc (layT s k)))) ∧
            H' r = some (.dK (enc (rowsTab s i ++ [(c, part j)]))) ∧ H' po = some (.dK (enc (onwT s i))) ∧ H' bf = some (.dK (enc (pre (layT s k) fB j))))
          ⟨_, _, _, rfl, fun b o hb hn => by rw [upd_ne hn]; exact s6 _ _ hb, upd_same, by rw [upd_ne ndr.symm]; exact r6, by rw [upd_ne ndp.symm]; exact p6, by rw [upd_ne ndb.symm]; exact b6⟩ (fun j σ H' _ ⟨_, _, _, _, _, z, _⟩ => z) ?_ ?_
        · rintro j kq vq T' σ H7 hkv ⟨v3, v7, v8, rfl, k7, d7, r7, p7, b7⟩ hT
          obtain ⟨pr, hpr, rfl, rfl⟩ := enc_get hkv
          have hmem : pr ∈ lay (tk s) (gd s) (nB s + 1) (begS s) k := List.mem_of_getElem? hpr
          have hge := lay_ge hkB hmem
          have hsm := lay_small (s := s) (W := nB s + 1) (k := k) (by omega) (by omega) hmem
          refine ⟨T', _, rfl, SqT.of upd_same, rfl, _, _, rfl, _, _, rfl, rfl, ?_⟩
          generalize hH8 : upd H7 T' (.tup [kV (Sum.inl (pr.1 : Int)), V.int (pr.2 : Int)]) = H8
          have s8 : Same H7 H8 := by rw [← hH8]; exact Same.new hT
          have k8 : ∀ b o, H b = some o → b ≠ d → H8 b = some o := fun b o hb hn => s8 _ _ (k7 _ _ hb hn)
          have d8 := s8 _ _ d7
          have r8 := s8 _ _ r7
          have p8 := s8 _ _ p7
          have b8 := s8 _ _ b7
          have a8 := k8 _ _ ha nad
          have t8 := k8 _ _ ht.obj ntd
          have m8 := k8 _ _ ht.hm nmd
          have e8 := k8 _ _ ht.he ned
          have emin : (pr.1 : Int) - ((takeOf s 1 c : Nat) : Int) = ((pr.1 - tk s k true : Nat) : Int) := by
            rw [etM]; have := hge true; omega
          have eemp : (pr.1 : Int) - ((takeOf s 32 c : Nat) : Int) = ((pr.1 - tk s k false : Nat) : Int) := by
            rw [etE]; have := hge false; omega
          have hov := onw_small (s := s) (W := nB s + 1) (n := nB s) (j := i) (by omega) hB60 (by omega) (pr.1 - tk s k true)
          -- mined
          refine ⟨_, rfl, po, rfl, .inl ⟨_, .inl p8⟩, _, rfl, _, rfl, a, C, dxw, _, _, rfl, a8, T.cl, T.nT, ft, t, CT, dx, _, _, rfl, t8, TT.cl, TT.nM, rfl, _, rfl, m, _, _, _, rfl, rfl, SqL.of m8, at_of (j := c) rfl (nvs_of (takes_at hc60)), _, _, rfl, rfl, ?_⟩
          dsimp only
          rw [emin]
          refine ⟨_, DGet.k (k := Sum.inl ((pr.1 - tk s k true : Nat) : Int)) p8, _, rfl, a, C, dxw, _, _, rfl, a8, T.cl, T.nW, fw, _, _, valV_val _ _, rfl, ⟨Int.natCast_nonneg _, ?_⟩, ?_⟩
          · have hb' := bits_of hov
            have : Builtin.Int.intBits ((val (onwT s i) (pr.1 - tk s k true) : Nat) : Int) ≤ 4000 := hb'
            omega
          dsimp only
          rw [shl_nat]
          have efM : val (onwT s i) (pr.1 - tk s k true) * 2 ^ (nB s + 1) = fM pr := rfl
          rw [efM]
          have hfM : fM pr < 2 ^ 4100 := by
            show val (onwT s i) (pr.1 - tk s k true) * 2 ^ (nB s + 1) < 2 ^ 4100
            have h1 : 2 ^ (nB s + 1) ≤ 2 ^ 100 := Nat.pow_le_pow_right (by decide) (by omega)
            have h2 : val (onwT s i) (pr.1 - tk s k true) * 2 ^ (nB s + 1) ≤ val (onwT s i) (pr.1 - tk s k true) * 2 ^ 100 := Nat.mul_le_mul_left _ h1
            have h3 : val (onwT s i) (pr.1 - tk s k true) * 2 ^ 100 < 2 ^ 4000 * 2 ^ 100 := Nat.mul_lt_mul_of_pos_right hov (Nat.two_pow_pos _)
            rw [← Nat.pow_add] at h3
            exact Nat.lt_of_le_of_lt h2 h3
          -- rows[c]
          have g1 : valV (enc (rowsTab s i ++ [(c, part j)])) (Sum.inl (c : Int)) = some (V.int ((part j : Nat) : Int)) := by
            rw [valV_enc, val_last _ cnot]; rfl
          refine ⟨_, rfl, _, rfl, r, _, rfl, (by have := DGet.k (k := Sum.inl (c : Int)) r8; rw [g1] at this; exact this), _, rfl, _, rfl, _, _, rfl, rfl, ?_, _, _, rfl, rfl, _, rfl, _, rfl, r, _, rfl, DPut.k (k := Sum.inl (c : Int)) r8 (by rw [enc_len, List.length_append, rowsTab_len]; exact Nat.lt_of_le_of_lt (show i + 1 ≤ 1000 by omega) (by decide)), ?_⟩
          · exact mulOk_of_bits (bits_of hsm) (bits_of hfM) (by decide)
          have epart : ((part j : Nat) : Int) + (pr.2 : Int) * ((fM pr : Nat) : Int) = ((part (j + 1) : Nat) : Int) := by
            have : part (j + 1) = part j + pr.2 * fM pr := by
              show sumL ((layT s k).take (j + 1)) _ = _
              rw [take_snoc hpr, sumL_append, sumL_cons, sumL_nil, Nat.add_zero]
            rw [this]; push_cast; rfl
          dsimp only
          rw [epart, putK_enc, put_last _ _ cnot]
          generalize hH9 : upd H8 r (.dK (enc (rowsTab s i ++ [(c, part (j + 1))]))) = H9
          have k9 : ∀ b o, H b = some o → b ≠ d → H9 b = some o := fun b o hb hn => by rw [← hH9, upd_ne (ne_of_none hb hr0)]; exact k8 _ _ hb hn
          have r9 : H9 r = some (.dK (enc (rowsTab s i ++ [(c, part (j + 1))]))) := by rw [← hH9, upd_same]
          have p9 : H9 po = some (.dK (enc (onwT s i))) := by rw [← hH9, upd_ne npr.symm]; exact p8
          have b9 : H9 bf = some (.dK (enc (pre (layT s k) fB j))) := by rw [← hH9, upd_ne nbr.symm]; exact b8
          have d9 : H9 d = some (.frz od (.dK (enc (layT s k)))) := by rw [← hH9, upd_ne ndr]; exact d8
          have a9 := k9 _ _ ha nad
          have t9 := k9 _ _ ht.obj ntd
          have e9 := k9 _ _ ht.he ned
          -- before[tally]
          refine ⟨_, rfl, _, rfl, po, rfl, .inl ⟨_, .inl p9⟩, _, rfl, _, rfl, a, C, dxw, _, _, rfl, a9, T.cl, T.nT, ft, t, CT, dx, _, _, rfl, t9, TT.cl, TT.nE, rfl, _, rfl, e, _, _, _, rfl, rfl, SqL.of e9, at_of (j := c) rfl (nvs_of (takes_at hc60)), _, _, rfl, rfl, ?_⟩
          dsimp only
          rw [eemp]
          refine ⟨_, DGet.k (k := Sum.inl ((pr.1 - tk s k false : Nat) : Int)) p9, _, _, rfl, valV_val _ _, _, rfl, _, rfl, bf, _, rfl, DPut.k (k := Sum.inl (pr.1 : Int)) b9 (by rw [enc_len]; exact Nat.lt_of_le_of_lt (Nat.le_trans (pre_len _ _ _) (layT_len (by omega))) (by decide)), ?_⟩
          have eB : ((fM pr : Nat) : Int) + ((val (onwT s i) (pr.1 - tk s k false) : Nat) : Int) = ((fB pr : Nat) : Int) := by
            show _ = ((fM pr + val (onwT s i) (pr.1 - tk s k false) : Nat) : Int)
            push_cast; rfl
          dsimp only
          rw [eB, putK_enc, pre_step (layT_nodup s k) hpr]
          refine ⟨_, _, _, rfl, fun b o hb hn => ?_, ?_, ?_, ?_, upd_same⟩
          · rw [upd_ne (ne_of_none hb hbf0)]; exact k9 _ _ hb hn
          · rw [upd_ne ndb]; exact d9
          · rw [upd_ne nbr]; exact r9
          · rw [upd_ne nbp]; exact p9
        · rintro σ H7 ⟨v3, v7, v8, rfl, k7, d7, r7, p7, b7⟩
          refine ⟨d7, _, rfl, ?_⟩
          have ep : part (enc (layT s k)).length = rowAt s k := by
            show sumL ((layT s k).take _) _ = _
            rw [enc_len, List.take_length]
            unfold rowAt rowsC
            rw [show nB s - (k + 1) = i by omega]; rfl
          have eo : pre (layT s k) fB (enc (layT s k)).length = onwT s (i + 1) := by
            unfold pre
            rw [enc_len, List.take_length]
            show _ = onw (tk s) (gd s) (nB s + 1) (begS s) (nB s) (i + 1)
            rw [onw, show nB s - (i + 1) = k by omega]; rfl
          rw [ep] at r7
          rw [eo] at b7
          refine ⟨_, _, _, _, _, _, bf, rfl, fun b' o hb' => ?_, hbf0, nbr, ?_, ?_⟩
          · by_cases hbd : b' = d
            · subst hbd; rw [upd_same, ← dk0, hb']
            · rw [upd_ne hbd]; exact k7 _ _ hb' hbd
          · rw [upd_ne ndr.symm, rowsTab_succ, ← hk, hcg]; exact r7
          · rw [upd_ne ndb.symm]; exact b7
      · rintro σ H5 ⟨v3, v4, v5, v6, v7, v8, po, rfl, s5, hpo0, npr, r5, p5⟩
        exact ⟨_, rfl, kk H5 r s5 hr0 r5⟩
end
end SM
end
section
set_option Elab.async false
set_option linter.all false
set_option maxRecDepth 100000
set_option maxHeartbeats 4000000
namespace SM
open PySem PySem.Spec PyProof.Rows L2
open Kg33 (has with_ near at_)

/-! ### the object -/
structure WRef where
  dxw : Addr
  l : Addr
  t : Addr
  dx : Addr
  m : Addr
  e : Addr
  g : Addr
  b : Addr
  ap : Addr
  y : Addr
  ch : Addr
  ds : List Addr
def As (s : Kg33.Seen) : List Nat := sel (pA s) 60
def wf10 (q : WRef) (s : Kg33.Seen) (m : Nat) : List (Str × V) := [("seen", .ref q.l), ("tally", .ref q.t), ("beside", .ref q.b), ("apart", .ref q.ap), ("hidden", .int (hid s m)), ("width", .int ((nB s + 1 : Nat) : Int)), ("layers", .ref q.y), ("row", .int ((rowT s : Nat) : Int)), ("choices", .ref q.ch), ("total", .int ((totalT s m : Nat) : Int))]
structure WaysIs (CW CT : Addr) (H : Hp) (a : Addr) (q : WRef) (s : Kg33.Seen) (m : Nat) : Prop where
  obj : H a = some (.ins CW q.dxw (wf10 q s m))
  seen : H q.l = some (.lst (nvs s))
  tal : TallyIs CT H q.t q.dx q.m q.e q.g s 60
  bes : H q.b = some (.lst (nvs (Bs s)))
  apt : H q.ap = some (.lst (nvs (As s)))
  lays : LayersAt H q.y q.ds s (nB s + 1)
  cho : H q.ch = some (.lst (nvs (choices (nA s))))
theorem LayersAt.same {H H' : Hp} {y : Addr} {ds : List Addr} {s : Kg33.Seen} {n : Nat} (L : LayersAt H y ds s n) (h : Same H H') : LayersAt H' y ds s n := ⟨h _ _ L.1, L.2.1, fun k d hk => h _ _ (L.2.2 k d hk)⟩
theorem WaysIs.same {CW CT : Addr} {H H' : Hp} {a : Addr} {q : WRef} {s : Kg33.Seen} {m : Nat} (W : WaysIs CW CT H a q s m) (h : Same H H') : WaysIs CW CT H' a q s m :=
  ⟨h _ _ W.obj, h _ _ W.seen, W.tal.same h, h _ _ W.bes, h _ _ W.apt, W.lays.same h, h _ _ W.cho⟩

def alikeT (s : Kg33.Seen) (m : Nat) : Nat := filledUp (nB s + 1) (nB s) (rowT s) (choices (nA s - 1)) (hid s m - 1)
def mA (s : Kg33.Seen) (m c : Nat) : Nat := if at_ s c = 10 then totalT s m else 0
def mB (s : Kg33.Seen) (m i c : Nat) : Nat := if c ∈ (As s).take i then alikeT s m else mA s m c
def mB' (s : Kg33.Seen) (m c : Nat) : Nat := if c ∈ As s then alikeT s m else mA s m c
def mC (s : Kg33.Seen) (m i c : Nat) : Nat := if c ∈ (keys (rowsTab s (nB s))).take i then filledUp (nB s + 1) (nB s) (rowAt s (rk (pB s) c)) (choices (nA s)) (hid s m) else mB' s m c
theorem mem_As {s : Kg33.Seen} {c : Nat} : c ∈ As s ↔ c < 60 ∧ pA s c = true := mem_sel _
theorem mem_rowsTab {s : Kg33.Seen} {c : Nat} : c ∈ keys (rowsTab s (nB s)) ↔ c < 60 ∧ pB s c = true := by
  unfold keys rowsTab
  rw [List.map_map, List.mem_map]
  have hn : nB s = (Bs s).length := rfl
  constructor
  · rintro ⟨j, hj, e⟩
    have hj := List.mem_range.1 hj
    obtain ⟨d, _, e1, _, h1, h2⟩ := Bs_get (s := s) (k := nB s - 1 - j) (by omega)
    have e : (Bs s).getD (nB s - 1 - j) 0 = c := e
    rw [e1] at e
    subst e
    exact ⟨h1, h2⟩
  · rintro ⟨h1, h2⟩
    obtain ⟨e1, e2⟩ := Bs_rk h1 h2
    refine ⟨nB s - 1 - rk (pB s) c, List.mem_range.2 (by omega), ?_⟩
    show (Bs s).getD (nB s - 1 - (nB s - 1 - rk (pB s) c)) 0 = c
    rw [show nB s - 1 - (nB s - 1 - rk (pB s) c) = rk (pB s) c by omega, List.getD_eq_getElem?_getD, e1]; rfl
theorem mC_all {s : Kg33.Seen} {m c : Nat} (hc : c < 60) : mC s m (rowsTab s (nB s)).length c = manyT s m c := by
  unfold mC manyT
  rw [List.take_of_length_le (by unfold keys; rw [List.length_map]; exact Nat.le_refl _)]
  by_cases h1 : pB s c = true
  · rw [if_pos (mem_rowsTab.2 ⟨hc, h1⟩), if_pos h1]
  · rw [if_neg (fun z => h1 (mem_rowsTab.1 z).2), if_neg h1]
    unfold mB'
    by_cases h2 : pA s c = true
    · rw [if_pos (mem_As.2 ⟨hc, h2⟩), if_pos h2]; rfl
    · rw [if_neg (fun z => h2 (mem_As.1 z).2), if_neg h2]; rfl
theorem choices_small {n : Nat} : ∀ x ∈ choices n, x ≤ 2 ^ n := by
  intro x hx
  obtain ⟨j, hj, e⟩ := List.getElem_of_mem hx
  have : (choices n).getD j 0 = x := by rw [List.getD_eq_getElem?_getD, List.getElem?_eq_getElem hj, e]; rfl
  rw [choices_get] at this
  rw [← this, ← fills_len]
  exact List.countP_le_length
theorem nA_le (s : Kg33.Seen) : nA s ≤ 60 := by
  unfold nA sel
  refine Nat.le_trans (List.length_filter_le _ _) ?_
  simp

def spWith (CW CT : Addr) : Sp := fun vs H Q _ => ∃ (a : Addr) (q : WRef) (s : Kg33.Seen) (m : Nat), vs = [.ref a] ∧ WaysIs CW CT H a q s m ∧ s.length = 60 ∧
  ∀ (H' : Hp) (p : Addr), Same H H' → H p = none → H' p = some (.lst (nvs ((List.range 60).map (manyT s m)))) → Q (.ref p) H'

section
variable {P : Program} {w : World} {K : PySem.W.Frag} {mg : Str → Option Value} {base : Heap} {C CT : Addr}

theorem scWith : FnScope ["self", "c", "many", "alike", "row"] ["self"] (defScope sWith) := ⟨rfl, rfl, rfl, by decide +kernel, rfl, by decide +kernel, by decide +kernel⟩
theorem ok_with {f ff fr fc : Addr} {fd fdf fdr fdc : FuncData} (F : Fun K "with_mine" "Ways.with_mine" sWith f fd) (T : TxtW K mg C) (TT : TxtT K mg CT) (TS : TxtS mg)
    (GF : FnOk P w K mg base CX0 1 ff fdf ["self", "row", "choices", "mines"] (spFilled K C)) (bF : Binds K fdf ["self", "row", "choices", "mines"] []) (mF : Meth K C "filled_up" ff)
    (GR : FnOk P w K mg base CX0 1 fr fdr ["self"] (spRows C CT)) (bR : Binds K fdr ["self"] []) (mR : Meth K C "rows_with_mine" fr)
    (FC : Fun K "choices_among" "choices_among" sChoices fc fdc) (bC : Binds K fdc ["squares"] []) (mc : mg "choices_among" = some (.ref fc)) : FnOk P w K mg base CX0 2 f fd ["self"] (spWith C CT) := by
  have GC : FnOk P w K mg base CX0 1 fc fdc ["squares"] spChoices := ok_choices FC TS T.zip
  refine F.ok scWith (fun vs H Q E h => ?_) (fun cdv A outer st H vs Q E hr h => ?_)
  · obtain ⟨a, q, s, m, rfl, _⟩ := h
    rfl
  · obtain ⟨a, q, s, m, rfl, W, hlen, kk⟩ := h
    refine ⟨_, pss_cons (ps_setLc (i := 2) (own := [("c", 1)]) (tt := tYes) (te := tIf (tTest (tOp rEq (tOp (rIxL K) (tFld K (tVar 0) "seen") (tVar 1)) (tC (.int 10)))) (tFld K (tVar 0) "total") (tC (.int 0))) rfl scWith.nd rfl rfl (sw_true rfl rfl rfl (by decide +kernel)) (pi_range1 rfl TS.range (pa_cons (pgl TS.sqs) pa_nil)) (blkOk_by (by rfl))
        (fun s H C cl fp => pg_name (i := 1) scWith.nd rfl (Or.inl rfl) (.inr rfl))
        (fun s H C cl fp => pts_nil)
        (fun s H C cl fp => pe_ifExp (pt_cmpR op_eq (pe_ix ix_list (pe_fld (pv 0) rfl) (pv 1) (fun _ _ => rfl)) (pgl TT.mine) (nomark _)) (pe_fld (pv 0) rfl) pe_int))
      (pss_mid (ps_if (pt_cmpR op_gt (pe_callB call_len_seq rfl TS.len PySem.boot_len (pa_cons (pe_fld (pv 0) rfl) pa_nil)) pe_int (nomark _))
        (pss_cons (ps_set (i := 3) scWith.nd rfl (Or.inl rfl) (pe_meth (pv 0) T.cl mF GF hr bF .nil pass0 (pa_cons (pe_fld (pv 0) rfl) (pa_cons (pe_call GC hr rfl mc FC.kp bC .nil pass0 (pa_cons (pe_op op_sub (pe_callB call_len_seq rfl TS.len PySem.boot_len (pa_cons (pe_fld (pv 0) rfl) pa_nil)) pe_int) pa_nil)) (pa_cons (pe_op op_sub (pe_fld (pv 0) rfl) pe_int) pa_nil)))))
        (pss_one (ps_for PassesOwn.never rfl (pi_list (pe_fld (pv 0) rfl)) (pg_name (i := 1) scWith.nd rfl (Or.inl rfl)) (pss_one (ps_asg (pv 3) (pg_sub (pv 2) (pv 1) set_list))))))
        pss_nil)
      (pss_cons (ps_for PassesOwn.never rfl (pi_items (pe_lockR (pe_meth0 (pv 0) T.cl mR GR hr bR .nil pass0))) (pg_tup rfl (pgs_cons (pg_name (i := 1) scWith.nd rfl (Or.inl rfl)) (pgs_cons (pg_name (i := 4) scWith.nd rfl (Or.inl rfl)) pgs_nil)))
        (pss_one (ps_asg (pe_meth (pv 0) T.cl mF GF hr bF .nil pass0 (pa_cons (pv 4) (pa_cons (pe_fld (pv 0) rfl) (pa_cons (pe_fld (pv 0) rfl) pa_nil)))) (pg_sub (pv 2) (pv 1) set_list))))
      (pss_one (ps_ret (pv 2))))), ?_⟩
    have hB60 : nB s ≤ 60 := Bs_len
    have hA60 := nA_le s
    have hnB : (Bs s).length = nB s := rfl
    have hnA : (As s).length = nA s := rfl
    refine ⟨60, rfl, by decide, by decide, fun D hD => lc_range (lo := 0) (n := 60) (fun i H' => Same H H' ∧ H' D = some (.lst (nvs (((List.range 60).map (mA s m)).take i))))
      ⟨Same.new hD, upd_same⟩ ?_ ?_⟩
    · rintro i H1 hi ⟨s1, h1⟩
      have W1 := W.same s1
      have hget : ((List.range 60).map (mA s m))[i]? = some (mA s m i) := by rw [List.getElem?_map, List.getElem?_range hi]; rfl
      have hln : (nvs (((List.range 60).map (mA s m)).take i)).length < sizeLine := by
        rw [nvs_len]
        exact Nat.lt_of_le_of_lt (takeLe _ _) (by rw [List.length_map, List.length_range]; decide)
      have fin : ∀ z : Nat, z = mA s m i → ∃ acc, H1 D = some (.lst acc) ∧ acc.length < sizeLine ∧ Same H (upd H1 D (.lst (acc ++ [V.int (z : Int)]))) ∧ (upd H1 D (.lst (acc ++ [V.int (z : Int)]))) D = some (.lst (nvs (((List.range 60).map (mA s m)).take (i + 1)))) := by
        intro z hz
        refine ⟨_, h1, hln, Same.at s1 hD, ?_⟩
        rw [upd_same, take_snoc hget, nvs_app, hz]; rfl
      have e0 : (0 : Int) + (i : Nat) = (i : Int) := by omega
      rw [e0]
      refine ⟨rfl, ?_⟩
      refine ⟨_, rfl, a, C, q.dxw, _, _, rfl, W1.obj, T.cl, T.nS, rfl, _, rfl, q.l, _, _, _, rfl, rfl, SqL.of W1.seen, at_of (j := i) rfl (nvs_at hlen hi), rfl, _, rfl, ite2 (fun h2 => ?_) fun h2 => ?_⟩
      · have h3 : at_ s i = 10 := by have := veq_t h2; omega
        refine ⟨_, rfl, a, C, q.dxw, _, _, rfl, W1.obj, T.cl, T.nO, rfl, ?_⟩
        exact fin _ (by unfold mA; rw [if_pos h3])
      · have h3 : ¬ at_ s i = 10 := by have := veq_f h2; omega
        exact fin 0 (by unfold mA; rw [if_neg h3])
    · rintro H1 ⟨s1, h1⟩
      rw [List.take_of_length_le (by rw [List.length_map, List.length_range]; exact Nat.le_refl _)] at h1
      have W1 := W.same s1
      have nD : ∀ {b : Addr} {o : HO}, H b = some o → b ≠ D := fun hb => ne_of_none hb hD
      refine ⟨fun σ' H' => ∃ v1 v3 : Option V, σ' = [some (.ref a), v1, some (.ref D), v3, none] ∧ Same H H' ∧ H' D = some (.lst (nvs ((List.range 60).map (mB' s m)))), ?_, ?_⟩
      · refine ⟨_, rfl, a, C, q.dxw, _, _, rfl, W1.obj, T.cl, T.nA, rfl, q.ap, _, rfl, .inl (SqL.of W1.apt), _, _, rfl, rfl, _, rfl, ite2 (fun h2 => ?_) fun h2 => ?_⟩
        · rw [nvs_len, hnA] at h2
          have h2 : 0 < nA s := by simpa using h2
          refine ⟨_, rfl, a, q.dxw, _, rfl, W1.obj, rfl, _, rfl, a, C, q.dxw, _, _, rfl, W1.obj, T.cl, T.nR, rfl, _, rfl, a, C, q.dxw, _, _, rfl, W1.obj, T.cl, T.nA, rfl, q.ap, _, rfl, .inl (SqL.of W1.apt), _, _, rfl, rfl, nA s - 1, ?_, by omega, fun H2 p2 s2 hp2 h3 => ?_⟩
          · rw [nvs_len, hnA]
            show [V.int ((nA s : Int) - 1)] = [V.int ((nA s - 1 : Nat) : Int)]
            rw [show ((nA s : Int) - 1) = ((nA s - 1 : Nat) : Int) by omega]
          have W2 := W1.same s2
          refine ⟨_, rfl, a, C, q.dxw, _, _, rfl, W2.obj, T.cl, T.nH, rfl, _, _, rfl, rfl, a, q.dxw, q.b, p2, _, Bs s, choices (nA s - 1), rowT s, hid s m - 1, rfl, W2.obj, rfl, rfl, W2.bes, hB60, h3, ?_⟩
          have D2 := s2 _ _ h1
          refine ⟨_, rfl, a, C, q.dxw, _, _, rfl, W2.obj, T.cl, T.nA, rfl, q.ap, rfl, ⟨_, SqL.of W2.apt⟩, for_list (K := K) (a := q.ap) (xs := nvs (As s)) (fun i σ H' => ∃ v : Option V, σ = [some (.ref a), v, some (.ref D), some (.int ((alikeT s m : Nat) : Int)), none] ∧ Same H H' ∧ H' D = some (.lst (nvs ((List.range 60).map (mB s m i)))))
            ⟨none, rfl, s1.trans s2, ?_⟩ (fun i σ H' _ ⟨_, _, z, _⟩ => SqL.of (z _ _ W.apt)) ?_ ?_⟩
          · rw [D2]
            have e1 : mB s m 0 = mA s m := by funext c; unfold mB; simp
            rw [e1]
          · rintro i x σ H3 hx ⟨v, rfl, s3, D3⟩
            obtain ⟨c, hc, rfl⟩ := nvs_get hx
            have hc60 := (mem_As.1 (List.mem_of_getElem? hc)).1
            refine ⟨_, rfl, _, rfl, _, rfl, D, _, _, c, rfl, rfl, D3, (by rw [nvs_len, List.length_map, List.length_range]; exact ixN_nat hc60), ?_⟩
            refine ⟨_, rfl, Same.at s3 hD, ?_⟩
            rw [upd_same, nvs_set, map_range_set]
            congr 3
            apply List.map_congr_left
            intro j _
            unfold mB
            rw [take_snoc hc]
            simp only [List.mem_append, List.mem_singleton]
            by_cases ej : j = c
            · subst ej; simp
            · simp [ej]
          · rintro σ H3 ⟨v, rfl, s3, D3⟩
            refine ⟨_, _, rfl, s3, ?_⟩
            rw [D3]
            congr 3
            apply List.map_congr_left
            intro c _
            unfold mB mB'
            rw [nvs_len, List.take_length]
        · rw [nvs_len, hnA] at h2
          have h2 : ¬ 0 < nA s := by simpa using h2
          have h3 : As s = [] := List.eq_nil_of_length_eq_zero (by omega)
          refine ⟨_, _, rfl, s1, ?_⟩
          rw [h1]
          congr 3
          apply List.map_congr_left
          intro c _
          unfold mB'
          rw [h3]; simp
      · rintro σ' H2 ⟨v1, v3, rfl, s2, D2⟩
        have W2 := W.same s2
        refine ⟨_, rfl, a, q.dxw, _, rfl, W2.obj, rfl, a, q.dxw, q.t, q.dx, q.m, q.e, q.g, q.b, q.y, q.ds, _, s, rfl, W2.obj, rfl, rfl, rfl, rfl, W2.tal, W2.bes, W2.lays, fun H3 p3 s3 hp3 h3 => ?_⟩
        have s03 := s2.trans s3
        have hp0 : H p3 = none := s2.free hp3
        have nDp : D ≠ p3 := ne_of_none D2 hp3
        refine ⟨p3, _, h3, trivial, fun od => ⟨p3, od, _, rfl, upd_same, ?_⟩⟩
        refine for_items (fun i σ H' => ∃ v1 v4 : Option V, σ = [some (.ref a), v1, some (.ref D), v3, v4] ∧ Same H H' ∧ H' p3 = some (.frz od (.dK (enc (rowsTab s (nB s))))) ∧ H' D = some (.lst (nvs ((List.range 60).map (mC s m i)))))
          ⟨_, _, rfl, Same.at s03 hp0, upd_same, ?_⟩ (fun i σ H' _ ⟨_, _, _, _, z, _⟩ => z) ?_ ?_
        · rw [upd_ne nDp, s3 _ _ D2]
          have e1 : mC s m 0 = mB' s m := by funext c; unfold mC; simp
          rw [e1]
        · rintro i kq vq T' σ H4 hkv ⟨v1, v4, rfl, s4, p4, D4⟩ hT
          obtain ⟨pr, hpr, rfl, rfl⟩ := enc_get hkv
          have hi : i < nB s := by
            have := (List.getElem?_eq_some_iff.1 hpr).1
            rw [rowsTab_len] at this; exact this
          have epr : pr = ((Bs s).getD (nB s - 1 - i) 0, rowAt s (nB s - 1 - i)) := by
            unfold rowsTab at hpr
            rw [List.getElem?_map, List.getElem?_range hi] at hpr
            exact (Option.some.inj hpr).symm
          obtain ⟨c, hcg, hcr, hc60, hcp⟩ : ∃ c, (Bs s).getD (nB s - 1 - i) 0 = c ∧ rk (pB s) c = nB s - 1 - i ∧ c < 60 ∧ pB s c = true := by
            obtain ⟨c, _, x1, x2, x3, x4⟩ := Bs_get (s := s) (k := nB s - 1 - i) (by omega)
            exact ⟨c, x1, x2, x3, x4⟩
          have e1 : pr.1 = c := by rw [epr]; exact hcg
          have e2 : pr.2 = rowAt s (rk (pB s) c) := by rw [epr, hcr]
          rw [e1, e2]
          refine ⟨T', _, rfl, SqT.of upd_same, rfl, _, _, rfl, _, _, rfl, rfl, ?_⟩
          generalize hH5 : upd H4 T' (.tup [kV (Sum.inl (c : Int)), V.int ((rowAt s (rk (pB s) c) : Nat) : Int)]) = H5
          have s5 : Same H4 H5 := by rw [← hH5]; exact Same.new hT
          have s05 := s4.trans s5
          have W5 := W.same s05
          have D5 := s5 _ _ D4
          have p5 := s5 _ _ p4
          refine ⟨_, rfl, a, q.dxw, _, rfl, W5.obj, rfl, _, rfl, _, rfl, a, C, q.dxw, _, _, rfl, W5.obj, T.cl, T.nC, rfl, _, rfl, a, C, q.dxw, _, _, rfl, W5.obj, T.cl, T.nH, rfl, a, q.dxw, q.b, q.ch, _, Bs s, choices (nA s), rowAt s (rk (pB s) c), hid s m, rfl, W5.obj, rfl, rfl, W5.bes, hB60, W5.cho, ?_⟩
          refine ⟨_, rfl, _, rfl, D, _, _, c, rfl, rfl, D5, (by rw [nvs_len, List.length_map, List.length_range]; exact ixN_nat hc60), ?_⟩
          refine ⟨_, _, rfl, Same.at s05 hD, ?_, ?_⟩
          · rw [upd_ne nDp.symm]; exact p5
          · rw [upd_same, nvs_set, map_range_set]
            congr 3
            apply List.map_congr_left
            intro j _
            unfold mC
            have hk : (keys (rowsTab s (nB s)))[i]? = some c := by
              unfold keys; rw [List.getElem?_map, hpr]
              show some pr.1 = some c
              rw [e1]
            rw [take_snoc hk]
            simp only [List.mem_append, List.mem_singleton]
            by_cases ej : j = c
            · subst ej; simp; rfl
            · simp [ej]
        · rintro σ H4 ⟨v1, v4, rfl, s4, p4, D4⟩
          refine ⟨_, rfl, kk H4 D s4 hD ?_⟩
          rw [D4, enc_len]
          congr 3
          apply List.map_congr_left
          intro c hc
          exact mC_all (List.mem_range.1 hc)
end
end SM
end
section
set_option Elab.async false
set_option linter.all false
set_option maxRecDepth 100000
set_option maxHeartbeats 4000000
namespace SM
open PySem PySem.Spec PyProof.Rows L2
open Kg33 (has with_ near at_)

def spWInit (CW CT : Addr) : Sp := fun vs H Q _ => ∃ (a dxw l : Addr) (s : Kg33.Seen) (m : Nat), vs = [.ref a, .int (m : Int), .ref l] ∧ H a = some (.ins CW dxw []) ∧ H l = some (.lst (nvs s)) ∧ s.length = 60 ∧
  ∀ (H' : Hp) (q : WRef), Keep a H H' → WaysIs CW CT H' a q s m → Q .non H'
theorem filt_B (s : Kg33.Seen) : (sel (clo s) 60).filter (fun c => decide (takeOf s 528 c ≠ 0)) = Bs s := by
  unfold Bs sel
  rw [List.filter_filter]
  apply List.filter_congr
  intro c _
  unfold pB
  rw [Bool.and_comm]
theorem filt_A (s : Kg33.Seen) : (sel (clo s) 60).filter (fun c => decide (takeOf s 528 c = 0)) = As s := by
  unfold As sel
  rw [List.filter_filter]
  apply List.filter_congr
  intro c _
  unfold pA
  rw [Bool.and_comm]
theorem sel_len_le (p : Nat → Bool) (n : Nat) : (sel p n).length ≤ n := by
  unfold sel
  refine Nat.le_trans (List.length_filter_le _ _) ?_
  simp
theorem Keep.get {a x : Addr} {H H' : Hp} {o : HO} (k : Keep a H H') (h : H x = some o) (n : x ≠ a) : H' x = some o := k _ _ h n
theorem Keep.none {a x : Addr} {H H' : Hp} (k : Keep a H H') (n : x ≠ a) (h : H' x = none) : H x = none := by
  cases z : H x with
  | none => rfl
  | some o => rw [k _ _ z n] at h; cases h

section
variable {P : Program} {w : World} {K : PySem.W.Frag} {mg : Str → Option Value} {base : Heap} {C CT : Addr}

theorem scWInit : FnScope ["self", "m", "seen", "closed", "c"] ["self", "m", "seen"] (defScope sWInit) := ⟨rfl, rfl, rfl, by decide +kernel, rfl, by decide +kernel, by decide +kernel⟩
theorem ok_winit {f ft fl ff fc : Addr} {fd fdt fdl fdf fdc : FuncData} (F : Fun K "__init__" "Ways.__init__" sWInit f fd) (T : TxtW K mg C) (TT : TxtT K mg CT) (TS : TxtS mg)
    (MT : Mk K CT ft) (GT : FnOk P w K mg base CX0 3 ft fdt ["self", "seen"] (spTInit K CT)) (bT : Binds K fdt ["self", "seen"] []) (mT : mg "Tally" = some (.ref CT))
    (GL : FnOk P w K mg base CX0 2 fl fdl ["self"] (spLayers C CT)) (bL : Binds K fdl ["self"] []) (mL : Meth K C "all_layers" fl)
    (GF : FnOk P w K mg base CX0 1 ff fdf ["self", "row", "choices", "mines"] (spFilled K C)) (bF : Binds K fdf ["self", "row", "choices", "mines"] []) (mF : Meth K C "filled_up" ff)
    (FC : Fun K "choices_among" "choices_among" sChoices fc fdc) (bC : Binds K fdc ["squares"] []) (mc : mg "choices_among" = some (.ref fc)) : FnOk P w K mg base CX0 5 f fd ["self", "m", "seen"] (spWInit C CT) := by
  have GC : FnOk P w K mg base CX0 1 fc fdc ["squares"] spChoices := ok_choices FC TS T.zip
  refine F.ok scWInit (fun vs H Q E h => ?_) (fun cdv A outer st H vs Q E hr h => ?_)
  · obtain ⟨a, dxw, l, s, m, rfl, _⟩ := h
    rfl
  · obtain ⟨a, dxw, l, s, m, rfl, ha, hl, hlen, kk⟩ := h
    have hr1 : Room 1 _ := hr.mono (by decide)
    have hr2 : Room 2 _ := hr.mono (by decide)
    refine ⟨_, pss_cons (ps_fld (pv 0) (pv 2) rfl)
      (pss_cons (ps_fld (pv 0) (pe_make MT GT hr rfl mT bT .nil pass0 (pa_cons (pv 2) pa_nil)) rfl)
      (pss_cons (ps_setLc (i := 3) (own := [("c", 4)]) (tt := tTest (tOp rEq (tOp (rIxL K) (tVar 2) (tVar 4)) (tC (.int 9)))) rfl scWInit.nd rfl rfl (sw_true rfl rfl rfl (by decide +kernel)) (pi_range1 rfl TS.range (pa_cons (pgl TS.sqs) pa_nil)) (blkOk_by (by rfl))
          (fun s H C cl fp => pg_name (i := 4) scWInit.nd rfl (Or.inl rfl) (.inr rfl))
          (fun s H C cl fp => pts_one (pt_cmpR op_eq (pe_ix ix_list (pv 2) (pv 4) (fun _ _ => rfl)) (pgl TT.closed) (nomark _)))
          (fun s H C cl fp => pv 4))
      (pss_cons (ps_fld (pv 0) (pe_lc (own := [("c", 4)]) (tt := tTest (tOp rNe (tOp (rIxL K) (tFld K (tFld K (tVar 0) "tally") "guards") (tVar 4)) (tC (.int 0)))) rfl scWInit.nd (pi_list (pv 3)) (blkOk_by (by rfl))
          (fun s H C cl fp => pg_name (i := 4) scWInit.nd rfl (Or.inl rfl) (.inr rfl))
          (fun s H C cl fp => pts_one (pt_cmpR op_ne (pe_ix ix_list (pe_fld (pe_fld (pv 0) rfl) rfl) (pv 4) (fun _ _ => rfl)) pe_int (nomark _)))
          (fun s H C cl fp => pv 4)) rfl)
      (pss_cons (ps_fld (pv 0) (pe_lc (own := [("c", 4)]) (tt := tTest (tOp rEq (tOp (rIxL K) (tFld K (tFld K (tVar 0) "tally") "guards") (tVar 4)) (tC (.int 0)))) rfl scWInit.nd (pi_list (pv 3)) (blkOk_by (by rfl))
          (fun s H C cl fp => pg_name (i := 4) scWInit.nd rfl (Or.inl rfl) (.inr rfl))
          (fun s H C cl fp => pts_one (pt_cmpR op_eq (pe_ix ix_list (pe_fld (pe_fld (pv 0) rfl) rfl) (pv 4) (fun _ _ => rfl)) pe_int (nomark _)))
          (fun s H C cl fp => pv 4)) rfl)
      (pss_cons (ps_fld (pv 0) (pe_op op_sub (pv 1) (pe_callB call_len_seq rfl TS.len PySem.boot_len (pa_cons (pe_lc (own := [("c", 4)]) (tt := tTest (tOp rEq (tOp (rIxL K) (tVar 2) (tVar 4)) (tC (.int 10)))) rfl scWInit.nd (pi_range1 rfl TS.range (pa_cons (pgl TS.sqs) pa_nil)) (blkOk_by (by rfl))
          (fun s H C cl fp => pg_name (i := 4) scWInit.nd rfl (Or.inl rfl) (.inr rfl))
          (fun s H C cl fp => pts_one (pt_cmpR op_eq (pe_ix ix_list (pv 2) (pv 4) (fun _ _ => rfl)) (pgl TT.mine) (nomark _)))
          (fun s H C cl fp => pv 4)) pa_nil))) rfl)
      (pss_cons (ps_fld (pv 0) (pe_op op_add (pe_callB call_len_seq rfl TS.len PySem.boot_len (pa_cons (pe_fld (pv 0) rfl) pa_nil)) pe_int) rfl)
      (pss_cons (ps_fld (pv 0) (pe_meth0 (pv 0) T.cl mL GL hr2 bL .nil pass0) rfl)
      (pss_cons (ps_fld (pv 0) (pe_sumvals rfl (pe_ix ix_list (pe_fld (pv 0) rfl) (pe_un un_neg pe_int) (fun _ _ => rfl)) rfl T.sum) rfl)
      (pss_cons (ps_fld (pv 0) (pe_call GC hr1 rfl mc FC.kp bC .nil pass0 (pa_cons (pe_callB call_len_seq rfl TS.len PySem.boot_len (pa_cons (pe_fld (pv 0) rfl) pa_nil)) pa_nil)) rfl)
      (pss_one (ps_fld (pv 0) (pe_meth (pv 0) T.cl mF GF hr1 bF .nil pass0 (pa_cons (pe_fld (pv 0) rfl) (pa_cons (pe_fld (pv 0) rfl) (pa_cons (pe_fld (pv 0) rfl) pa_nil)))) rfl))))))))))), ?_⟩
    have hB60 : nB s ≤ 60 := Bs_len
    have hA60 := nA_le s
    have hnB : (Bs s).length = nB s := rfl
    have hnA : (As s).length = nA s := rfl
    have hla : l ≠ a := ne_of hl ha (by intro z; cases z)
    -- seen
    refine ⟨_, rfl, _, rfl, a, C, dxw, _, rfl, ha, T.cl, T.nS, (by show 0 < 1000; decide), ?_⟩
    have eH1 : upd H a (.ins C dxw (putF "seen" (V.ref l) [])) = upd H a (.ins C dxw [("seen", .ref l)]) := rfl
    rw [eH1]
    have k1 : Keep a H (upd H a (.ins C dxw [("seen", .ref l)])) := (Keep.refl H).upd
    have a1 : (upd H a (.ins C dxw [("seen", .ref l)])) a = some (.ins C dxw [("seen", .ref l)]) := upd_same
    generalize upd H a (.ins C dxw [("seen", .ref l)]) = H1 at k1 a1 ⊢
    have l1 := k1.get hl hla
    -- tally
    refine ⟨_, rfl, fun t dx nx ndx nex => ⟨t, dx, l, s, rfl, upd_same, ?_, hlen, fun H2 mm ee gg k2 t2 => ⟨rfl, ?_⟩⟩⟩
    · rw [upd_ne (ne_of_none l1 nx), upd_ne (ne_of_none l1 ndx)]; exact l1
    have s2 : Same H1 H2 := Same.made nx ndx k2
    have a2 := s2 _ _ a1
    have nta : t ≠ a := (ne_of_none a1 nx).symm
    refine ⟨_, rfl, a, C, dxw, _, rfl, a2, T.cl, T.nT, (by show 1 < 1000; decide), ?_⟩
    have eH3 : upd H2 a (.ins C dxw (putF "tally" (V.ref t) [("seen", .ref l)])) = upd H2 a (.ins C dxw [("seen", .ref l), ("tally", .ref t)]) := rfl
    rw [eH3]
    have k3 : Keep a H (upd H2 a (.ins C dxw [("seen", .ref l), ("tally", .ref t)])) := (k1.trans (Keep.of s2)).upd
    have a3 : (upd H2 a (.ins C dxw [("seen", .ref l), ("tally", .ref t)])) a = some (.ins C dxw [("seen", .ref l), ("tally", .ref t)]) := upd_same
    have t3 : TallyIs CT (upd H2 a (.ins C dxw [("seen", .ref l), ("tally", .ref t)])) t dx mm ee gg s 60 :=
      ⟨by rw [upd_ne nta]; exact t2.obj, by rw [upd_ne (ne_of t2.hm a2 (by intro z; cases z))]; exact t2.hm, by rw [upd_ne (ne_of t2.he a2 (by intro z; cases z))]; exact t2.he, by rw [upd_ne (ne_of t2.hg a2 (by intro z; cases z))]; exact t2.hg, t2.me, t2.mg, t2.eg⟩
    generalize upd H2 a (.ins C dxw [("seen", .ref l), ("tally", .ref t)]) = H3 at k3 a3 t3 ⊢
    have l3 := k3.get hl hla
    -- closed
    refine ⟨60, rfl, by decide, by decide, fun Dc hDc => lc_range (lo := 0) (n := 60) (fun i H' => Same H3 H' ∧ H' Dc = some (.lst (nvs (sel (clo s) i))))
      ⟨Same.new hDc, upd_same⟩ ?_ ?_⟩
    · rintro i H4 hi ⟨s4, h4⟩
      have e0 : (0 : Int) + (i : Nat) = (i : Int) := by omega
      rw [e0]
      refine ⟨rfl, _, rfl, _, rfl, l, _, _, _, rfl, rfl, SqL.of (s4 _ _ l3), at_of (j := i) rfl (nvs_at hlen hi), rfl, _, rfl, ite2 (fun h5 => ?_) fun h5 => ?_⟩
      · have h6 : clo s i = true := decide_eq_true (by have := veq_t h5; omega)
        refine ⟨_, rfl, _, h4, ?_, Same.at s4 hDc, ?_⟩
        · rw [nvs_len]; exact Nat.lt_of_le_of_lt (Nat.le_trans (sel_len_le _ _) (show i ≤ 1000 by omega)) (by decide)
        · rw [upd_same, sel_succ, if_pos h6, nvs_app]; rfl
      · have h6 : ¬ clo s i = true := by
          intro z; have := veq_f h5; have := of_decide_eq_true z; omega
        exact ⟨s4, by rw [sel_succ, if_neg h6]; exact h4⟩
    rintro H4 ⟨s4, c4⟩
    have a4 := s4 _ _ a3
    have t4 := t3.same s4
    have k4 := k3.trans (Keep.of s4)
    have hca : Dc ≠ a := (ne_of_none a3 hDc).symm
    have hcl60 : ∀ c ∈ sel (clo s) 60, c < 60 := fun c hc => ((mem_sel _).1 hc).1
    -- beside
    refine ⟨_, rfl, Dc, rfl, ⟨_, SqL.of c4⟩, fun Db hDb => lc_list (K := K) (a := Dc) (xs := nvs (sel (clo s) 60)) (fun i H' => Same H4 H' ∧ H' Db = some (.lst (nvs (((sel (clo s) 60).take i).filter fun c => decide (takeOf s 528 c ≠ 0)))))
      ⟨Same.new hDb, upd_same⟩ (fun i H' _ ⟨z, _⟩ => SqL.of (z _ _ c4)) ?_ ?_⟩
    · rintro i x H5 hx ⟨s5, h5⟩
      obtain ⟨c, hc, rfl⟩ := nvs_get hx
      have hc60 := hcl60 c (List.mem_of_getElem? hc)
      refine ⟨rfl, _, rfl, a, C, dxw, _, _, rfl, s5 _ _ a4, T.cl, T.nT, rfl, t, CT, dx, _, _, rfl, (t4.same s5).obj, TT.cl, TT.nG, rfl, _, rfl, gg, _, _, _, rfl, rfl, SqL.of (t4.same s5).hg, at_of (j := c) rfl (nvs_of (takes_at hc60)), rfl, _, rfl, ite2 (fun h6 => ?_) fun h6 => ?_⟩
      · have h7 : decide (takeOf s 528 c ≠ 0) = true := decide_eq_true (by have := vne_t h6; omega)
        refine ⟨_, rfl, _, h5, ?_, Same.at s5 hDb, ?_⟩
        · rw [nvs_len]; exact Nat.lt_of_le_of_lt (Nat.le_trans (List.length_filter_le _ _) (Nat.le_trans (takeLe _ _) (Nat.le_trans (sel_len_le _ _) (show 60 ≤ 1000 by decide)))) (by decide)
        · rw [upd_same, take_snoc hc, List.filter_append, nvs_app, List.filter_cons, if_pos h7]; rfl
      · have h7 : ¬ decide (takeOf s 528 c ≠ 0) = true := by
          intro z; have := vne_f h6; have := of_decide_eq_true z; omega
        refine ⟨s5, ?_⟩
        rw [h5, take_snoc hc, List.filter_append, List.filter_cons, if_neg h7]; simp
    rintro H5 ⟨s5, b5⟩
    rw [nvs_len, List.take_length, filt_B] at b5
    have a5 := s5 _ _ a4
    have hba : Db ≠ a := (ne_of_none a4 hDb).symm
    refine ⟨_, rfl, a, C, dxw, _, rfl, a5, T.cl, T.nB, (by show 2 < 1000; decide), ?_⟩
    have eH6 : upd H5 a (.ins C dxw (putF "beside" (V.ref Db) [("seen", .ref l), ("tally", .ref t)])) = upd H5 a (.ins C dxw [("seen", .ref l), ("tally", .ref t), ("beside", .ref Db)]) := rfl
    rw [eH6]
    have k56 : Keep a H5 (upd H5 a (.ins C dxw [("seen", .ref l), ("tally", .ref t), ("beside", .ref Db)])) := (Keep.refl H5).upd
    have a6 : (upd H5 a (.ins C dxw [("seen", .ref l), ("tally", .ref t), ("beside", .ref Db)])) a = some (.ins C dxw [("seen", .ref l), ("tally", .ref t), ("beside", .ref Db)]) := upd_same
    generalize upd H5 a (.ins C dxw [("seen", .ref l), ("tally", .ref t), ("beside", .ref Db)]) = H6 at k56 a6 ⊢
    have tk_ : ∀ {Hx Hy : Hp} {o : HO}, Hx a = some o → (∀ xs, o ≠ .lst xs) → TallyIs CT Hx t dx mm ee gg s 60 → Keep a Hx Hy → TallyIs CT Hy t dx mm ee gg s 60 := fun {Hx Hy o} ho hno tx kx =>
      ⟨kx _ _ tx.obj nta, kx _ _ tx.hm (fun z => by have h := tx.hm; rw [z, ho] at h; exact hno _ (Option.some.inj h)), kx _ _ tx.he (fun z => by have h := tx.he; rw [z, ho] at h; exact hno _ (Option.some.inj h)), kx _ _ tx.hg (fun z => by have h := tx.hg; rw [z, ho] at h; exact hno _ (Option.some.inj h)), tx.me, tx.mg, tx.eg⟩
    have t6 : TallyIs CT H6 t dx mm ee gg s 60 := tk_ a5 (by intro xs z; cases z) (t4.same s5) k56
    have k6 : Keep a H H6 := k4.trans ((Keep.of s5).trans k56)
    have c6 : H6 Dc = some (.lst (nvs (sel (clo s) 60))) := k56.get (s5 _ _ c4) hca
    have b6 : H6 Db = some (.lst (nvs (Bs s))) := k56.get b5 hba
    -- apart
    refine ⟨_, rfl, Dc, rfl, ⟨_, SqL.of c6⟩, fun Da hDa => lc_list (K := K) (a := Dc) (xs := nvs (sel (clo s) 60)) (fun i H' => Same H6 H' ∧ H' Da = some (.lst (nvs (((sel (clo s) 60).take i).filter fun c => decide (takeOf s 528 c = 0)))))
      ⟨Same.new hDa, upd_same⟩ (fun i H' _ ⟨z, _⟩ => SqL.of (z _ _ c6)) ?_ ?_⟩
    · rintro i x H7 hx ⟨s7, h7⟩
      obtain ⟨c, hc, rfl⟩ := nvs_get hx
      have hc60 := hcl60 c (List.mem_of_getElem? hc)
      refine ⟨rfl, _, rfl, a, C, dxw, _, _, rfl, s7 _ _ a6, T.cl, T.nT, rfl, t, CT, dx, _, _, rfl, (t6.same s7).obj, TT.cl, TT.nG, rfl, _, rfl, gg, _, _, _, rfl, rfl, SqL.of (t6.same s7).hg, at_of (j := c) rfl (nvs_of (takes_at hc60)), rfl, _, rfl, ite2 (fun h8 => ?_) fun h8 => ?_⟩
      · have h9 : decide (takeOf s 528 c = 0) = true := decide_eq_true (by have := veq_t h8; omega)
        refine ⟨_, rfl, _, h7, ?_, Same.at s7 hDa, ?_⟩
        · rw [nvs_len]; exact Nat.lt_of_le_of_lt (Nat.le_trans (List.length_filter_le _ _) (Nat.le_trans (takeLe _ _) (Nat.le_trans (sel_len_le _ _) (show 60 ≤ 1000 by decide)))) (by decide)
        · rw [upd_same, take_snoc hc, List.filter_append, nvs_app, List.filter_cons, if_pos h9]; rfl
      · have h9 : ¬ decide (takeOf s 528 c = 0) = true := by
          intro z; have := veq_f h8; have := of_decide_eq_true z; omega
        refine ⟨s7, ?_⟩
        rw [h7, take_snoc hc, List.filter_append, List.filter_cons, if_neg h9]; simp
    rintro H7 ⟨s7, p7⟩
    rw [nvs_len, List.take_length, filt_A] at p7
    have a7 := s7 _ _ a6
    have hpa : Da ≠ a := (ne_of_none a6 hDa).symm
    refine ⟨_, rfl, a, C, dxw, _, rfl, a7, T.cl, T.nA, (by show 3 < 1000; decide), ?_⟩
    have eH8 : upd H7 a (.ins C dxw (putF "apart" (V.ref Da) [("seen", .ref l), ("tally", .ref t), ("beside", .ref Db)])) = upd H7 a (.ins C dxw [("seen", .ref l), ("tally", .ref t), ("beside", .ref Db), ("apart", .ref Da)]) := rfl
    rw [eH8]
    have k78 : Keep a H7 (upd H7 a (.ins C dxw [("seen", .ref l), ("tally", .ref t), ("beside", .ref Db), ("apart", .ref Da)])) := (Keep.refl H7).upd
    have a8 : (upd H7 a (.ins C dxw [("seen", .ref l), ("tally", .ref t), ("beside", .ref Db), ("apart", .ref Da)])) a = some (.ins C dxw [("seen", .ref l), ("tally", .ref t), ("beside", .ref Db), ("apart", .ref Da)]) := upd_same
    generalize upd H7 a (.ins C dxw [("seen", .ref l), ("tally", .ref t), ("beside", .ref Db), ("apart", .ref Da)]) = H8 at k78 a8 ⊢
    have t8 : TallyIs CT H8 t dx mm ee gg s 60 := tk_ a7 (by intro xs z; cases z) (t6.same s7) k78
    have k8 : Keep a H H8 := k6.trans ((Keep.of s7).trans k78)
    have b8 : H8 Db = some (.lst (nvs (Bs s))) := k78.get (s7 _ _ b6) hba
    have p8 : H8 Da = some (.lst (nvs (As s))) := k78.get p7 hpa
    have l8 := k8.get hl hla
    -- hidden
    refine ⟨_, rfl, 60, rfl, by decide, by decide, fun Dk hDk => lc_range (lo := 0) (n := 60) (fun i H' => Same H8 H' ∧ H' Dk = some (.lst (nvs (sel (fun c => decide (at_ s c = 10)) i))))
      ⟨Same.new hDk, upd_same⟩ ?_ ?_⟩
    · rintro i H9 hi ⟨s9, h9⟩
      have e0 : (0 : Int) + (i : Nat) = (i : Int) := by omega
      rw [e0]
      refine ⟨rfl, _, rfl, _, rfl, l, _, _, _, rfl, rfl, SqL.of (s9 _ _ l8), at_of (j := i) rfl (nvs_at hlen hi), rfl, _, rfl, ite2 (fun h5 => ?_) fun h5 => ?_⟩
      · have h6 : decide (at_ s i = 10) = true := decide_eq_true (by have := veq_t h5; omega)
        refine ⟨_, rfl, _, h9, ?_, Same.at s9 hDk, ?_⟩
        · rw [nvs_len]; exact Nat.lt_of_le_of_lt (Nat.le_trans (sel_len_le _ _) (show i ≤ 1000 by omega)) (by decide)
        · rw [upd_same, sel_succ, if_pos h6, nvs_app]; rfl
      · have h6 : ¬ decide (at_ s i = 10) = true := by
          intro z; have := veq_f h5; have := of_decide_eq_true z; omega
        exact ⟨s9, by rw [sel_succ, if_neg h6]; exact h9⟩
    rintro H9 ⟨s9, h9⟩
    have a9 := s9 _ _ a8
    refine ⟨Dk, _, rfl, .inl (SqL.of h9), _, _, rfl, rfl, _, rfl, a, C, dxw, _, rfl, a9, T.cl, T.nH, (by show 4 < 1000; decide), ?_⟩
    have ehid : (m : Int) - ((nvs (sel (fun c => decide (at_ s c = 10)) 60)).length : Int) = hid s m := by rw [nvs_len]; rfl
    dsimp only
    rw [ehid]
    have eH10 : upd H9 a (.ins C dxw (putF "hidden" (V.int (hid s m)) [("seen", .ref l), ("tally", .ref t), ("beside", .ref Db), ("apart", .ref Da)])) = upd H9 a (.ins C dxw [("seen", .ref l), ("tally", .ref t), ("beside", .ref Db), ("apart", .ref Da), ("hidden", .int (hid s m))]) := rfl
    rw [eH10]
    have k90 : Keep a H9 (upd H9 a (.ins C dxw [("seen", .ref l), ("tally", .ref t), ("beside", .ref Db), ("apart", .ref Da), ("hidden", .int (hid s m))])) := (Keep.refl H9).upd
    have a10 : (upd H9 a (.ins C dxw [("seen", .ref l), ("tally", .ref t), ("beside", .ref Db), ("apart", .ref Da), ("hidden", .int (hid s m))])) a = some (.ins C dxw [("seen", .ref l), ("tally", .ref t), ("beside", .ref Db), ("apart", .ref Da), ("hidden", .int (hid s m))]) := upd_same
    generalize upd H9 a (.ins C dxw [("seen", .ref l), ("tally", .ref t), ("beside", .ref Db), ("apart", .ref Da), ("hidden", .int (hid s m))]) = H10 at k90 a10 ⊢
    have k8a : Keep a H8 H10 := (Keep.of s9).trans k90
    have t10 : TallyIs CT H10 t dx mm ee gg s 60 := tk_ a8 (by intro xs z; cases z) t8 k8a
    have b10 := k8a.get b8 hba
    -- width
    refine ⟨_, rfl, a, C, dxw, _, _, rfl, a10, T.cl, T.nB, rfl, Db, _, rfl, .inl (SqL.of b10), _, _, rfl, rfl, _, rfl, a, C, dxw, _, rfl, a10, T.cl, T.nW, (by show 5 < 1000; decide), ?_⟩
    have ewid : ((nvs (Bs s)).length : Int) + 1 = ((nB s + 1 : Nat) : Int) := by rw [nvs_len, hnB]; omega
    dsimp only
    rw [ewid]
    have eH11 : upd H10 a (.ins C dxw (putF "width" (V.int ((nB s + 1 : Nat) : Int)) [("seen", .ref l), ("tally", .ref t), ("beside", .ref Db), ("apart", .ref Da), ("hidden", .int (hid s m))])) = upd H10 a (.ins C dxw [("seen", .ref l), ("tally", .ref t), ("beside", .ref Db), ("apart", .ref Da), ("hidden", .int (hid s m)), ("width", .int ((nB s + 1 : Nat) : Int))]) := rfl
    rw [eH11]
    have k01 : Keep a H10 (upd H10 a (.ins C dxw [("seen", .ref l), ("tally", .ref t), ("beside", .ref Db), ("apart", .ref Da), ("hidden", .int (hid s m)), ("width", .int ((nB s + 1 : Nat) : Int))])) := (Keep.refl H10).upd
    have a11 : (upd H10 a (.ins C dxw [("seen", .ref l), ("tally", .ref t), ("beside", .ref Db), ("apart", .ref Da), ("hidden", .int (hid s m)), ("width", .int ((nB s + 1 : Nat) : Int))])) a = some (.ins C dxw [("seen", .ref l), ("tally", .ref t), ("beside", .ref Db), ("apart", .ref Da), ("hidden", .int (hid s m)), ("width", .int ((nB s + 1 : Nat) : Int))]) := upd_same
    generalize upd H10 a (.ins C dxw [("seen", .ref l), ("tally", .ref t), ("beside", .ref Db), ("apart", .ref Da), ("hidden", .int (hid s m)), ("width", .int ((nB s + 1 : Nat) : Int))]) = H11 at k01 a11 ⊢
    have k8b : Keep a H8 H11 := k8a.trans k01
    have t11 : TallyIs CT H11 t dx mm ee gg s 60 := tk_ a8 (by intro xs z; cases z) t8 k8b
    have b11 := k8b.get b8 hba
    -- layers
    refine ⟨_, rfl, a, dxw, _, rfl, a11, rfl, a, dxw, t, dx, mm, ee, gg, Db, _, s, rfl, a11, rfl, rfl, rfl, rfl, t11, b11, fun H12 y ds s12 hy L12 => ?_⟩
    have a12 := s12 _ _ a11
    have hya : y ≠ a := (ne_of_none a11 hy).symm
    refine ⟨_, rfl, a, C, dxw, _, rfl, a12, T.cl, T.nL, (by show 6 < 1000; decide), ?_⟩
    have eH13 : upd H12 a (.ins C dxw (putF "layers" (V.ref y) [("seen", .ref l), ("tally", .ref t), ("beside", .ref Db), ("apart", .ref Da), ("hidden", .int (hid s m)), ("width", .int ((nB s + 1 : Nat) : Int))])) = upd H12 a (.ins C dxw [("seen", .ref l), ("tally", .ref t), ("beside", .ref Db), ("apart", .ref Da), ("hidden", .int (hid s m)), ("width", .int ((nB s + 1 : Nat) : Int)), ("layers", .ref y)]) := rfl
    rw [eH13]
    have k23 : Keep a H12 (upd H12 a (.ins C dxw [("seen", .ref l), ("tally", .ref t), ("beside", .ref Db), ("apart", .ref Da), ("hidden", .int (hid s m)), ("width", .int ((nB s + 1 : Nat) : Int)), ("layers", .ref y)])) := (Keep.refl H12).upd
    have a13 : (upd H12 a (.ins C dxw [("seen", .ref l), ("tally", .ref t), ("beside", .ref Db), ("apart", .ref Da), ("hidden", .int (hid s m)), ("width", .int ((nB s + 1 : Nat) : Int)), ("layers", .ref y)])) a = some (.ins C dxw [("seen", .ref l), ("tally", .ref t), ("beside", .ref Db), ("apart", .ref Da), ("hidden", .int (hid s m)), ("width", .int ((nB s + 1 : Nat) : Int)), ("layers", .ref y)]) := upd_same
    generalize upd H12 a (.ins C dxw [("seen", .ref l), ("tally", .ref t), ("beside", .ref Db), ("apart", .ref Da), ("hidden", .int (hid s m)), ("width", .int ((nB s + 1 : Nat) : Int)), ("layers", .ref y)]) = H13 at k23 a13 ⊢
    have L13 : LayersAt H13 y ds s (nB s + 1) := ⟨k23 _ _ L12.1 hya, L12.2.1, fun k d hk => k23 _ _ (L12.2.2 k d hk) (fun z => by have h := L12.2.2 k d hk; rw [z, a12] at h; cases h)⟩
    have k8c : Keep a H8 H13 := k8b.trans ((Keep.of s12).trans k23)
    -- row
    obtain ⟨ds', dn, hds⟩ : ∃ ds' dn, ds = ds' ++ [dn] := by
      have := L13.2.1
      cases ds with
      | nil => simp at this
      | cons x xs => exact ⟨_, _, (List.dropLast_concat_getLast (l := x :: xs) (by simp)).symm⟩
    have hdn : ds[nB s]? = some dn := by
      have h := L13.2.1
      rw [hds, List.length_append, List.length_singleton] at h
      rw [hds, List.getElem?_append_right (by omega), show ds'.length = nB s by omega]; simp
    refine ⟨_, rfl, a, C, dxw, _, _, rfl, a13, T.cl, T.nL, rfl, _, rfl, y, _, _, _, rfl, rfl, SqL.of L13.1, (by rw [hds, List.map_append]; exact atI_last _ _), dn, _, _, rfl, L13.2.2 _ _ hdn, enc_vals _, ?_⟩
    rw [sum_int]
    have erow : ((sumL (layT s (nB s)) (·.2) : Nat) : Int) = ((rowT s : Nat) : Int) := rfl
    rw [erow]
    refine ⟨_, rfl, a, C, dxw, _, rfl, a13, T.cl, T.nR, (by show 7 < 1000; decide), ?_⟩
    have eH14 : upd H13 a (.ins C dxw (putF "row" (V.int ((rowT s : Nat) : Int)) [("seen", .ref l), ("tally", .ref t), ("beside", .ref Db), ("apart", .ref Da), ("hidden", .int (hid s m)), ("width", .int ((nB s + 1 : Nat) : Int)), ("layers", .ref y)])) = upd H13 a (.ins C dxw [("seen", .ref l), ("tally", .ref t), ("beside", .ref Db), ("apart", .ref Da), ("hidden", .int (hid s m)), ("width", .int ((nB s + 1 : Nat) : Int)), ("layers", .ref y), ("row", .int ((rowT s : Nat) : Int))]) := rfl
    rw [eH14]
    have k34 : Keep a H13 (upd H13 a (.ins C dxw [("seen", .ref l), ("tally", .ref t), ("beside", .ref Db), ("apart", .ref Da), ("hidden", .int (hid s m)), ("width", .int ((nB s + 1 : Nat) : Int)), ("layers", .ref y), ("row", .int ((rowT s : Nat) : Int))])) := (Keep.refl H13).upd
    have a14 : (upd H13 a (.ins C dxw [("seen", .ref l), ("tally", .ref t), ("beside", .ref Db), ("apart", .ref Da), ("hidden", .int (hid s m)), ("width", .int ((nB s + 1 : Nat) : Int)), ("layers", .ref y), ("row", .int ((rowT s : Nat) : Int))])) a = some (.ins C dxw [("seen", .ref l), ("tally", .ref t), ("beside", .ref Db), ("apart", .ref Da), ("hidden", .int (hid s m)), ("width", .int ((nB s + 1 : Nat) : Int)), ("layers", .ref y), ("row", .int ((rowT s : Nat) : Int))]) := upd_same
    generalize upd H13 a (.ins C dxw [("seen", .ref l), ("tally", .ref t), ("beside", .ref Db), ("apart", .ref Da), ("hidden", .int (hid s m)), ("width", .int ((nB s + 1 : Nat) : Int)), ("layers", .ref y), ("row", .int ((rowT s : Nat) : Int))]) = H14 at k34 a14 ⊢
    have k8d : Keep a H8 H14 := k8c.trans k34
    have p14 := k8d.get p8 hpa
    -- choices
    refine ⟨_, rfl, a, C, dxw, _, _, rfl, a14, T.cl, T.nA, rfl, Da, _, rfl, .inl (SqL.of p14), nA s, ?_, hA60, fun H15 ch s15 hch c15 => ?_⟩
    · rw [nvs_len]; rfl
    have a15 := s15 _ _ a14
    have hcha : ch ≠ a := (ne_of_none a14 hch).symm
    refine ⟨_, rfl, a, C, dxw, _, rfl, a15, T.cl, T.nC, (by show 8 < 1000; decide), ?_⟩
    have eH16 : upd H15 a (.ins C dxw (putF "choices" (V.ref ch) [("seen", .ref l), ("tally", .ref t), ("beside", .ref Db), ("apart", .ref Da), ("hidden", .int (hid s m)), ("width", .int ((nB s + 1 : Nat) : Int)), ("layers", .ref y), ("row", .int ((rowT s : Nat) : Int))])) = upd H15 a (.ins C dxw [("seen", .ref l), ("tally", .ref t), ("beside", .ref Db), ("apart", .ref Da), ("hidden", .int (hid s m)), ("width", .int ((nB s + 1 : Nat) : Int)), ("layers", .ref y), ("row", .int ((rowT s : Nat) : Int)), ("choices", .ref ch)]) := rfl
    rw [eH16]
    have k56' : Keep a H15 (upd H15 a (.ins C dxw [("seen", .ref l), ("tally", .ref t), ("beside", .ref Db), ("apart", .ref Da), ("hidden", .int (hid s m)), ("width", .int ((nB s + 1 : Nat) : Int)), ("layers", .ref y), ("row", .int ((rowT s : Nat) : Int)), ("choices", .ref ch)])) := (Keep.refl H15).upd
    have a16 : (upd H15 a (.ins C dxw [("seen", .ref l), ("tally", .ref t), ("beside", .ref Db), ("apart", .ref Da), ("hidden", .int (hid s m)), ("width", .int ((nB s + 1 : Nat) : Int)), ("layers", .ref y), ("row", .int ((rowT s : Nat) : Int)), ("choices", .ref ch)])) a = some (.ins C dxw [("seen", .ref l), ("tally", .ref t), ("beside", .ref Db), ("apart", .ref Da), ("hidden", .int (hid s m)), ("width", .int ((nB s + 1 : Nat) : Int)), ("layers", .ref y), ("row", .int ((rowT s : Nat) : Int)), ("choices", .ref ch)]) := upd_same
    generalize upd H15 a (.ins C dxw [("seen", .ref l), ("tally", .ref t), ("beside", .ref Db), ("apart", .ref Da), ("hidden", .int (hid s m)), ("width", .int ((nB s + 1 : Nat) : Int)), ("layers", .ref y), ("row", .int ((rowT s : Nat) : Int)), ("choices", .ref ch)]) = H16 at k56' a16 ⊢
    have k3_6 : Keep a H13 H16 := k34.trans ((Keep.of s15).trans k56')
    have k8e : Keep a H8 H16 := k8c.trans k3_6
    have b16 := k8e.get b8 hba
    have ch16 : H16 ch = some (.lst (nvs (choices (nA s)))) := k56'.get c15 hcha
    -- total
    refine ⟨_, rfl, a, dxw, _, rfl, a16, rfl, _, rfl, a, C, dxw, _, _, rfl, a16, T.cl, T.nR, rfl, _, rfl, a, C, dxw, _, _, rfl, a16, T.cl, T.nC, rfl, _, rfl, a, C, dxw, _, _, rfl, a16, T.cl, T.nH, rfl, a, dxw, Db, ch, _, Bs s, choices (nA s), rowT s, hid s m, rfl, a16, rfl, rfl, b16, hB60, ch16, ?_⟩
    refine ⟨_, rfl, a, C, dxw, _, rfl, a16, T.cl, T.nO, (by show 9 < 1000; decide), ?_⟩
    have k67 : Keep a H16 (upd H16 a (.ins C dxw (putF "total" (V.int ((filledUp ((Bs s).length + 1) (Bs s).length (rowT s) (choices (nA s)) (hid s m) : Nat) : Int)) [("seen", .ref l), ("tally", .ref t), ("beside", .ref Db), ("apart", .ref Da), ("hidden", .int (hid s m)), ("width", .int ((nB s + 1 : Nat) : Int)), ("layers", .ref y), ("row", .int ((rowT s : Nat) : Int)), ("choices", .ref ch)]))) := (Keep.refl H16).upd
    have k8f := k8e.trans k67
    refine kk _ ⟨dxw, l, t, dx, mm, ee, gg, Db, Da, y, ch, ds⟩ (k8.trans k8f) ⟨upd_same, k8f.get l8 hla, tk_ a8 (by intro xs z; cases z) t8 k8f, k8f.get b8 hba, k8f.get p8 hpa, ?_, k67.get ch16 hcha⟩
    have k3f := k3_6.trans k67
    exact ⟨k3f _ _ L13.1 hya, L13.2.1, fun k d hk => k3f _ _ (L13.2.2 k d hk) (fun z => by have h := L13.2.2 k d hk; rw [z, a13] at h; cases h)⟩
end
end SM
end
section
set_option Elab.async false
set_option linter.all false
set_option maxRecDepth 100000
set_option maxHeartbeats 4000000
namespace SM
open PySem PySem.Spec PyProof.Rows L2
open Kg33 (has with_ near at_)

abbrev sCount : Stmt := top 31
abbrev sEach : Stmt := top 32
abbrev sCertain : Stmt := top 33
abbrev sBest : Stmt := top 34
abbrev sSafeSq : Stmt := top 35
abbrev sRange : Stmt := top 36
abbrev sClosed : Stmt := top 37

structure TxtA (mg : Str → Option Value) : Prop where
  notIn : ∃ t, mg "NOT_IN_RANGE" = some (.int (-8) t)
  noWay : ∃ t, mg "NO_WAY" = some (.int (-1) t)
  noneClosed : ∃ t, mg "NOTHING_CLOSED" = some (.int (-2) t)

def ansV (x : Kg33.Ans) : List V := V.int x.value :: nvs x.out
def ansOf (x : Kg33.Call) : Kg33.Ans := (Kg33.does (Kg33.begin_ 0) x).2
theorem ask10 {s : Kg33.Seen} {m : Int} (h : Kg33.askable s m = true) : (∃ n : Nat, m = (n : Int) ∧ n ≤ 60) ∧ ∀ c, at_ s c ≤ 10 := by
  unfold Kg33.askable at h
  rw [Bool.and_eq_true, Bool.and_eq_true] at h
  have h1 := of_decide_eq_true h.1
  have h2 := of_decide_eq_true h.2.1
  refine ⟨⟨m.toNat, by omega, by omega⟩, fun c => ?_⟩
  unfold Kg33.at_
  rw [List.getD_eq_getElem?_getD]
  cases e : s[c]? with
  | none => decide
  | some x =>
    have := List.all_eq_true.1 h.2.2 x (List.mem_of_getElem? e)
    exact of_decide_eq_true this
theorem unknown_sel (s : Kg33.Seen) (n : Nat) : (List.range n).filter (fun c => at_ s c == 9) = sel (clo s) n := by
  unfold sel
  apply List.filter_congr
  intro c _
  unfold clo
  cases e : decide (at_ s c = 9) with
  | true => exact beq_iff_eq.2 (of_decide_eq_true e)
  | false => exact beq_eq_false_iff_ne.2 (of_decide_eq_false e)

def spRange : Sp := fun vs H Q _ => ∃ (m : Int) (a : Addr) (s : Kg33.Seen), vs = [.int m, .ref a] ∧ H a = some (.lst (nvs s)) ∧ 0 < s.length ∧ Q (.bl (Kg33.askable s m)) H
def spClosed : Sp := fun vs H Q _ => ∃ (a : Addr) (s : Kg33.Seen), vs = [.ref a] ∧ H a = some (.lst (nvs s)) ∧ s.length = 60 ∧
  ∀ (H' : Hp) (p : Addr), Same H H' → H p = none → H' p = some (.lst (nvs (Kg33.unknown s))) → Q (.ref p) H'
def spAsk (mk : Kg33.Seen → Int → Kg33.Call) : Sp := fun vs H Q _ => ∃ (m : Int) (a : Addr) (s : Kg33.Seen), vs = [.int m, .ref a] ∧ H a = some (.lst (nvs s)) ∧ s.length = 60 ∧
  ∀ (H' : Hp) (p : Addr), Same H H' → H p = none → H' p = some (.lst (ansV (ansOf (mk s m)))) → Q (.ref p) H'
def spSafeSq : Sp := fun vs H Q _ => ∃ (m : Nat) (a : Addr) (s : Kg33.Seen), vs = [.int (m : Int), .ref a] ∧ H a = some (.lst (nvs s)) ∧ s.length = 60 ∧ (∀ c, at_ s c ≤ 10) ∧
  ∀ (H' : Hp) (p : Addr), Same H H' → H p = none → H' p = some (.lst (nvs (Kg33.safe s m))) → Q (.ref p) H'

section
variable {P : Program} {w : World} {K : PySem.W.Frag} {mg : Str → Option Value} {base : Heap} {C CT : Addr}

theorem scRange : FnScope ["m", "seen"] ["m", "seen"] (defScope sRange) := ⟨rfl, rfl, rfl, by decide +kernel, rfl, by decide +kernel, by decide +kernel⟩
theorem ok_range {f : Addr} {fd : FuncData} (F : Fun K "is_in_range" "is_in_range" sRange f fd) (TS : TxtS mg) (TT : TxtT K mg CT) : FnOk P w K mg base CX0 1 f fd ["m", "seen"] spRange := by
  refine F.ok scRange (fun vs H Q E h => ?_) (fun cdv A outer st H vs Q E hr h => ?_)
  · obtain ⟨m, a, s, rfl, _⟩ := h
    rfl
  · obtain ⟨m, a, s, rfl, ha, hpos, k⟩ := h
    refine ⟨_, pss_one (ps_ret (pe_and (pe_cmpR op_le pe_int (pv 0) (nomark _)) (pe_and (pe_cmpR op_le (pv 0) (pgl TS.sqs) (nomark _)) (pe_one (pe_cmpR op_le (pe_callB (cr_max rfl) rfl TS.max boot_max (pa_cons (pv 1) pa_nil)) (pgl TT.mine) (nomark _)))))), ?_⟩
    unfold Kg33.askable at k
    refine ⟨_, rfl, _, _, rfl, rfl, _, rfl, ite2 (fun h1 => ?_) fun h1 => ?_⟩
    · rw [h1, Bool.true_and] at k
      refine ⟨_, rfl, _, _, rfl, rfl, _, rfl, ite2 (fun h2 => ?_) fun h2 => ?_⟩
      · rw [h2, Bool.true_and] at k
        refine ⟨_, rfl, a, s.map (fun n : Nat => (n : Int)), rfl, ?_, by rw [List.length_map]; exact hpos, fun M hM hmax => ?_⟩
        · have e : (s.map (fun n : Nat => (n : Int))).map V.int = nvs s := by unfold nvs; rw [List.map_map]; rfl
          rw [e]; exact SqL.of ha
        · refine ⟨_, _, rfl, rfl, ?_⟩
          have e : (decide (M ≤ 10)) = s.all fun x => decide (x ≤ 10) := by
            cases z : s.all fun x => decide (x ≤ 10) with
            | true =>
              rw [List.all_eq_true] at z
              obtain ⟨n, hn, e⟩ := List.mem_map.1 hM
              have := of_decide_eq_true (z n hn)
              exact decide_eq_true (by omega)
            | false =>
              rw [List.all_eq_false] at z
              obtain ⟨n, hn, e⟩ := z
              have h3 := hmax (n : Int) (List.mem_map_of_mem hn)
              have h4 : ¬ n ≤ 10 := fun q => e (decide_eq_true q)
              exact decide_eq_false (by omega)
          rw [← e] at k
          exact k
      · have h3 : decide (m ≤ 60) = false := by simpa using h2
        rw [h3, Bool.false_and] at k
        exact k
    · have h3 : decide (0 ≤ m) = false := by simpa using h1
      rw [h3, Bool.false_and] at k
      exact k

theorem scClosed : FnScope ["seen", "c"] ["seen"] (defScope sClosed) := ⟨rfl, rfl, rfl, by decide +kernel, rfl, by decide +kernel, by decide +kernel⟩
theorem ok_closed {f : Addr} {fd : FuncData} (F : Fun K "closed_squares" "closed_squares" sClosed f fd) (TS : TxtS mg) (TT : TxtT K mg CT) : FnOk P w K mg base CX0 1 f fd ["seen"] spClosed := by
  refine F.ok scClosed (fun vs H Q E h => ?_) (fun cdv A outer st H vs Q E hr h => ?_)
  · obtain ⟨a, s, rfl, _⟩ := h
    rfl
  · obtain ⟨a, s, rfl, ha, hlen, k⟩ := h
    refine ⟨_, pss_one (ps_ret (pe_lc (own := [("c", 1)]) (tt := tTest (tOp rEq (tOp (rIxL K) (tVar 0) (tVar 1)) (tC (.int 9)))) rfl scClosed.nd (pi_range1 rfl TS.range (pa_cons (pgl TS.sqs) pa_nil)) (blkOk_by (by rfl))
      (fun s H C cl fp => pg_name (i := 1) scClosed.nd rfl (Or.inl rfl) (.inr rfl))
      (fun s H C cl fp => pts_one (pt_cmpR op_eq (pe_ix ix_list (pv 0) (pv 1) (fun _ _ => rfl)) (pgl TT.closed) (nomark _)))
      (fun s H C cl fp => pv 1))), ?_⟩
    refine ⟨60, rfl, by decide, by decide, fun D hD => lc_range (lo := 0) (n := 60) (fun i H' => Same H H' ∧ H' D = some (.lst (nvs (sel (clo s) i))))
      ⟨Same.new hD, upd_same⟩ ?_ ?_⟩
    · rintro i H4 hi ⟨s4, h4⟩
      have e0 : (0 : Int) + (i : Nat) = (i : Int) := by omega
      rw [e0]
      refine ⟨rfl, _, rfl, _, rfl, a, _, _, _, rfl, rfl, SqL.of (s4 _ _ ha), at_of (j := i) rfl (nvs_at hlen hi), rfl, _, rfl, ite2 (fun h5 => ?_) fun h5 => ?_⟩
      · have h6 : clo s i = true := decide_eq_true (by have := veq_t h5; omega)
        refine ⟨_, rfl, _, h4, ?_, Same.at s4 hD, ?_⟩
        · rw [nvs_len]; exact Nat.lt_of_le_of_lt (Nat.le_trans (sel_len_le _ _) (show i ≤ 1000 by omega)) (by decide)
        · rw [upd_same, sel_succ, if_pos h6, nvs_app]; rfl
      · have h6 : ¬ clo s i = true := by
          intro z; have := veq_f h5; have := of_decide_eq_true z; omega
        exact ⟨s4, by rw [sel_succ, if_neg h6]; exact h4⟩
    · rintro H4 ⟨s4, h4⟩
      rw [← unknown_sel] at h4
      exact k H4 D s4 hD h4

/-- what is needed of the ways' class -/
structure WaysFns (P : Program) (w : World) (K : PySem.W.Frag) (mg : Str → Option Value) (base : Heap) (C CT fi fw : Addr) (fdi fdw : FuncData) : Prop where
  mkW : Mk K C fi
  gi : FnOk P w K mg base CX0 5 fi fdi ["self", "m", "seen"] (spWInit C CT)
  bi : Binds K fdi ["self", "m", "seen"] []
  mgW : mg "Ways" = some (.ref C)
  gw : FnOk P w K mg base CX0 2 fw fdw ["self"] (spWith C CT)
  bw : Binds K fdw ["self"] []
  mw : Meth K C "with_mine" fw

theorem scCount : FnScope ["m", "seen"] ["m", "seen"] (defScope sCount) := ⟨rfl, rfl, rfl, by decide +kernel, rfl, by decide +kernel, by decide +kernel⟩
theorem ok_count {f fr fi fw : Addr} {fd fdr fdi fdw : FuncData} (F : Fun K "count" "count" sCount f fd) (T : TxtW K mg C) (TA : TxtA mg) (W : WaysFns P w K mg base C CT fi fw fdi fdw)
    (GR : FnOk P w K mg base CX0 1 fr fdr ["m", "seen"] spRange) (FR : Fun K "is_in_range" "is_in_range" sRange fr fdr) (bR : Binds K fdr ["m", "seen"] []) (mr : mg "is_in_range" = some (.ref fr)) : FnOk P w K mg base CX0 7 f fd ["m", "seen"] (spAsk .count) := by
  refine F.ok scCount (fun vs H Q E h => ?_) (fun cdv A outer st H vs Q E hr h => ?_)
  · obtain ⟨m, a, s, rfl, _⟩ := h
    rfl
  · obtain ⟨m, a, s, rfl, ha, hlen, k⟩ := h
    have hr1 : Room 1 _ := hr.mono (by decide)
    refine ⟨_, pss_cons (ps_if (pt_not (pt_val (pe_call GR hr1 rfl mr FR.kp bR .nil pass0 (pa_cons (pv 0) (pa_cons (pv 1) pa_nil))))) (pss_one (ps_ret (pe_lst (pa_cons (pgl TA.notIn) pa_nil)))) pss_nil)
      (pss_one (ps_ret (pe_lst (pa_cons (pe_fld (pe_make W.mkW W.gi hr rfl W.mgW W.bi .nil pass0 (pa_cons (pv 0) (pa_cons (pv 1) pa_nil))) rfl) pa_nil)))), ?_⟩
    refine ⟨_, rfl, _, rfl, m, a, s, rfl, ha, by omega, _, rfl, ite2 (fun h1 => ?_) fun h1 => ?_⟩
    · have h2 : Kg33.askable s m = false := by simpa using h1
      refine ⟨(by show 1 ≤ sizeLine; decide), fun p hp => k _ p (Same.new hp) hp ?_⟩
      rw [upd_same]
      have e : ansOf (.count s m) = Kg33.num (-8) := by
        show Kg33.num (if Kg33.askable s m = false then -8 else _) = _
        rw [if_pos h2]
      rw [e]; rfl
    · have h2 : Kg33.askable s m = true := by simpa using h1
      obtain ⟨⟨n, rfl, hn⟩, h10⟩ := ask10 h2
      refine ⟨_, rfl, _, rfl, fun x dx nx ndx nex => ⟨x, dx, a, s, n, rfl, upd_same, (by rw [upd_ne (ne_of_none ha nx), upd_ne (ne_of_none ha ndx)]; exact ha), hlen, fun H2 q k2 W2 => ⟨rfl, x, C, q.dxw, _, _, rfl, W2.obj, T.cl, T.nO, rfl, ?_⟩⟩⟩
      have s2 : Same H H2 := Same.made nx ndx k2
      refine ⟨(by show 1 ≤ sizeLine; decide), fun p hp => k _ p (s2.trans (Same.new hp)) (s2.free hp) ?_⟩
      rw [upd_same, total_eq h10]
      have e : ansOf (.count s (n : Int)) = Kg33.num (Kg33.count s n : Int) := by
        show Kg33.num (if Kg33.askable s (n : Int) = false then -8 else (Kg33.count s (n : Int).toNat : Int)) = _
        rw [h2, if_neg (by decide), Int.toNat_natCast]
      rw [e]; rfl

theorem many_under {s : Kg33.Seen} (hl : s.length = 60) (h10 : ∀ c, at_ s c ≤ 10) (m : Nat) : (List.range 60).map (manyT s m) = (List.range 60).map (Kg33.under s m) := by
  apply List.map_congr_left
  intro c hc
  exact many_eq hl h10 m (List.mem_range.1 hc)

theorem scEach : FnScope ["m", "seen", "ways"] ["m", "seen"] (defScope sEach) := ⟨rfl, rfl, rfl, by decide +kernel, rfl, by decide +kernel, by decide +kernel⟩
theorem ok_each {f fr fi fw : Addr} {fd fdr fdi fdw : FuncData} (F : Fun K "each" "each" sEach f fd) (T : TxtW K mg C) (TA : TxtA mg) (W : WaysFns P w K mg base C CT fi fw fdi fdw)
    (GR : FnOk P w K mg base CX0 1 fr fdr ["m", "seen"] spRange) (FR : Fun K "is_in_range" "is_in_range" sRange fr fdr) (bR : Binds K fdr ["m", "seen"] []) (mr : mg "is_in_range" = some (.ref fr)) : FnOk P w K mg base CX0 7 f fd ["m", "seen"] (spAsk .each) := by
  refine F.ok scEach (fun vs H Q E h => ?_) (fun cdv A outer st H vs Q E hr h => ?_)
  · obtain ⟨m, a, s, rfl, _⟩ := h
    rfl
  · obtain ⟨m, a, s, rfl, ha, hlen, k⟩ := h
    have hr1 : Room 1 _ := hr.mono (by decide)
    have hr2 : Room 2 _ := hr.mono (by decide)
    refine ⟨_, pss_cons (ps_if (pt_not (pt_val (pe_call GR hr1 rfl mr FR.kp bR .nil pass0 (pa_cons (pv 0) (pa_cons (pv 1) pa_nil))))) (pss_one (ps_ret (pe_lst (pa_cons (pgl TA.notIn) pa_nil)))) pss_nil)
      (pss_cons (ps_set (i := 2) scEach.nd rfl (Or.inl rfl) (pe_make W.mkW W.gi hr rfl W.mgW W.bi .nil pass0 (pa_cons (pv 0) (pa_cons (pv 1) pa_nil))))
      (pss_cons (ps_if (pt_cmpR op_eq (pe_fld (pv 2) rfl) pe_int (nomark _)) (pss_one (ps_ret (pe_lst (pa_cons (pgl TA.noWay) pa_nil)))) pss_nil)
      (pss_one (ps_ret (pe_op op_cat (pe_lst (pa_cons pe_int pa_nil)) (pe_meth0 (pv 2) T.cl W.mw W.gw hr2 W.bw .nil pass0)))))), ?_⟩
    refine ⟨_, rfl, _, rfl, m, a, s, rfl, ha, by omega, _, rfl, ite2 (fun h1 => ?_) fun h1 => ?_⟩
    · have h2 : Kg33.askable s m = false := by simpa using h1
      refine ⟨(by show 1 ≤ sizeLine; decide), fun p hp => k _ p (Same.new hp) hp ?_⟩
      rw [upd_same]
      have e : ansOf (.each s m) = Kg33.num (-8) := by
        show (if Kg33.askable s m = false then Kg33.num (-8) else _) = _
        rw [if_pos h2]
      rw [e]; rfl
    · have h2 : Kg33.askable s m = true := by simpa using h1
      obtain ⟨⟨n, rfl, hn⟩, h10⟩ := ask10 h2
      refine ⟨_, rfl, _, rfl, fun x dx nx ndx nex => ⟨x, dx, a, s, n, rfl, upd_same, (by rw [upd_ne (ne_of_none ha nx), upd_ne (ne_of_none ha ndx)]; exact ha), hlen, fun H2 q k2 W2 => ⟨rfl, ?_⟩⟩⟩
      have s2 : Same H H2 := Same.made nx ndx k2
      refine ⟨_, rfl, x, C, q.dxw, _, _, rfl, W2.obj, T.cl, T.nO, rfl, rfl, _, rfl, ite2 (fun h3 => ?_) fun h3 => ?_⟩
      · have h4 : Kg33.count s n = 0 := by rw [← total_eq h10]; have := veq_t h3; omega
        refine ⟨(by show 1 ≤ sizeLine; decide), fun p hp => k _ p (s2.trans (Same.new hp)) (s2.free hp) ?_⟩
        rw [upd_same]
        have e : ansOf (.each s (n : Int)) = Kg33.num (-1) := by
          show (if Kg33.askable s (n : Int) = false then Kg33.num (-8) else if Kg33.count s (n : Int).toNat = 0 then Kg33.num (-1) else _) = _
          rw [h2, if_neg (by decide), Int.toNat_natCast, if_pos h4]
        rw [e]; rfl
      · have h4 : ¬ Kg33.count s n = 0 := by rw [← total_eq h10]; have := veq_f h3; omega
        refine ⟨(by show 1 ≤ sizeLine; decide), fun l hl => ?_⟩
        have s3 : Same H2 (upd H2 l (.lst [V.int 0])) := Same.new hl
        refine ⟨_, rfl, x, q.dxw, _, rfl, (W2.same s3).obj, rfl, x, q, s, n, rfl, W2.same s3, hlen, fun H4 p4 s4 hp4 h5 => ?_⟩
        refine ⟨l, p4, _, _, rfl, rfl, s4 _ _ upd_same, h5, (by rw [nvs_len, List.length_map, List.length_range]; decide), fun p hp => k _ p ((s2.trans (s3.trans s4)).trans (Same.new hp)) ((s2.trans (s3.trans s4)).free hp) ?_⟩
        rw [upd_same, many_under hlen h10]
        have e : ansOf (.each s (n : Int)) = ⟨0, (List.range 60).map (Kg33.under s n)⟩ := by
          show (if Kg33.askable s (n : Int) = false then Kg33.num (-8) else if Kg33.count s (n : Int).toNat = 0 then Kg33.num (-1) else ⟨0, (List.range 60).map (Kg33.under s (n : Int).toNat)⟩) = _
          rw [h2, if_neg (by decide), Int.toNat_natCast, if_neg h4]
        rw [e]; rfl
end
end SM
end
section
set_option Elab.async false
set_option linter.all false
set_option maxRecDepth 100000
set_option maxHeartbeats 4000000
namespace SM
open PySem PySem.Spec PyProof.Rows L2
open Kg33 (has with_ near at_)

theorem unknown_lt {s : Kg33.Seen} {c : Nat} (h : c ∈ Kg33.unknown s) : c < 60 := by
  unfold Kg33.unknown at h
  rw [List.mem_filter, List.mem_range] at h
  exact h.1
theorem unknown_len (s : Kg33.Seen) : (Kg33.unknown s).length ≤ 60 := by
  unfold Kg33.unknown
  refine Nat.le_trans (List.length_filter_le _ _) ?_
  simp
theorem many_get {s : Kg33.Seen} {m c : Nat} (hc : c < 60) : ((List.range 60).map (Kg33.under s m))[c]? = some (Kg33.under s m c) := by
  rw [List.getElem?_map, List.getElem?_range hc]; rfl

section
variable {P : Program} {w : World} {K : PySem.W.Frag} {mg : Str → Option Value} {base : Heap} {C CT : Addr}

theorem scSafeSq : FnScope ["m", "seen", "many", "c"] ["m", "seen"] (defScope sSafeSq) := ⟨rfl, rfl, rfl, by decide +kernel, rfl, by decide +kernel, by decide +kernel⟩
theorem ok_safeSq {f fc fi fw : Addr} {fd fdc fdi fdw : FuncData} (F : Fun K "safe_squares" "safe_squares" sSafeSq f fd) (T : TxtW K mg C) (W : WaysFns P w K mg base C CT fi fw fdi fdw)
    (GC : FnOk P w K mg base CX0 1 fc fdc ["seen"] spClosed) (FC : Fun K "closed_squares" "closed_squares" sClosed fc fdc) (bC : Binds K fdc ["seen"] []) (mc : mg "closed_squares" = some (.ref fc)) : FnOk P w K mg base CX0 7 f fd ["m", "seen"] spSafeSq := by
  refine F.ok scSafeSq (fun vs H Q E h => ?_) (fun cdv A outer st H vs Q E hr h => ?_)
  · obtain ⟨m, a, s, rfl, _⟩ := h
    rfl
  · obtain ⟨n, a, s, rfl, ha, hlen, h10, k⟩ := h
    have hr1 : Room 1 _ := hr.mono (by decide)
    have hr2 : Room 2 _ := hr.mono (by decide)
    refine ⟨_, pss_cons (ps_set (i := 2) scSafeSq.nd rfl (Or.inr rfl) (pe_meth0 (pe_make W.mkW W.gi hr rfl W.mgW W.bi .nil pass0 (pa_cons (pv 0) (pa_cons (pv 1) pa_nil))) T.cl W.mw W.gw hr2 W.bw .nil pass0))
      (pss_one (ps_ret (pe_lc (own := [("c", 3)]) (tt := tTest (tOp rEq (tOp (rIxL K) (tVar 2) (tVar 3)) (tC (.int 0)))) rfl scSafeSq.nd (pi_list (pe_call GC hr1 rfl mc FC.kp bC .nil pass0 (pa_cons (pv 1) pa_nil))) (blkOk_by (by rfl))
        (fun s H C cl fp => pg_name (i := 3) scSafeSq.nd rfl (Or.inl rfl) (.inr rfl))
        (fun s H C cl fp => pts_one (pt_cmpR op_eq (pe_ix ix_list (pv 2) (pv 3) (fun _ _ => rfl)) pe_int (nomark _)))
        (fun s H C cl fp => pv 3)))), ?_⟩
    refine ⟨_, rfl, _, rfl, fun x dx nx ndx nex => ⟨x, dx, a, s, n, rfl, upd_same, (by rw [upd_ne (ne_of_none ha nx), upd_ne (ne_of_none ha ndx)]; exact ha), hlen, fun H2 q k2 W2 => ⟨rfl, ?_⟩⟩⟩
    have s2 : Same H H2 := Same.made nx ndx k2
    refine ⟨x, q.dxw, _, rfl, W2.obj, rfl, x, q, s, n, rfl, W2, hlen, fun H3 p3 s3 hp3 h3 => ?_⟩
    rw [many_under hlen h10] at h3
    have s03 := s2.trans s3
    refine ⟨_, rfl, a, s, rfl, s03 _ _ ha, hlen, fun H4 p4 s4 hp4 h4 => ⟨p4, rfl, ⟨_, SqL.of h4⟩, fun D hD => lc_list (K := K) (a := p4) (xs := nvs (Kg33.unknown s)) (fun i H' => Same H4 H' ∧ H' D = some (.lst (nvs (((Kg33.unknown s).take i).filter fun c => Kg33.under s n c == 0))))
      ⟨Same.new hD, upd_same⟩ (fun i H' _ ⟨z, _⟩ => SqL.of (z _ _ h4)) ?_ ?_⟩⟩
    · rintro i y H5 hy ⟨s5, h5⟩
      obtain ⟨c, hc, rfl⟩ := nvs_get hy
      have hc60 := unknown_lt (List.mem_of_getElem? hc)
      refine ⟨rfl, _, rfl, _, rfl, p3, _, _, _, rfl, rfl, SqL.of (s5 _ _ (s4 _ _ h3)), at_of (j := c) rfl (nvs_of (many_get hc60)), rfl, _, rfl, ite2 (fun h6 => ?_) fun h6 => ?_⟩
      · have h7 : (Kg33.under s n c == 0) = true := beq_iff_eq.2 (by have := veq_t h6; omega)
        refine ⟨_, rfl, _, h5, ?_, Same.at s5 hD, ?_⟩
        · rw [nvs_len]; exact Nat.lt_of_le_of_lt (Nat.le_trans (List.length_filter_le _ _) (Nat.le_trans (takeLe _ _) (Nat.le_trans (unknown_len _) (show 60 ≤ 1000 by decide)))) (by decide)
        · rw [upd_same, take_snoc hc, List.filter_append, nvs_app, List.filter_cons, if_pos h7]; rfl
      · have h7 : ¬ (Kg33.under s n c == 0) = true := by
          intro z; have := veq_f h6; have := beq_iff_eq.1 z; omega
        refine ⟨s5, ?_⟩
        rw [h5, take_snoc hc, List.filter_append, List.filter_cons, if_neg h7]; simp
    · rintro H5 ⟨s5, h5⟩
      rw [nvs_len, List.take_length] at h5
      exact k H5 D (s03.trans (s4.trans s5)) (s03.free (s4.free hD)) h5

theorem scCertain : FnScope ["m", "seen", "ways", "many", "never", "always", "c"] ["m", "seen"] (defScope sCertain) := ⟨rfl, rfl, rfl, by decide +kernel, rfl, by decide +kernel, by decide +kernel⟩
theorem ok_certain {f fr fc fs fi fw : Addr} {fd fdr fdc fds fdi fdw : FuncData} (F : Fun K "certain" "certain" sCertain f fd) (T : TxtW K mg C) (TA : TxtA mg) (TS : TxtS mg) (W : WaysFns P w K mg base C CT fi fw fdi fdw)
    (GR : FnOk P w K mg base CX0 1 fr fdr ["m", "seen"] spRange) (FR : Fun K "is_in_range" "is_in_range" sRange fr fdr) (bR : Binds K fdr ["m", "seen"] []) (mr : mg "is_in_range" = some (.ref fr))
    (GC : FnOk P w K mg base CX0 1 fc fdc ["seen"] spClosed) (FC : Fun K "closed_squares" "closed_squares" sClosed fc fdc) (bC : Binds K fdc ["seen"] []) (mc : mg "closed_squares" = some (.ref fc))
    (FS : Fun K "set_of" "set_of" sSetOf fs fds) (bS : Binds K fds ["squares"] []) (ms : mg "set_of" = some (.ref fs)) : FnOk P w K mg base CX0 7 f fd ["m", "seen"] (spAsk .certain) := by
  have GS : FnOk P w K mg base CX0 1 fs fds ["squares"] (spSetOf K) := ok_setOf FS
  refine F.ok scCertain (fun vs H Q E h => ?_) (fun cdv A outer st H vs Q E hr h => ?_)
  · obtain ⟨m, a, s, rfl, _⟩ := h
    rfl
  · obtain ⟨m, a, s, rfl, ha, hlen, k⟩ := h
    have hr1 : Room 1 _ := hr.mono (by decide)
    have hr2 : Room 2 _ := hr.mono (by decide)
    refine ⟨_, pss_cons (ps_if (pt_not (pt_val (pe_call GR hr1 rfl mr FR.kp bR .nil pass0 (pa_cons (pv 0) (pa_cons (pv 1) pa_nil))))) (pss_one (ps_ret (pe_lst (pa_cons (pgl TA.notIn) pa_nil)))) pss_nil)
      (pss_cons (ps_set (i := 2) scCertain.nd rfl (Or.inr rfl) (pe_make W.mkW W.gi hr rfl W.mgW W.bi .nil pass0 (pa_cons (pv 0) (pa_cons (pv 1) pa_nil))))
      (pss_cons (ps_if (pt_cmpR op_eq (pe_fld (pv 2) rfl) pe_int (nomark _)) (pss_one (ps_ret (pe_lst (pa_cons (pgl TA.noWay) pa_nil)))) pss_nil)
      (pss_cons (ps_set (i := 3) scCertain.nd rfl (Or.inr rfl) (pe_meth0 (pv 2) T.cl W.mw W.gw hr2 W.bw .nil pass0))
      (pss_cons (ps_setLc (i := 4) (own := [("c", 6)]) (tt := tTest (tOp rEq (tOp (rIxL K) (tVar 3) (tVar 6)) (tC (.int 0)))) rfl scCertain.nd rfl rfl (sw_true rfl rfl rfl (by decide +kernel)) (pi_list (pe_call GC hr1 rfl mc FC.kp bC .nil pass0 (pa_cons (pv 1) pa_nil))) (blkOk_by (by rfl))
        (fun s H C cl fp => pg_name (i := 6) scCertain.nd rfl (Or.inl rfl) (.inr rfl))
        (fun s H C cl fp => pts_one (pt_cmpR op_eq (pe_ix ix_list (pv 3) (pv 6) (fun _ _ => rfl)) pe_int (nomark _)))
        (fun s H C cl fp => pv 6))
      (pss_cons (ps_setLc (i := 5) (own := [("c", 6)]) (tt := tTest (tOp rEq (tOp (rIxL K) (tVar 3) (tVar 6)) (tFld K (tVar 2) "total"))) rfl scCertain.nd rfl rfl (sw_true rfl rfl rfl (by decide +kernel)) (pi_list (pe_call GC hr1 rfl mc FC.kp bC .nil pass0 (pa_cons (pv 1) pa_nil))) (blkOk_by (by rfl))
        (fun s H C cl fp => pg_name (i := 6) scCertain.nd rfl (Or.inl rfl) (.inr rfl))
        (fun s H C cl fp => pts_one (pt_cmpR op_eq (pe_ix ix_list (pv 3) (pv 6) (fun _ _ => rfl)) (pe_fld (pv 2) rfl) (nomark _)))
        (fun s H C cl fp => pv 6))
      (pss_one (ps_ret (pe_lst (pa_cons (pe_op op_add (pe_callB call_len_seq rfl TS.len PySem.boot_len (pa_cons (pv 4) pa_nil)) (pe_callB call_len_seq rfl TS.len PySem.boot_len (pa_cons (pv 5) pa_nil)))
        (pa_cons (pe_call GS hr1 rfl ms FS.kp bS .nil pass0 (pa_cons (pv 4) pa_nil)) (pa_cons (pe_call GS hr1 rfl ms FS.kp bS .nil pass0 (pa_cons (pv 5) pa_nil)) pa_nil))))))))))), ?_⟩
    refine ⟨_, rfl, _, rfl, m, a, s, rfl, ha, by omega, _, rfl, ite2 (fun h1 => ?_) fun h1 => ?_⟩
    · have h2 : Kg33.askable s m = false := by simpa using h1
      refine ⟨(by show 1 ≤ sizeLine; decide), fun p hp => k _ p (Same.new hp) hp ?_⟩
      rw [upd_same]
      have e : ansOf (.certain s m) = Kg33.num (-8) := by
        show (if Kg33.askable s m = false then Kg33.num (-8) else _) = _
        rw [if_pos h2]
      rw [e]; rfl
    have h2 : Kg33.askable s m = true := by simpa using h1
    obtain ⟨⟨n, rfl, hn⟩, h10⟩ := ask10 h2
    refine ⟨_, rfl, _, rfl, fun x dx nx ndx nex => ⟨x, dx, a, s, n, rfl, upd_same, (by rw [upd_ne (ne_of_none ha nx), upd_ne (ne_of_none ha ndx)]; exact ha), hlen, fun H2 q k2 W2 => ⟨rfl, ?_⟩⟩⟩
    have s2 : Same H H2 := Same.made nx ndx k2
    refine ⟨_, rfl, x, C, q.dxw, _, _, rfl, W2.obj, T.cl, T.nO, rfl, rfl, _, rfl, ite2 (fun h3 => ?_) fun h3 => ?_⟩
    · have h4 : Kg33.count s n = 0 := by rw [← total_eq h10]; have := veq_t h3; omega
      refine ⟨(by show 1 ≤ sizeLine; decide), fun p hp => k _ p (s2.trans (Same.new hp)) (s2.free hp) ?_⟩
      rw [upd_same]
      have e : ansOf (.certain s (n : Int)) = Kg33.num (-1) := by
        show (if Kg33.askable s (n : Int) = false then Kg33.num (-8) else if Kg33.count s (n : Int).toNat = 0 then Kg33.num (-1) else _) = _
        rw [h2, if_neg (by decide), Int.toNat_natCast, if_pos h4]
      rw [e]; rfl
    have h4 : ¬ Kg33.count s n = 0 := by rw [← total_eq h10]; have := veq_f h3; omega
    refine ⟨_, rfl, x, q.dxw, _, rfl, W2.obj, rfl, x, q, s, n, rfl, W2, hlen, fun H3 p3 s3 hp3 h5 => ?_⟩
    rw [many_under hlen h10] at h5
    have s03 := s2.trans s3
    have W3 := W2.same s3
    -- never
    refine ⟨_, rfl, a, s, rfl, s03 _ _ ha, hlen, fun H4 p4 s4 hp4 h6 => ⟨p4, rfl, ⟨_, SqL.of h6⟩, fun D hD => lc_list (K := K) (a := p4) (xs := nvs (Kg33.unknown s)) (fun i H' => Same H4 H' ∧ H' D = some (.lst (nvs (((Kg33.unknown s).take i).filter fun c => Kg33.under s n c == 0))))
      ⟨Same.new hD, upd_same⟩ (fun i H' _ ⟨z, _⟩ => SqL.of (z _ _ h6)) ?_ ?_⟩⟩
    · rintro i y H5 hy ⟨s5, h7⟩
      obtain ⟨c, hc, rfl⟩ := nvs_get hy
      have hc60 := unknown_lt (List.mem_of_getElem? hc)
      refine ⟨rfl, _, rfl, _, rfl, p3, _, _, _, rfl, rfl, SqL.of (s5 _ _ (s4 _ _ h5)), at_of (j := c) rfl (nvs_of (many_get hc60)), rfl, _, rfl, ite2 (fun h8 => ?_) fun h8 => ?_⟩
      · have h9 : (Kg33.under s n c == 0) = true := beq_iff_eq.2 (by have := veq_t h8; omega)
        refine ⟨_, rfl, _, h7, ?_, Same.at s5 hD, ?_⟩
        · rw [nvs_len]; exact Nat.lt_of_le_of_lt (Nat.le_trans (List.length_filter_le _ _) (Nat.le_trans (takeLe _ _) (Nat.le_trans (unknown_len _) (show 60 ≤ 1000 by decide)))) (by decide)
        · rw [upd_same, take_snoc hc, List.filter_append, nvs_app, List.filter_cons, if_pos h9]; rfl
      · have h9 : ¬ (Kg33.under s n c == 0) = true := by
          intro z; have := veq_f h8; have := beq_iff_eq.1 z; omega
        refine ⟨s5, ?_⟩
        rw [h7, take_snoc hc, List.filter_append, List.filter_cons, if_neg h9]; simp
    rintro H5 ⟨s5, n5⟩
    rw [nvs_len, List.take_length] at n5
    have n5 : H5 D = some (.lst (nvs (Kg33.safe s n))) := n5
    have s05 := s03.trans (s4.trans s5)
    have W5 := W3.same (s4.trans s5)
    have h5' := s5 _ _ (s4 _ _ h5)
    -- always
    refine ⟨_, rfl, a, s, rfl, s05 _ _ ha, hlen, fun H6 p6 s6 hp6 h6 => ⟨p6, rfl, ⟨_, SqL.of h6⟩, fun D2 hD2 => lc_list (K := K) (a := p6) (xs := nvs (Kg33.unknown s)) (fun i H' => Same H6 H' ∧ H' D2 = some (.lst (nvs (((Kg33.unknown s).take i).filter fun c => Kg33.under s n c == Kg33.count s n))))
      ⟨Same.new hD2, upd_same⟩ (fun i H' _ ⟨z, _⟩ => SqL.of (z _ _ h6)) ?_ ?_⟩⟩
    · rintro i y H7 hy ⟨s7, h7⟩
      obtain ⟨c, hc, rfl⟩ := nvs_get hy
      have hc60 := unknown_lt (List.mem_of_getElem? hc)
      have W7 := W5.same (s6.trans s7)
      refine ⟨rfl, _, rfl, _, rfl, p3, _, _, _, rfl, rfl, SqL.of (s7 _ _ (s6 _ _ h5')), at_of (j := c) rfl (nvs_of (many_get hc60)), _, rfl, x, C, q.dxw, _, _, rfl, W7.obj, T.cl, T.nO, rfl, rfl, _, rfl, ite2 (fun h8 => ?_) fun h8 => ?_⟩
      · have h9 : (Kg33.under s n c == Kg33.count s n) = true := beq_iff_eq.2 (by rw [← total_eq h10]; have := veq_t h8; omega)
        refine ⟨_, rfl, _, h7, ?_, Same.at s7 hD2, ?_⟩
        · rw [nvs_len]; exact Nat.lt_of_le_of_lt (Nat.le_trans (List.length_filter_le _ _) (Nat.le_trans (takeLe _ _) (Nat.le_trans (unknown_len _) (show 60 ≤ 1000 by decide)))) (by decide)
        · rw [upd_same, take_snoc hc, List.filter_append, nvs_app, List.filter_cons, if_pos h9]; rfl
      · have h9 : ¬ (Kg33.under s n c == Kg33.count s n) = true := by
          intro z; have := veq_f h8; have := beq_iff_eq.1 z; rw [← total_eq h10] at this; omega
        refine ⟨s7, ?_⟩
        rw [h7, take_snoc hc, List.filter_append, List.filter_cons, if_neg h9]; simp
    rintro H7 ⟨s7, m7⟩
    rw [nvs_len, List.take_length] at m7
    have m7 : H7 D2 = some (.lst (nvs (Kg33.sure s n))) := m7
    have n7 := s7 _ _ (s6 _ _ n5)
    have s07 := s05.trans (s6.trans s7)
    refine ⟨_, rfl, D, _, rfl, .inl (SqL.of n7), _, rfl, D2, _, rfl, .inl (SqL.of m7), _, _, rfl, rfl, _, rfl, D, _, rfl, SqL.of n7, (fun c hc => unknown_lt (List.mem_filter.1 hc).1), _, rfl, D2, _, rfl, SqL.of m7, (fun c hc => unknown_lt (List.mem_filter.1 hc).1), (by show 3 ≤ sizeLine; decide), fun p hp => k _ p (s07.trans (Same.new hp)) (s07.free hp) ?_⟩
    rw [upd_same]
    have e : ansOf (.certain s (n : Int)) = ⟨((Kg33.safe s n).length + (Kg33.sure s n).length : Nat), [Kg33.setOf (Kg33.safe s n), Kg33.setOf (Kg33.sure s n)]⟩ := by
      show (if Kg33.askable s (n : Int) = false then Kg33.num (-8) else if Kg33.count s (n : Int).toNat = 0 then Kg33.num (-1) else ⟨((Kg33.safe s (n : Int).toNat).length + (Kg33.sure s (n : Int).toNat).length : Nat), [Kg33.setOf (Kg33.safe s (n : Int).toNat), Kg33.setOf (Kg33.sure s (n : Int).toNat)]⟩) = _
      rw [h2, if_neg (by decide), Int.toNat_natCast, if_neg h4]
    rw [e]
    have e2 : ((nvs (Kg33.safe s n)).length : Int) + ((nvs (Kg33.sure s n)).length : Int) = (((Kg33.safe s n).length + (Kg33.sure s n).length : Nat) : Int) := by rw [nvs_len, nvs_len]; omega
    show some (HO.lst [V.int (((nvs (Kg33.safe s n)).length : Int) + ((nvs (Kg33.sure s n)).length : Int)), _, _]) = _
    rw [e2]; rfl
end
end SM
end
section
set_option Elab.async false
set_option linter.all false
set_option maxRecDepth 100000
set_option maxHeartbeats 4000000
namespace SM
open PySem PySem.Spec PyProof.Rows L2
open Kg33 (has with_ near at_)

abbrev sSolve : Stmt := top 44

def spSolve : Sp := fun vs H Q _ => ∃ (m : Nat) (f : Int), vs = [.int (m : Int), .int f] ∧ ∀ H' : Hp, Same H H' → Q (.int (ansOf (.solved m f)).value) H'
def solvedV (o : Option Nat) : Int := match o with
  | some n => (n : Int)
  | none => -1
theorem ans_solved {m f : Nat} (hf : f < 60) (hm : m < 2 ^ 60) : (ansOf (.solved m (f : Int))).value = solvedV (Kg33.solved m f) := by
  have h1 : ¬ (Kg33.onBoard (f : Int) = false ∨ 2 ^ 60 ≤ m) := by
    rintro (h | h)
    · rw [onB] at h; simp at h; omega
    · omega
  show (if Kg33.onBoard (f : Int) = false ∨ 2 ^ 60 ≤ m then (-8 : Int) else _) = _
  rw [if_neg h1, Int.toNat_natCast]; rfl
theorem ans_unsolved {m : Nat} {f : Int} (h : Kg33.onBoard f = false ∨ 2 ^ 60 ≤ m) : (ansOf (.solved m f)).value = -8 := by
  show (if Kg33.onBoard f = false ∨ 2 ^ 60 ≤ m then (-8 : Int) else _) = _
  rw [if_pos h]
theorem seenOf_len (m o : Nat) : (Kg33.seenOf m o).length = 60 := by unfold Kg33.seenOf; simp
theorem seenOf_10 (m o c : Nat) : at_ (Kg33.seenOf m o) c ≤ 10 := by
  by_cases hc : c < 60
  · rw [at_seenOf hc]
    split
    · have := about_le m c hc; omega
    · omega
  · unfold Kg33.at_
    rw [List.getD_eq_getElem?_getD, List.getElem?_eq_none (by rw [seenOf_len]; omega)]
    decide
theorem size_less {o o' : Nat} (h : closedN o' < closedN o) : Kg33.size o < Kg33.size o' := by
  have h1 := size_closed o
  have h2 := size_closed o'
  omega
theorem safe_len (s : Kg33.Seen) (m : Nat) : (Kg33.safe s m).length ≤ 60 := by
  unfold Kg33.safe
  exact Nat.le_trans (List.length_filter_le _ _) (unknown_len s)
/-- where a game stands that is played without a guess -/
inductive Stands (m : Nat) (r : Option Nat) (g : Kg33.Game) (n : Nat) : Prop where
  | going : g.over = 0 → Kg33.cleared m g.open_ = false → r = Kg33.rounds m (closedN g.open_ + 1) n g.open_ → Stands m r g n
  | won : g.over = 1 → r = some n → Stands m r g n
  | lost : g.over = 2 → r = none → Stands m r g n
theorem stands_next {m n : Nat} {r : Option Nat} {g : Kg33.Game} (hm : g.mines = m) (hk : g.marks = 0) (h0 : g.over = 0) (hc : Kg33.cleared m g.open_ = false) (hr : r = Kg33.rounds m (closedN g.open_ + 1) n g.open_)
    (hs : Kg33.safe (Kg33.seenOf m g.open_) (Kg33.size m) ≠ []) : Stands m r (safeRes g (Kg33.safe (Kg33.seenOf m g.open_) (Kg33.size m))) (n + 1) ∧ closedN (safeRes g (Kg33.safe (Kg33.seenOf m g.open_) (Kg33.size m))).open_ < closedN g.open_ := by
  have q : closedN (Kg33.spread m 0 1000 (Kg33.safe (Kg33.seenOf m g.open_) (Kg33.size m)) g.open_) < closedN g.open_ := spread_more (fun c hc => safe_closed hc) hs (Nat.le_trans (safe_len _ _) (by decide))
  have e : (safeRes g (Kg33.safe (Kg33.seenOf m g.open_) (Kg33.size m))).open_ = Kg33.spread m 0 1000 (Kg33.safe (Kg33.seenOf m g.open_) (Kg33.size m)) g.open_ := by
    unfold safeRes; rw [hm, hk]
  rw [e]
  refine ⟨?_, q⟩
  have hsz := size_less q
  rw [rounds_go, if_neg (by rw [hc]; decide), if_neg hs] at hr
  cases hcl : Kg33.cleared m (Kg33.spread m 0 1000 (Kg33.safe (Kg33.seenOf m g.open_) (Kg33.size m)) g.open_) with
  | true =>
    refine .won ?_ ?_
    · unfold safeRes
      show (if _ then 1 else g.over) = 1
      rw [hm, hk, if_pos ⟨hsz, hcl⟩]
    · rw [hr, rounds_fuel _ (closedN (Kg33.spread m 0 1000 (Kg33.safe (Kg33.seenOf m g.open_) (Kg33.size m)) g.open_) + 1) _ _ q (by omega), rounds_go, if_pos hcl]
  | false =>
    refine .going ?_ ?_ ?_
    · unfold safeRes
      show (if _ then 1 else g.over) = 0
      rw [hm, hk, if_neg (fun z => by rw [hcl] at z; cases z.2)]; exact h0
    · rw [e]; exact hcl
    · rw [e, hr]
      exact rounds_fuel _ _ _ _ q (by omega)
theorem stands_first {m f : Nat} (hf : f < 60) (hm : m < 2 ^ 60) : Stands m (Kg33.solved m f) (Kg33.does (Kg33.begin_ m) (.open_ (f : Int))).1 0 ∧ (Kg33.does (Kg33.begin_ m) (.open_ (f : Int))).1.mines = m ∧ (Kg33.does (Kg33.begin_ m) (.open_ (f : Int))).1.marks = 0 := by
  have hb : Kg33.onBoard (f : Int) = true := by rw [onB]; simp; omega
  have hz : ∀ c, has 0 c = false := fun c => by unfold Kg33.has; simp
  have hsh : shut (Kg33.begin_ m) [f] = [f] := by
    unfold shut
    rw [List.filter_cons_of_pos]
    · rfl
    · show (!has 0 f && !has 0 f) = true
      rw [hz]; rfl
  rw [does_open hb rfl]
  show Stands m _ ((Kg33.begin_ m).opens [f]) 0 ∧ ((Kg33.begin_ m).opens [f]).mines = m ∧ ((Kg33.begin_ m).opens [f]).marks = 0
  cases hh : has m f with
  | true =>
    have h5 : (shut (Kg33.begin_ m) [f]).find? (has (Kg33.begin_ m).mines) = some f := by
      rw [hsh]; show [f].find? (has m) = some f
      simp [hh]
    rw [opens_hit h5]
    refine ⟨.lost rfl ?_, rfl, rfl⟩
    unfold Kg33.solved; rw [if_pos hh]
  | false =>
    have h5 : (shut (Kg33.begin_ m) [f]).find? (has (Kg33.begin_ m).mines) = none := by
      rw [hsh]; show [f].find? (has m) = none
      simp [hh]
    rw [opens_safe (by simpa using hf) (by simp) rfl h5, hsh]
    have hfl : ∀ c ∈ [f], c < 60 ∧ has 0 c = false := by
      intro c hc
      have : c = f := by simpa using hc
      subst this
      exact ⟨hf, hz _⟩
    have q : closedN (Kg33.spread m 0 1000 [f] 0) < closedN 0 := spread_more (l := [f]) hfl (by simp) (by simp)
    have hc0 := closedN_le 0
    have hsz := size_less q
    have hsol : Kg33.solved m f = Kg33.rounds m (closedN (Kg33.spread m 0 1000 [f] 0) + 1) 0 (Kg33.spread m 0 1000 [f] 0) := by
      unfold Kg33.solved
      rw [if_neg (by rw [hh]; decide)]
      exact rounds_fuel _ _ _ _ (by omega) (by omega)
    refine ⟨?_, rfl, rfl⟩
    cases hcl : Kg33.cleared m (Kg33.spread m 0 1000 [f] 0) with
    | true =>
      refine .won ?_ ?_
      · unfold safeRes
        show (if Kg33.size 0 < Kg33.size (Kg33.spread m 0 1000 [f] 0) ∧ Kg33.cleared m (Kg33.spread m 0 1000 [f] 0) = true then 1 else 0) = 1
        rw [if_pos ⟨hsz, hcl⟩]
      · rw [hsol, rounds_go, if_pos hcl]
    | false =>
      refine .going ?_ ?_ hsol
      · unfold safeRes
        show (if Kg33.size 0 < Kg33.size (Kg33.spread m 0 1000 [f] 0) ∧ Kg33.cleared m (Kg33.spread m 0 1000 [f] 0) = true then 1 else 0) = 0
        rw [if_neg (fun z => by rw [hcl] at z; cases z.2)]
      · exact hcl

/-- what is needed of the game's class -/
structure GameFns (P : Program) (w : World) (K : PySem.W.Frag) (mg : Str → Option Value) (base : Heap) (C fi fb fu fs fv : Addr) (fdi fdb fdu fds fdv : FuncData) : Prop where
  mkG : Mk K C fi
  gi : FnOk P w K mg base CX0 3 fi fdi ["self"] (spInitG C)
  bi : Binds K fdi ["self"] []
  mgG : mg "Game" = some (.ref C)
  gb : FnOk P w K mg base CX0 2 fb fdb ["self", "mines"] (spBegin C)
  bb : Binds K fdb ["self", "mines"] []
  mb : Meth K C "begin" fb
  gu : FnOk P w K mg base CX0 5 fu fdu ["self", "c"] (spMove C .open_)
  bu : Binds K fdu ["self", "c"] []
  mu : Meth K C "uncover" fu
  gs : FnOk P w K mg base CX0 4 fs fds ["self", "squares"] (spSafe K C)
  bs : Binds K fds ["self", "squares"] []
  ms : Meth K C "uncover_safe" fs
  gv : FnOk P w K mg base CX0 4 fv fdv ["self"] (spSight C)
  bv : Binds K fdv ["self"] []
  mv : Meth K C "sight" fv

theorem safeRes_ok {g : Kg33.Game} (hg : GameOk g) {cs : List Nat} (hcs : ∀ c ∈ cs, c < 60) (hl : cs.length ≤ 500) : GameOk (safeRes g cs) := by
  refine ⟨hg.m, ?_, hg.k⟩
  have M := spread_done (mines := g.mines) (marks := g.marks) (o := g.open_) hcs hl
  show Kg33.spread g.mines g.marks 1000 cs g.open_ < 2 ^ 60
  apply lt_pow_of
  intro d hd
  rcases (M.done d).1 hd with h | h
  · exact lt60 hg.o h
  · cases h with
    | start h1 _ _ => exact hcs d h1
    | step _ _ h3 _ _ => exact near_lt h3

section
variable {P : Program} {w : World} {K : PySem.W.Frag} {mg : Str → Option Value} {base : Heap} {C : Addr}
theorem scSolve : FnScope ["mines", "first", "game", "rounds", "safe"] ["mines", "first"] (defScope sSolve) := ⟨rfl, rfl, rfl, by decide +kernel, rfl, by decide +kernel, by decide +kernel⟩
theorem ok_solve {f fq fz ft fi fb fu fs fv : Addr} {fd fdq fdz fdt fdi fdb fdu fds fdv : FuncData} (F : Fun K "rounds_to_solve" "rounds_to_solve" sSolve f fd) (T : TxtG K mg C) (TS : TxtS mg) (tns : ∃ t, mg "NOT_SOLVED" = some (.int (-1) t))
    (G : GameFns P w K mg base C fi fb fu fs fv fdi fdb fdu fds fdv)
    (FQ : Fun K "is_square" "is_square" sIsSq fq fdq) (bQ : Binds K fdq ["c"] []) (mq : mg "is_square" = some (.ref fq))
    (FZ : Fun K "size" "size" sSize fz fdz) (bZ : Binds K fdz ["squares"] []) (mz : mg "size" = some (.ref fz))
    (GT : FnOk P w K mg base CX0 7 ft fdt ["m", "seen"] spSafeSq) (FT : Fun K "safe_squares" "safe_squares" sSafeSq ft fdt) (bT : Binds K fdt ["m", "seen"] []) (mt : mg "safe_squares" = some (.ref ft)) : FnOk P w K mg base CX0 8 f fd ["mines", "first"] spSolve := by
  have GQ : FnOk P w K mg base CX0 1 fq fdq ["c"] spIsSq := ok_isSq FQ TS
  have GZ : FnOk P w K mg base CX0 1 fz fdz ["squares"] spSize := ok_size FZ
  refine F.ok scSolve (fun vs H Q E h => ?_) (fun cdv A outer st H vs Q E hr h => ?_)
  · obtain ⟨m, c, rfl, _⟩ := h
    rfl
  · obtain ⟨m, c, rfl, k⟩ := h
    have hr1 : Room 1 _ := hr.mono (by decide)
    have hr2 : Room 2 _ := hr.mono (by decide)
    have hr4 : Room 4 _ := hr.mono (by decide)
    have hr5 : Room 5 _ := hr.mono (by decide)
    refine ⟨_, pss_cons (ps_if (PW.pt (pw_or (pt_not (pt_val (pe_call GQ hr1 rfl mq FQ.kp bQ .nil pass0 (pa_cons (pv 1) pa_nil)))) (pw_or1 (pt_cmpR op_ne (pe_op op_shr (pv 0) (pgl TS.sqs)) pe_int (nomark _))))) (pss_one (ps_ret (pgl T.notIn))) pss_nil)
      (pss_cons (ps_set (i := 2) scSolve.nd rfl (Or.inl rfl) (pe_make0 G.mkG G.gi hr4 rfl G.mgG G.bi .nil pass0))
      (pss_cons (ps_expr (pe_meth (pv 2) T.cl G.mb G.gb hr2 G.bb .nil pass0 (pa_cons (pv 0) pa_nil)))
      (pss_cons (ps_expr (pe_meth (pv 2) T.cl G.mu G.gu hr5 G.bu .nil pass0 (pa_cons (pv 1) pa_nil)))
      (pss_cons (ps_set (i := 3) scSolve.nd rfl (Or.inl rfl) pe_int)
      (pss_cons (ps_while PassesOwn.never (pt_cmpR op_eq (pe_fld (pv 2) rfl) (pgl T.going) (nomark _))
        (pss_cons (ps_set (i := 4) scSolve.nd rfl (Or.inl rfl) (pe_call GT hr rfl mt FT.kp bT .nil pass0 (pa_cons (pe_call GZ hr1 rfl mz FZ.kp bZ .nil pass0 (pa_cons (pv 0) pa_nil)) (pa_cons (pe_meth0 (pv 2) T.cl G.mv G.gv hr4 G.bv .nil pass0) pa_nil))))
        (pss_cons (ps_if (pt_cmpR op_eq (pe_callB call_len_seq rfl TS.len PySem.boot_len (pa_cons (pv 4) pa_nil)) pe_int (nomark _)) (pss_one (ps_ret (pgl tns))) pss_nil)
        (pss_cons (ps_expr (pe_meth (pv 2) T.cl G.ms G.gs hr4 G.bs .nil pass0 (pa_cons (pv 4) pa_nil)))
        (pss_one (ps_set (i := 3) scSolve.nd rfl (Or.inl rfl) (pe_op op_add (pv 3) pe_int)))))))
      (pss_one (ps_ret (pe_ifExp (pt_cmpR op_eq (pe_fld (pv 2) rfl) (pgl T.won) (nomark _)) (pv 3) (pgl tns))))))))), ?_⟩
    have e0 : (m : Int) / 2 ^ ((60 : Int)).toNat = ((m / 2 ^ 60 : Nat) : Int) := by
      rw [show ((60 : Int)).toNat = 60 from rfl]; omega
    refine ⟨_, rfl, c, rfl, _, rfl, ite2 (fun h1 => iteT ?_) fun h1 => ?_⟩
    · have h2 : Kg33.onBoard c = false := by
        rw [onB]; cases x : decide (0 ≤ c) <;> cases y : decide (c < 60) <;> simp [x, y] at h1 ⊢
      have := k H (Same.refl H)
      rw [ans_unsolved (.inl h2)] at this
      exact this
    have h2 : Kg33.onBoard c = true := by rw [onB]; simpa using h1
    obtain ⟨cn, rfl, hc60⟩ : ∃ n : Nat, c = (n : Int) ∧ n < 60 := by
      rw [onB] at h2
      simp at h2
      exact ⟨c.toNat, by omega, by omega⟩
    refine ⟨_, rfl, _, _, rfl, rfl, (by show (0 : Int) ≤ 60; decide), rfl, _, rfl, ite2 (fun h3 => ?_) fun h3 => ?_⟩
    · have h4 : 2 ^ 60 ≤ m := by
        have h3 : (m : Int) / 2 ^ ((60 : Int)).toNat ≠ 0 := vne_t h3
        rw [e0] at h3
        apply Classical.byContradiction
        intro e
        rw [Nat.div_eq_of_lt (by omega)] at h3
        exact h3 rfl
      have := k H (Same.refl H)
      rw [ans_unsolved (.inr h4)] at this
      exact this
    have hm60 : m < 2 ^ 60 := by
      have h3 : (m : Int) / 2 ^ ((60 : Int)).toNat = 0 := vne_f h3
      rw [e0] at h3
      apply Classical.byContradiction
      intro e
      have : 0 < m / 2 ^ 60 := Nat.div_pos (by omega) (by decide)
      omega
    have kk : ∀ H' : Hp, Same H H' → Q (.int (solvedV (Kg33.solved m cn))) H' := by
      intro H' s'
      have := k H' s'
      rw [ans_solved hc60 hm60] at this
      exact this
    -- Game()
    intro ga dg ng ndg neg
    refine ⟨ga, dg, rfl, upd_same, fun H1 k1 g1 => ⟨rfl, ?_⟩⟩
    have s1 : Same H H1 := Same.made ng ndg k1
    obtain ⟨dx1, g1⟩ := g1
    -- begin
    refine ⟨_, rfl, ga, dx1, _, rfl, g1, rfl, _, rfl, ga, dx1, _, m, rfl, g1, .inr ⟨_, rfl⟩, fun z => by omega, fun _ H2 k2 g2 => ?_⟩
    obtain ⟨dx2, g2⟩ := g2
    have keepS : ∀ {Hx Hy : Hp}, Same H Hx → Keep ga Hx Hy → Same H Hy := fun sx kx b o hb => kx _ _ (sx _ _ hb) (ne_of_none hb ng)
    have s2 := keepS s1 k2
    -- open
    have hgo : GameOk (Kg33.begin_ m) := ⟨hm60, by show 0 < 2 ^ 60; decide, by show 0 < 2 ^ 60; decide⟩
    refine ⟨_, rfl, ga, dx2, _, rfl, g2, rfl, _, rfl, ga, Kg33.begin_ m, (cn : Int), rfl, ⟨dx2, g2⟩, hgo, fun H3 k3 g3 => ?_⟩
    have s3 := keepS s2 k3
    obtain ⟨st0, hmi, hma⟩ := stands_first hc60 hm60
    have hok := does_ok hgo (.open_ (cn : Int))
    generalize hgx : (Kg33.does (Kg33.begin_ m) (.open_ (cn : Int))).1 = gx at g3 st0 hmi hma hok
    generalize Kg33.solved m cn = r at kk st0
    refine ⟨fun mm σ H' => ∃ (g : Kg33.Game) (n : Nat) (v : Option V), σ = [some (.int (m : Int)), some (.int (cn : Int)), some (.ref ga), some (.int (n : Int)), v] ∧ Same H H' ∧ GameAt C H' ga g ∧ GameOk g ∧ g.mines = m ∧ g.marks = 0 ∧ Stands m r g n ∧ mm = closedN g.open_,
      ⟨closedN gx.open_, gx, 0, none, rfl, s3, g3, hok, hmi, hma, st0, rfl⟩, ?_⟩
    rintro mm σ H4 ⟨g, n, v, rfl, s4, ⟨dx4, g4⟩, ok4, hmi, hma, st4, rfl⟩
    refine ⟨_, rfl, ga, C, dx4, _, _, rfl, g4, T.cl, T.nS, gf_state g, rfl, _, rfl, ite2 (fun h5 => ?_) fun h5 => ?_⟩
    · have h6 : g.over = 0 := by have := veq_t h5; omega
      obtain ⟨hcl, hr4'⟩ : Kg33.cleared m g.open_ = false ∧ r = Kg33.rounds m (closedN g.open_ + 1) n g.open_ := by
        cases st4 with
        | going _ a b => exact ⟨a, b⟩
        | won a _ => omega
        | lost a _ => omega
      refine ⟨fun σ' H' => ∃ m', m' < closedN g.open_ ∧ ∃ (g : Kg33.Game) (n : Nat) (v : Option V), σ' = [some (.int (m : Int)), some (.int (cn : Int)), some (.ref ga), some (.int (n : Int)), v] ∧ Same H H' ∧ GameAt C H' ga g ∧ GameOk g ∧ g.mines = m ∧ g.marks = 0 ∧ Stands m r g n ∧ m' = closedN g.open_, fun _ _ z => z, ?_⟩
      refine ⟨_, rfl, m, rfl, hm60, _, rfl, ga, dx4, _, rfl, g4, rfl, ga, g, rfl, ⟨dx4, g4⟩, fun H5 p5 s5 hp5 h7 => ?_⟩
      rw [hmi] at h7
      refine ⟨Kg33.size m, p5, Kg33.seenOf m g.open_, rfl, h7, seenOf_len _ _, seenOf_10 _ _, fun H6 p6 s6 hp6 h8 => ?_⟩
      have s46 := s5.trans s6
      have g6 := s46 _ _ g4
      refine ⟨_, rfl, p6, _, rfl, .inl (SqL.of h8), rfl, _, rfl, ite2 (fun h9 => ?_) fun h9 => ?_⟩
      · have h10 : Kg33.safe (Kg33.seenOf m g.open_) (Kg33.size m) = [] := by
          have := veq_t h9
          rw [nvs_len] at this
          exact List.eq_nil_of_length_eq_zero (by omega)
        have h11 : r = none := by
          rw [hr4', rounds_go, if_neg (by rw [hcl]; decide), if_pos h10]
        have := kk H6 (s4.trans s46)
        rw [h11] at this
        exact this
      · have h10 : Kg33.safe (Kg33.seenOf m g.open_) (Kg33.size m) ≠ [] := by
          intro z
          have := veq_f h9
          rw [nvs_len, z] at this
          exact this rfl
        obtain ⟨st', hlt⟩ := stands_next hmi hma h6 hcl hr4' h10
        have hcs : ∀ d ∈ Kg33.safe (Kg33.seenOf m g.open_) (Kg33.size m), d < 60 := fun d hd => (safe_closed hd).1
        refine ⟨_, rfl, ga, dx4, _, rfl, g6, rfl, _, rfl, ga, p6, g, Kg33.safe (Kg33.seenOf m g.open_) (Kg33.size m), rfl, ⟨dx4, g6⟩, ok4, SqL.of h8, safe_len _ _, hcs, fun H7 k7 g7 => ?_⟩
        refine ⟨_, rfl, _, _, rfl, rfl, _, hlt, safeRes g (Kg33.safe (Kg33.seenOf m g.open_) (Kg33.size m)), n + 1, some (.ref p6), ?_, keepS (s4.trans s46) k7, g7, safeRes_ok ok4 hcs (Nat.le_trans (safe_len _ _) (by decide)), hmi, hma, st', rfl⟩
        rfl
    · have h6 : ¬ g.over = 0 := by have := veq_f h5; omega
      refine ⟨_, rfl, ga, C, dx4, _, _, rfl, g4, T.cl, T.nS, gf_state g, rfl, _, rfl, ite2 (fun h7 => ?_) fun h7 => ?_⟩
      · have h8 : g.over = 1 := by have := veq_t h7; omega
        have h9 : r = some n := by
          cases st4 with
          | going a _ _ => omega
          | won _ b => exact b
          | lost a _ => omega
        have := kk H4 s4
        rw [h9] at this
        exact ⟨_, rfl, this⟩
      · have h8 : ¬ g.over = 1 := by have := veq_f h7; omega
        have h9 : r = none := by
          cases st4 with
          | going a _ _ => omega
          | won a _ => omega
          | lost _ b => exact b
        have := kk H4 s4
        rw [h9] at this
        exact this
end
end SM
end
section
set_option Elab.async false
set_option linter.all false
set_option maxRecDepth 100000
set_option maxHeartbeats 4000000
namespace SM
open PySem PySem.Spec PyProof.Rows L2
open Kg33 (has with_ near at_)

abbrev sAns : Stmt := top 56
abbrev sAnsTo : Stmt := top 57
abbrev sAnsGame : Stmt := top 58
abbrev sAnsSight : Stmt := top 59

structure TxtB (mg : Str → Option Value) : Prop where
  begin_ : ∃ t, mg "BEGIN" = some (.int 0 t)
  open_ : ∃ t, mg "OPEN" = some (.int 1 t)
  mark : ∃ t, mg "MARK" = some (.int 2 t)
  about : ∃ t, mg "ABOUT" = some (.int 3 t)
  tell : ∃ t, mg "TELL" = some (.int 4 t)
  count : ∃ t, mg "COUNT" = some (.int 5 t)
  each : ∃ t, mg "EACH" = some (.int 6 t)
  certain : ∃ t, mg "CERTAIN" = some (.int 7 t)
  best : ∃ t, mg "BEST" = some (.int 8 t)

/-! ### one call, its numbers -/
inductive GameCall : List Int → Int → Kg33.Call → Prop where
  | begin_ (m : Nat) : GameCall [(m : Int)] 0 (.begin_ m)
  | open_ (c : Int) : GameCall [c] 1 (.open_ c)
  | mark (c : Int) : GameCall [c] 2 (.mark c)
  | about (c : Int) : GameCall [c] 3 (.about c)
  | tell : GameCall [] 4 .tell
inductive SightCall : Int → (Kg33.Seen → Int → Kg33.Call) → Prop where
  | count : SightCall 5 .count
  | each : SightCall 6 .each
  | certain : SightCall 7 .certain
  | best : SightCall 8 .best
inductive OkC : List Int → Kg33.Call → Prop where
  | game {zs : List Int} {p : Int} {x : Kg33.Call} : GameCall zs p x → OkC (p :: zs) x
  | sight {p m : Int} {mk : Kg33.Seen → Int → Kg33.Call} {s : Kg33.Seen} : SightCall p mk → s.length = 60 → OkC (p :: m :: 60 :: s.map fun n : Nat => (n : Int)) (mk s m)
  | solved (m : Nat) (c : Int) : OkC [9, (m : Int), c] (.solved m c)
def lens : List (Int × PyData) := [(0, .int 2), (1, .int 2), (2, .int 2), (3, .int 2), (4, .int 1), (5, .int 63), (6, .int 63), (7, .int 63), (8, .int 63), (9, .int 3)]
theorem okC_len {xs : List Int} {x : Kg33.Call} (h : OkC xs x) : ∃ p r, xs = p :: r ∧ KTD.datumAt p lens = some (.int (xs.length : Int)) := by
  cases h with
  | game g => cases g <;> exact ⟨_, _, rfl, rfl⟩
  | sight g hs =>
    rename_i p m mk s
    refine ⟨_, _, rfl, ?_⟩
    have e : (s.map fun n : Nat => (n : Int)).length = 60 := by rw [List.length_map, hs]
    rw [List.length_cons, List.length_cons, List.length_cons, e]
    cases g <;> rfl
  | solved m c => exact ⟨_, _, rfl, rfl⟩
theorem nat_of {z : Int} (h : Kg33Neutral.natural z = true) : z = (z.toNat : Int) := by
  unfold Kg33Neutral.natural NeutralIO.within at h
  simp at h
  omega
theorem one_split {l t : List Int} {c : List (List Int)} (h : One l c t) : ∃ xs x, l = xs ++ t ∧ OkC xs x ∧ ∀ g, Kg33Neutral.step g c = ((Kg33.does g x).1, (Kg33.does g x).2.value :: (Kg33.does g x).2.out.map fun n : Nat => (n : Int)) := by
  cases h with
  | mv hp =>
    rename_i p z
    rcases hp with ⟨rfl, hz⟩ | ⟨rfl | rfl | rfl, hz⟩
    · refine ⟨[0, z], .begin_ z.toNat, rfl, ?_, fun g => rfl⟩
      have := OkC.game (GameCall.begin_ z.toNat)
      rw [← nat_of hz] at this
      exact this
    · exact ⟨[1, z], .open_ z, rfl, .game (.open_ z), fun g => rfl⟩
    · exact ⟨[2, z], .mark z, rfl, .game (.mark z), fun g => rfl⟩
    · exact ⟨[3, z], .about z, rfl, .game (.about z), fun g => rfl⟩
  | tell => exact ⟨[4], .tell, rfl, .game .tell, fun g => rfl⟩
  | look hp hm hs =>
    rename_i p m s
    have hs' := hs
    unfold Kg33Neutral.seen at hs'
    rw [Bool.and_eq_true] at hs'
    have h1 : s.length = 60 := eq_of_beq hs'.1
    have h2 : s = (Kg33Neutral.nats s).map fun n : Nat => (n : Int) := by
      unfold Kg33Neutral.nats
      rw [List.map_map]
      have h3 := hs'.2
      unfold NeutralIO.bytes at h3
      rw [List.all_eq_true] at h3
      have : s.map ((fun n : Nat => (n : Int)) ∘ Int.toNat) = s.map id := by
        apply List.map_congr_left
        intro z hz
        have := h3 z hz
        unfold NeutralIO.within at this
        simp at this
        show ((z.toNat : Nat) : Int) = z
        omega
      rw [this, List.map_id]
    have h3 : (Kg33Neutral.nats s).length = 60 := by unfold Kg33Neutral.nats; rw [List.length_map]; exact h1
    have key : ∀ mk, SightCall p mk → OkC (p :: m :: 60 :: s) (mk (Kg33Neutral.nats s) m) := by
      intro mk hk
      have := OkC.sight (m := m) hk h3
      rw [← h2] at this
      exact this
    rcases hp with rfl | rfl | rfl | rfl
    · exact ⟨_, _, rfl, key _ .count, fun g => rfl⟩
    · exact ⟨_, _, rfl, key _ .each, fun g => rfl⟩
    · exact ⟨_, _, rfl, key _ .certain, fun g => rfl⟩
    · exact ⟨_, _, rfl, key _ .best, fun g => rfl⟩
  | solved hm hc =>
    rename_i m c
    refine ⟨[9, m, c], .solved m.toNat c, rfl, ?_, fun g => rfl⟩
    have := OkC.solved m.toNat c
    rw [← nat_of hm] at this
    exact this

theorem ansV_eq (x : Kg33.Ans) : ansV x = (x.value :: x.out.map fun n : Nat => (n : Int)).map V.int := by
  unfold ansV nvs
  rw [List.map_cons, List.map_map]; rfl
theorem out_len (g : Kg33.Game) (x : Kg33.Call) : (Kg33.does g x).2.out.length ≤ 60 := by
  cases x with
  | begin_ m =>
    show ((if _ then _ else _ : Kg33.Game × Kg33.Ans)).2.out.length ≤ 60
    split <;> exact Nat.zero_le _
  | open_ c =>
    show ((if _ then _ else if _ then _ else _ : Kg33.Game × Kg33.Ans)).2.out.length ≤ 60
    split
    · exact Nat.zero_le _
    · split <;> exact Nat.zero_le _
  | mark c =>
    show ((if _ then _ else if _ then _ else if _ then _ else if _ then _ else _ : Kg33.Game × Kg33.Ans)).2.out.length ≤ 60
    repeat' split
    all_goals exact Nat.zero_le _
  | about c =>
    show ((if _ then _ else if _ then _ else if _ then _ else _ : Kg33.Game × Kg33.Ans)).2.out.length ≤ 60
    repeat' split
    all_goals exact Nat.zero_le _
  | tell => show 2 ≤ 60; decide
  | count s m => exact Nat.zero_le _
  | each s m =>
    show (if _ then _ else if _ then _ else _ : Kg33.Ans).out.length ≤ 60
    split
    · exact Nat.zero_le _
    · split
      · exact Nat.zero_le _
      · show ((List.range 60).map _).length ≤ 60
        simp
  | certain s m =>
    show (if _ then _ else if _ then _ else _ : Kg33.Ans).out.length ≤ 60
    split
    · exact Nat.zero_le _
    · split
      · exact Nat.zero_le _
      · show 2 ≤ 60; decide
  | best s m => exact Nat.zero_le _
  | solved m c => exact Nat.zero_le _
end SM
end
section
set_option Elab.async false
set_option linter.all false
set_option maxRecDepth 100000
set_option maxHeartbeats 4000000
namespace SM
open PySem PySem.Spec PyProof.Rows L2
open PySem.W (tabObj CodeHd kla_fn kla_obj kla_eval kla_makeFunction kla_makeFunctionHit kla_callFunE kla_codeExpr envX)

/-! ### a code's table, followed as it grows -/
def TabE (P : Addr) (ps : Array Value) : HO := .ext fun h => h.get? P = some (tabObj ps)
def CodE (c : Addr) (q : Str) : HO := .ext fun h => h.CodeRec (.ref c) q
def tri (pos : Pos) (c : Addr) : Array Value := #[] ++ #[rawInt pos.line, rawInt pos.col, .ref c]
def TblOk (P : Addr) (pos : Pos) (q : Str) (H : Hp) : Prop := H P = some (TabE P #[]) ∨ ∃ c, c ≠ P ∧ H P = some (TabE P (tri pos c)) ∧ H c = some (CodE c q)
def SameT (P : Addr) (H H' : Hp) : Prop := ∀ b o, H b = some o → b ≠ P → H' b = some o
theorem SameT.of {P : Addr} {H H' : Hp} (s : Same H H') : SameT P H H' := fun b o e _ => s b o e
theorem SameT.trans {P : Addr} {H H1 H2 : Hp} (a : SameT P H H1) (b : SameT P H1 H2) : SameT P H H2 := fun c o e n => b c o (a c o e n) n
theorem TblOk.same {P : Addr} {pos : Pos} {q : Str} {H H' : Hp} (t : TblOk P pos q H) (s : Same H H') : TblOk P pos q H' := by
  rcases t with t | ⟨c, n, t1, t2⟩
  · exact .inl (s _ _ t)
  · exact .inr ⟨c, n, s _ _ t1, s _ _ t2⟩
theorem TblOk.some {P : Addr} {pos : Pos} {q : Str} {H : Hp} (t : TblOk P pos q H) : ∃ o, H P = some (.ext o) := by
  rcases t with t | ⟨c, _, t, _⟩
  · exact ⟨_, t⟩
  · exact ⟨_, t⟩
theorem SameT.free {P : Addr} {pos : Pos} {q : Str} {H H' : Hp} (s : SameT P H H') (t : TblOk P pos q H') {a : Addr} (h : H' a = none) : H a = none := by
  cases e : H a with
  | none => rfl
  | some o =>
    by_cases ha : a = P
    · obtain ⟨φ, z⟩ := t.some
      rw [ha, z] at h; cases h
    · rw [s a o e ha] at h; cases h
theorem tabE_ok {P : Program} {w : World} {H : Hp} {h : Heap} {T : Addr} {ps : Array Value} (e : h.get? T = some (tabObj ps)) : ObjOk P w H h T (TabE T ps) :=
  ⟨e, ⟨_, e⟩, fun h1 h2 p k => k _ p⟩
theorem codE_ok {P : Program} {w : World} {H : Hp} {h : Heap} {c : Addr} {q : Str} (e : h.CodeRec (.ref c) q) : ObjOk P w H h c (CodE c q) := by
  refine ⟨e, ?_, fun h1 h2 p k => ?_⟩
  · obtain ⟨c', o, vs, t, e1, e2, _⟩ := e
    cases e1
    exact ⟨_, e2⟩
  · obtain ⟨c', o, vs, t, e1, e2, e3⟩ := p
    cases e1
    exact ⟨_, o, vs, t, rfl, k _ e2, e3⟩

section
variable {X : Cx} {pins : List (Addr × Obj)} {σ : L2.St} {H : Hp} {s : Shared}

/-- a lambda is made: its code at the first time, too -/
theorem lam_made {P c : Addr} {pos : Pos} {q : Str} {ps : Arguments} {body : Expr} {sc : Scope} {clos : List (Str × Addr)} {Q : Value → Shared → Prop} (I : Inv X pins σ H s) (T : TblOk P pos q H) (hcode : X.env.code = .ref c) (hC : CodeHd s.heap c P) (hB : s.heap.BuiltinsAt X.mg P)
    (hcl : closureFor sc X.env = pure clos) (hdef : defaultsOf ps X.env = ([], [])) (hq : X.env.qual ++ "<lambda>" = q)
    (fin : ∀ (f c' : Addr) (ctv pm : Value) (H' : Hp) (s' : Shared), Inv X pins σ H' s' → SameT P H H' → TblOk P pos q H' → s'.heap.get? f = some { cls := .type "function", data := .func (kla_fn "<lambda>" q ps body sc clos pm (.ref c') ctv) } → s'.heap.CodeRec (.ref c') q → f ≠ X.env.locals → Q (.ref f) s') :
    wpAny (model X.prog X.w) X.A (eval (.Lambda ps body sc pos) X.env) Q X.xe s := by
  refine kla_eval hdef ?_
  rw [hq]
  have hg : s.heap.Ns mainGlobals X.mg := I.mod.glob.keeps I.bk
  have hLs := I.lt
  rcases T with t | ⟨c', hcP, t1, t2⟩
  · have hP : s.heap.get? P = some (tabObj #[]) := (I.hok P _ t).1
    have hgP : mainGlobals ≠ P := fun z => by
      obtain ⟨o, es, ep, e, hd, _⟩ := hg
      rw [z, hP] at e; cases e; cases hd
    refine kla_makeFunction (mg := X.mg) hcl I.ok.glob hg hcode hC hP trivial rfl hgP hB fun c' ctv h' tk hx hge hlt hrec htb => ?_
    have hc0 : H c' = none := I.hok.fresh hge
    have hcP : c' ≠ P := fun z => by rw [z, t] at hc0; cases hc0
    let H2 : Hp := L2.upd (L2.upd H P (TabE P (tri pos c'))) c' (CodE c' q)
    have hH2 : ∀ b, b ≠ P → b ≠ c' → H2 b = H b := fun b n1 n2 => by
      show L2.upd (L2.upd H P _) c' _ b = _
      rw [upd_ne n2, upd_ne n1]
    have neP : ∀ b o, H b = some o → (∀ φ, o ≠ .ext φ) → b ≠ P := fun b o e n z => by
      rw [z, t] at e; exact n _ (Option.some.inj e).symm
    have neC : ∀ b o, H b = some o → b ≠ c' := fun b o e => ne_of_none e hc0
    have I2 : Inv X pins σ H2 { s with heap := h', toks := tk } := by
      refine I.un ⟨fun b o e n _ _ => ?_, fun b o e n _ _ => ?_, fun b o e n _ => ?_, fun b o e _ => ?_, fun b xs e => ?_, fun b o u e => ?_, fun b ps e => ?_⟩ ?_
      · exact hx b o (fun z => by rw [z, t] at n; cases n) e
      · exact ⟨o.slots, hx b o (fun z => by rw [z, t] at n; cases n) e⟩
      · rw [hH2 b (fun z => by rw [z, t] at n; cases n) (Nat.ne_of_lt (Nat.lt_of_lt_of_le (Heap.lt_size e) hge))]; exact n
      · by_cases hb : b = P
        · exact ⟨_, by rw [hb]; exact htb⟩
        · exact ⟨o, hx b o hb e⟩
      · rw [hH2 b (neP b _ e (by intro φ z; cases z)) (neC b _ e)]; exact e
      · rw [hH2 b (neP b _ e (by intro φ z; cases z)) (neC b _ e)]; exact e
      · exact ⟨#[], by rw [hH2 b (neP b _ e (by intro φ z; cases z)) (neC b _ e), e]; simp⟩
      · intro b u e
        by_cases hb : b = c'
        · subst hb
          have e' : CodE b q = u := by
            have : H2 b = some (CodE b q) := upd_same
            rw [this] at e; exact Option.some.inj e
          subst e'
          exact codE_ok hrec
        · by_cases hbP : b = P
          · subst hbP
            have e' : TabE b (tri pos c') = u := by
              have : H2 b = some (TabE b (tri pos c')) := by
                show L2.upd (L2.upd H b _) c' _ b = _
                rw [upd_ne hb, upd_same]
              rw [this] at e; exact Option.some.inj e
            subst e'
            exact tabE_ok htb
          · rw [hH2 b hbP hb] at e
            refine (I.hok b u e).stay (fun d v hd hv => hx d v ?_ hv) (fun d hd => ?_) (fun d xs hd => ?_)
            · rcases hd with rfl | hd
              · exact hbP
              · exact neP d _ hd (by intro φ z; cases z)
            · rw [hH2 d (neP d _ hd (by intro φ z; cases z)) (neC d _ hd)]; exact hd
            · rw [hH2 d (neP d _ hd (by intro φ z; cases z)) (neC d _ hd)]; exact hd
    have I3 : Inv X pins σ H2 { s with heap := h'.push (kla_obj "<lambda>" q ps body sc clos ((X.mg "__name__").getD .none) c' ctv), toks := tk } := I2.kept (t' := tk) fun b o e => Heap.get?_push_of_some _ e
    refine fin h'.objs.size c' ctv _ H2 _ I3 (fun b o e n => by rw [hH2 b n (neC b o e)]; exact e) (.inr ⟨c', hcP, ?_, upd_same⟩) (Heap.get?_push_size _ rfl) (hrec.keeps fun b o e => Heap.get?_push_of_some _ e) (Nat.ne_of_gt (Nat.lt_trans (Nat.lt_of_lt_of_le hLs hge) hlt))
    show L2.upd (L2.upd H P _) c' _ P = _
    rw [upd_ne hcP.symm, upd_same]
  · have hP : s.heap.get? P = some (tabObj (tri pos c')) := (I.hok P _ t1).1
    have hrec : s.heap.CodeRec (.ref c') q := (I.hok c' _ t2).1
    refine kla_makeFunctionHit (mg := X.mg) (cv := .ref c') hcl I.ok.glob hg hcode hC hP ?_ ?_ hB fun ctv h' tk hk hsz => ?_
    · show TriplesOk [rawInt pos.line, rawInt pos.col, .ref c']
      trivial
    · show codeAmong pos [rawInt pos.line, rawInt pos.col, .ref c'] = _
      simp [codeAmong, rawInt]
    · have I2 : Inv X pins σ H { s with heap := h'.push { cls := .type "function", data := .func (kla_fn "<lambda>" q ps body sc clos ((X.mg "__name__").getD .none) (.ref c') ctv) }, toks := tk } := I.kept (t' := tk) fun b o e => Heap.get?_push_of_some _ (hk b o e)
      exact fin h'.objs.size c' ctv _ H _ I2 (fun b o e _ => e) (.inr ⟨c', hcP, t1, t2⟩) (Heap.get?_push_size _ rfl) (hrec.keeps fun b o e => Heap.get?_push_of_some _ (hk b o e)) (Nat.ne_of_gt (Nat.lt_of_lt_of_le hLs hsz))

def lamArgs (pa : Pos) : Arguments := { posonlyargs := [], args := [{ arg := "c", annotation := none, pos := pa : Arg }], vararg := none, kwonlyargs := [], kw_defaults := [], kwarg := none, defaults := [] }
def lamBody (p1 p2 p3 : Pos) : Expr := .Subscript (.Name "many" p1) (.Name "c" p2) p3
def lamScope : Scope := { kind := .function, names := [(Str.ofString "c", .local), (Str.ofString "many", .free)], isGenerator := false, isCoroutine := false, more := [] }

/-- min of a list of squares by what the lambda looks up -/
theorem min_lam {f c' cc l pM : Addr} {q : Str} {pa p1 p2 p3 : Pos} {pm ctv : Value} {cs ms : List Nat} {Q : Value → Shared → Prop} (I : Inv X pins σ H s) (hcalm : X.calm = true) (hroom : X.A.depth < recursionLimit)
    (hf : s.heap.get? f = some { cls := .type "function", data := .func (kla_fn "<lambda>" q (lamArgs pa) (lamBody p1 p2 p3) lamScope [("many", cc)] pm (.ref c') ctv) }) (hcd : s.heap.CodeRec (.ref c') q) (hfL : f ≠ X.env.locals)
    (hcell : s.heap.IsCell cc (some (.ref pM))) (hccL : cc ≠ X.env.locals) (hl : H l = some (.lst (nvs cs))) (hm : H pM = some (.lst (nvs ms))) (hlt : ∀ c ∈ cs, c < ms.length) (hms : ms.length ≤ 1000) (hne : 0 < cs.length)
    (fin : ∀ (i z : Nat) (t : Tok) (s' : Shared), cs[i]? = some z → (∀ j d, cs[j]? = some d → ms.getD z 0 ≤ ms.getD d 0 ∧ (j < i → ms.getD z 0 < ms.getD d 0)) → Inv X pins σ H s' → Q (.int (z : Int) t) s') :
    wpAny (model X.prog X.w) X.A (call (.builtin "min") [.ref l] [(Str.ofString "key", .ref f)]) Q X.xe s := by
  obtain ⟨mL, hn, hloc⟩ := id I.loc
  obtain ⟨_, its, n, r, el⟩ := I.hok l _ hl
  obtain ⟨_, itm, n2, r2, em⟩ := I.hok pM _ hm
  have lL : l ≠ X.env.locals := ne_of_none hl I.free
  have mLn : pM ≠ X.env.locals := ne_of_none hm I.free
  have hlen : its.length = cs.length := by rw [← r.length, nvs_len]
  let h0 : Heap := {}
  have h0n : ∀ b, h0.get? b = none := fun b => Heap.get?_none_of_le (Nat.zero_le _)
  have kept : ∀ {h : Heap} {own : List (Addr × Obj)}, News h0 X.env.locals h (allNews h0 s.heap X.env.locals ++ own) → ∀ b o, b ≠ X.env.locals → s.heap.get? b = some o → h.get? b = some o := fun N b o nb e =>
    (N (b, o) (List.mem_append_left _ (mem_allNews nb (h0n b) e))).1
  have kept0 : ∀ {h : Heap}, News h0 X.env.locals h (allNews h0 s.heap X.env.locals) → ∀ b o, b ≠ X.env.locals → s.heap.get? b = some o → h.get? b = some o := fun N b o nb e =>
    (N (b, o) (mem_allNews nb (h0n b) e)).1
  have itat : ∀ (i : Nat) (v : Value), its[i]? = some v → ∃ c t, cs[i]? = some c ∧ v = .int (c : Int) t := by
    intro i v hv
    have hi : i < cs.length := by
      have := (List.getElem?_eq_some_iff.1 hv).1
      omega
    have h1 : (nvs cs)[i]? = some (.int ((cs[i]) : Int)) := by
      unfold nvs; rw [List.getElem?_map, List.getElem?_eq_getElem hi]; rfl
    obtain ⟨u, hu, ru⟩ := r.get h1
    rw [hv] at hu
    cases hu
    obtain ⟨t, e⟩ := ru
    exact ⟨cs[i], t, List.getElem?_eq_getElem hi, e⟩
  refine kmk_min (h₀ := h0) (L := X.env.locals) (m := mL) (news := allNews h0 s.heap X.env.locals) (vs := its) (fun i => ((ms.getD (cs.getD i 0) 0 : Nat) : Int)) (I.ok.hd hcalm) ⟨hn, fun b o e => (by rw [h0n] at e; cases e), Nat.zero_le _⟩ news_all
    (fun h F N => ⟨_, kept0 N l _ lL el, rfl, _, rfl⟩) (by omega) (fun i v hv h tk own F N => ?_) fun i v h' tk' hv hbest F N => ?_
  · -- a turn
    obtain ⟨c, t, hc, rfl⟩ := itat i v hv
    have hcm := hlt c (List.mem_of_getElem? hc)
    have hk := kept N
    have hnl : h.NoLimit := I.ok.mod.nolimit.keeps fun b o e => hk b o (Nat.ne_of_lt (Nat.lt_of_lt_of_le (Heap.lt_size e) (Nat.le_trans I.ok.bsz I.ok.above))) (I.bk b o e)
    have hcL : c' ≠ X.env.locals := fun z => by
      obtain ⟨c2, o, vs, tq, e1, e2, e3, _⟩ := hcd
      cases e1
      obtain ⟨o2, es, ep, e4, e5, _⟩ := hn
      rw [z, e4] at e2; cases e2
      rw [e5] at e3; cases e3
    have hcd' : h.CodeRec (.ref c') q := by
      obtain ⟨c2, o, vs, tq, e1, e2, e3⟩ := hcd
      cases e1
      exact ⟨_, o, vs, tq, rfl, hk _ _ hcL e2, e3⟩
    have hcell' : h.IsCell cc (some (.ref pM)) := by
      obtain ⟨o, e1, e2⟩ := hcell
      exact ⟨o, hk _ _ hccL e1, e2⟩
    refine wpAny_call (kla_callFunE (A := X.A.in1) hroom (hk _ _ hfL hf) rfl rfl rfl rfl hcd' ?_)
    have hbind : bindArgs (kla_fn "<lambda>" q (lamArgs pa) (lamBody p1 p2 p3) lamScope [("many", cc)] pm (.ref c') ctv) ⟨[.int (c : Int) t], []⟩ = (pure [(("c" : Str), Value.int (c : Int) t)] : Sem (List (Str × Value))) := rfl
    rw [hbind]
    refine wpAny_pure (wpAny_newFunctionEnv (fun x hx => ?_) (fun x hx => ?_) (fun h₁ hns hsb => ⟨hnl.fresh _ hsb, ?_⟩) rfl)
    · have hx : x = (Str.ofString "c", NameKind.local) ∨ x = (Str.ofString "many", NameKind.free) := by simpa [lamScope] using hx
      rcases hx with rfl | rfl <;> intro z <;> cases z
    · have hx : x = (("c" : Str), Value.int (c : Int) t) := by simpa using hx
      subst hx; rfl
    · show codeAny _ _ (.expr (lamBody p1 p2 p3) (envX q lamScope h.objs.size f (.ref c') [("many", cc)])) _ _
      have hk₁ : ∀ b o, h.get? b = some o → h₁.get? b = some o := fun b o e => hsb.extBut b o (Nat.ne_of_lt (Heap.lt_size e)) (Heap.get?_push_of_some _ e)
      refine kla_codeExpr ?_
      refine Subscript_ (wpAny_Name (wpAny_loadName_free rfl rfl rfl (v := .ref pM) ?_ ?_))
      · obtain ⟨o, e1, e2⟩ := hcell'
        exact ⟨o, hk₁ _ _ e1, e2⟩
      refine wpAny_Name (wpAny_loadName_local (v := .int (c : Int) t) rfl rfl hns rfl ?_)
      have h3 : (nvs ms)[c]? = some (.int ((ms.getD c 0 : Nat) : Int)) := by
        unfold nvs; rw [List.getElem?_map, List.getD_eq_getElem?_getD, List.getElem?_eq_getElem hcm]; rfl
      obtain ⟨u, hu, ru⟩ := r2.get h3
      obtain ⟨t2, rfl⟩ := ru
      refine item_listR (items := itm.toArray) (x := .int ((ms.getD c 0 : Nat) : Int) t2) ⟨_, hk₁ _ _ (hk _ _ mLn em), rfl, _, rfl⟩ (Int.natCast_nonneg _) (by omega) (by rw [Int.toNat_natCast]; simpa using hu) ?_ rfl
      have e3 : cs.getD i 0 = c := by rw [List.getD_eq_getElem?_getD, hc]; rfl
      refine ⟨h₁, _, t2, rfl, by rw [e3], ⟨F.ns.keeps hk₁, fun b o e => (by rw [h0n] at e; cases e), Nat.zero_le _⟩, fun p hp => ⟨hk₁ _ _ (N p hp).1, (N p hp).2⟩⟩
  · obtain ⟨z, t, hz, rfl⟩ := itat i v hv
    have hk := kept0 N
    have I2 : Inv X pins σ H { s with heap := h', toks := tk' } := by
      refine I.step (g' := s.gens) (d' := s.drawn) (ch := []) (fun b hb => nomatch hb) (fun b o nb _ _ e _ => hk b o nb e) (fun b o nb _ _ e _ => ⟨o.slots, hk b o nb e⟩) (fun _ _ _ _ n => n) (fun b o _ e => ?_) (fun _ _ e => e) (fun _ _ _ e => e) (fun b ps e => ⟨#[], by rw [e]; simp⟩) (fun m' hm' => ?_) (fun b u e => ?_) I.bare
      · by_cases hb : b = X.env.locals
        · obtain ⟨o2, _, _, e2, _⟩ := F.ns
          exact ⟨o2, by rw [hb]; exact e2⟩
        · exact ⟨o, hk b o hb e⟩
      · have em' : m' = mL := by
          obtain ⟨o1, es1, ep1, e1, d1, _, f1⟩ := hm'
          obtain ⟨o2, es2, ep2, e2, d2, _, f2⟩ := hn
          rw [e1] at e2; cases e2
          rw [d1] at d2; cases d2
          funext x
          rw [← f1, ← f2]
        rw [em']; exact F.ns
      · refine (I.hok b u e).stay (fun d v hd hv => hk d v ?_ hv) (fun _ q => q) fun _ _ q => q
        rcases hd with rfl | hd
        · exact ne_of_none e I.free
        · exact ne_of_none hd I.free
    refine fin i z t _ hz (fun j d hd => ?_) I2
    have hj : j < its.length := by
      have := (List.getElem?_eq_some_iff.1 hd).1
      omega
    have h4 := hbest j hj
    have e1 : cs.getD i 0 = z := by rw [List.getD_eq_getElem?_getD, hz]; rfl
    have e2 : cs.getD j 0 = d := by rw [List.getD_eq_getElem?_getD, hd]; rfl
    rw [e1, e2] at h4
    exact ⟨by omega, fun hji => by have := h4.2 hji; omega⟩
end
end SM
end
section
set_option Elab.async false
set_option linter.all false
set_option maxRecDepth 100000
set_option maxHeartbeats 4000000
namespace SM
open PySem PySem.Spec PyProof.Rows L2
open Kg33 (has with_ near at_)
open PySem.W (tabObj CodeHd)

def tMin (P : Addr) (lpos : Pos) (q : Str) (i : Nat) (te : TE) : TE := fun σ H Q => tCons te tNil σ H fun vs H1 => ∃ (l pM : Addr) (cs ms : List Nat), vs = [.ref l] ∧ H1 l = some (.lst (nvs cs)) ∧ 0 < cs.length ∧ σ[i]? = some (some (.ref pM)) ∧ H1 pM = some (.lst (nvs ms)) ∧ ms.length ≤ 1000 ∧ (∀ c ∈ cs, c < ms.length) ∧ TblOk P lpos q H1 ∧
  ∀ (H' : Hp) (j z : Nat), SameT P H1 H' → TblOk P lpos q H' → cs[j]? = some z → (∀ (k d : Nat), cs[k]? = some d → ms.getD z 0 ≤ ms.getD d 0 ∧ (k < j → ms.getD z 0 < ms.getD d 0)) → Q (.int (z : Int)) H'
theorem pe_minLam {X : Cx} {e : Expr} {te : TE} {i : Nat} {c P cc : Addr} {q : Str} {pn pa p1 p2 p3 lpos kpos pos : Pos} (hcalm : X.calm = true) (hroom : X.A.depth < recursionLimit) (hg : Gl X "min") (hm : X.mg "min" = none) (he : PE X e te)
    (hN : X.N[i]? = some ("many" : Str)) (hv : Vis X.env.scope "many") (hkc : X.env.kindOf "many" = some .cell) (hcode : X.env.code = .ref c) (hC : ∀ h, X.K.In h → CodeHd h c P) (hB : X.base.BuiltinsAt X.mg P) (hcc : X.env.cells.lookup ("many" : Str) = some cc) (hcl : closureFor lamScope X.env = pure [(("many" : Str), cc)]) (hq : X.env.qual ++ "<lambda>" = q)
    (hs : starEach [e] X.env = (false, eval e X.env) :: starEach [] X.env := by rfl) :
    PE X (.Call (.Name "min" pn) [e] [⟨some "key", .Lambda (lamArgs pa) (lamBody p1 p2 p3) lamScope lpos, kpos⟩] pos) (tMin P lpos q i te) := by
  intro pins s σ H Q I h
  refine wpAny_Call_Name_kw (ld_blt I hg hm boot_min ?_)
  refine callWith_kw (thn ((pa_cons he pa_nil hs) pos pins s σ H _ I h) fun us s1 ⟨vs, H1, I1, r1, q1⟩ => ?_) (by rw [hs]; rfl) (by rw [hs]; rfl) rfl rfl
  obtain ⟨l, pM, cs, ms, rfl, hl, hne, hσ, hm', hms, hlt, T, k⟩ := q1
  have eus : us = [.ref l] := Vals.ref1 r1
  subst eus
  have hB' : s1.heap.BuiltinsAt X.mg P := by
    obtain ⟨bm, o, a1, a2, a3, a4, a5, a6⟩ := hB
    exact ⟨bm, o, a1, a2, a3, a4, I1.bk _ _ a5, a6⟩
  refine kws_cons (lam_made I1 T hcode (hC _ I1.kIn) hB' hcl rfl hq fun f c' ctv pm H' s' I2 sT tb hf hcd hfL => kws_nil ?_)
  have nP : ∀ {b : Addr} {xs : List V}, H1 b = some (.lst xs) → b ≠ P := fun {b xs} e z => by
    obtain ⟨φ, t⟩ := T.some
    rw [z, t] at e; cases e
  obtain ⟨mL, hn, hloc⟩ := I2.loc
  obtain ⟨u, ru, lk⟩ := hloc i "many" (.ref pM) hN hσ hv
  cases ru
  have hcell : s'.heap.IsCell cc (some (.ref pM)) := by
    rcases lk with ⟨k1, _⟩ | ⟨_, c2, e2, z⟩
    · rw [hkc] at k1; cases k1
    · rw [hcc] at e2; cases e2; exact z
  refine min_lam (pM := pM) I2 hcalm hroom hf hcd hfL hcell (I2.cne "many" cc hcc) (sT _ _ hl (nP hl)) (sT _ _ hm' (nP hm')) hlt hms hne fun j z t s2 hz hbest I3 => ?_
  exact ⟨.int (z : Int), H', I3, ⟨t, rfl⟩, k H' j z sT tb hz hbest⟩

def lamPos : Pos := ⟨189, 28, 189, 45⟩
def lamQual : Str := ("best" : Str) ++ ".<locals>." ++ "<lambda>"
def spBest (PT : Addr) : Sp := fun vs H Q _ => ∃ (m : Int) (a : Addr) (s : Kg33.Seen), vs = [.int m, .ref a] ∧ H a = some (.lst (nvs s)) ∧ s.length = 60 ∧ TblOk PT lamPos lamQual H ∧
  ∀ (H' : Hp) (p : Addr), SameT PT H H' → TblOk PT lamPos lamQual H' → H p = none → H' p = some (.lst (ansV (ansOf (.best s m)))) → Q (.ref p) H'
theorem split_at {l : List Nat} {i z : Nat} (h : l[i]? = some z) : l = l.take i ++ z :: l.drop (i + 1) := by
  obtain ⟨hi, e⟩ := List.getElem?_eq_some_iff.1 h
  rw [← e, List.getElem_cons_drop, List.take_append_drop]

section
variable {P : Program} {w : World} {K : PySem.W.Frag} {mg : Str → Option Value} {base : Heap} {C CT : Addr}
theorem scBest : FnScope ["m", "seen", "ways", "closed", "many"] ["m", "seen"] (defScope sBest) := ⟨rfl, rfl, rfl, by decide +kernel, rfl, by decide +kernel, by decide +kernel⟩
theorem ok_best {f fr fc fi fw c PT : Addr} {fdr fdc fdi fdw : FuncData} {oc kV doc pm ct : Value} {od an : Option Addr} {osl : Array (Option Value)}
    (lk : K.lookup f = some ⟨oc, od, .func (PySem.W.fnOf "best" "best" (defArgs sBest) (defBody sBest) (defScope sBest) .none kV doc pm an (.ref c) ct), osl⟩) (hcd : PySem.W.codeIn K (.ref c) "best" = true)
    (hC : ∀ h, K.In h → CodeHd h c PT) (hB : base.BuiltinsAt mg PT)
    (T : TxtW K mg C) (TA : TxtA mg) (TS : TxtS mg) (W : WaysFns P w K mg base C CT fi fw fdi fdw)
    (GR : FnOk P w K mg base CX0 1 fr fdr ["m", "seen"] spRange) (FR : Fun K "is_in_range" "is_in_range" sRange fr fdr) (bR : Binds K fdr ["m", "seen"] []) (mr : mg "is_in_range" = some (.ref fr))
    (GC : FnOk P w K mg base CX0 1 fc fdc ["seen"] spClosed) (FC : Fun K "closed_squares" "closed_squares" sClosed fc fdc) (bC : Binds K fdc ["seen"] []) (mc : mg "closed_squares" = some (.ref fc)) :
    FnOk P w K mg base CX0 7 f (PySem.W.fnOf "best" "best" (defArgs sBest) (defBody sBest) (defScope sBest) .none kV doc pm an (.ref c) ct) ["m", "seen"] (spBest PT) := by
  refine fn_of lk hcd scBest (fun vs H Q E h => ?_) (fun A outer st H vs Q E hr h => ?_)
  · obtain ⟨m, a, s, rfl, _⟩ := h
    rfl
  · suffices hh : ∃ t, PSs (cxOf CX0 P w K mg base ["m", "seen", "ways", "closed", "many"] "best" (defScope sBest) f (.ref c) A outer st H E).nox (defBody sBest) t ∧ t { nx := fun _ H' => Q .non H', rt := Q } (L2.start ["m", "seen", "ways", "closed", "many"] vs) H by
      obtain ⟨t, h1, h2⟩ := hh
      exact ⟨t, h1.nox, h2⟩
    obtain ⟨m, a, s, rfl, ha, hlen, tb, k⟩ := h
    have hr1 : Room 1 _ := hr.mono (by decide)
    have hr2 : Room 2 _ := hr.mono (by decide)
    refine ⟨_, pss_cons (ps_if (pt_not (pt_val (pe_call GR hr1 rfl mr FR.kp bR .nil pass0 (pa_cons (pv 0) (pa_cons (pv 1) pa_nil))))) (pss_one (ps_ret (pe_lst (pa_cons (pgl TA.notIn) pa_nil)))) pss_nil)
      (pss_cons (ps_set (i := 2) scBest.nd rfl (Or.inl rfl) (pe_make W.mkW W.gi hr rfl W.mgW W.bi .nil pass0 (pa_cons (pv 0) (pa_cons (pv 1) pa_nil))))
      (pss_cons (ps_if (pt_cmpR op_eq (pe_fld (pv 2) rfl) pe_int (nomark _)) (pss_one (ps_ret (pe_lst (pa_cons (pgl TA.noWay) pa_nil)))) pss_nil)
      (pss_cons (ps_set (i := 3) scBest.nd rfl (Or.inl rfl) (pe_call GC hr1 rfl mc FC.kp bC .nil pass0 (pa_cons (pv 1) pa_nil)))
      (pss_cons (ps_if (pt_cmpR op_eq (pe_callB call_len_seq rfl TS.len PySem.boot_len (pa_cons (pv 3) pa_nil)) pe_int (nomark _)) (pss_one (ps_ret (pe_lst (pa_cons (pgl TA.noneClosed) pa_nil)))) pss_nil)
      (pss_cons (ps_set (i := 4) scBest.nd rfl (Or.inr rfl) (pe_meth0 (pv 2) T.cl W.mw W.gw hr2 W.bw .nil pass0))
      (pss_one (ps_ret (pe_lst (pa_cons (pe_minLam (i := 4) (P := PT) (q := lamQual) (cc := st.heap.objs.size + 1) rfl hr.depth rfl TS.min (pv 3) rfl (Or.inr (Or.inl rfl)) rfl rfl hC hB rfl rfl rfl) pa_nil))))))))), ?_⟩
    refine ⟨_, rfl, _, rfl, m, a, s, rfl, ha, by omega, _, rfl, ite2 (fun h1 => ?_) fun h1 => ?_⟩
    · have h2 : Kg33.askable s m = false := by simpa using h1
      refine ⟨(by show 1 ≤ sizeLine; decide), fun p hp => k _ p (SameT.of (Same.new hp)) (tb.same (Same.new hp)) hp ?_⟩
      rw [upd_same]
      have e : ansOf (.best s m) = Kg33.num (-8) := by
        show Kg33.num (if Kg33.askable s m = false then -8 else _) = _
        rw [if_pos h2]
      rw [e]; rfl
    have h2 : Kg33.askable s m = true := by simpa using h1
    obtain ⟨⟨n, rfl, hn⟩, h10⟩ := ask10 h2
    refine ⟨_, rfl, _, rfl, fun x dx nx ndx nex => ⟨x, dx, a, s, n, rfl, upd_same, (by rw [upd_ne (ne_of_none ha nx), upd_ne (ne_of_none ha ndx)]; exact ha), hlen, fun H2 q k2 W2 => ⟨rfl, ?_⟩⟩⟩
    have s2 : Same H H2 := Same.made nx ndx k2
    refine ⟨_, rfl, x, C, q.dxw, _, _, rfl, W2.obj, T.cl, T.nO, rfl, rfl, _, rfl, ite2 (fun h3 => ?_) fun h3 => ?_⟩
    · have h4 : Kg33.count s n = 0 := by rw [← total_eq h10]; have := veq_t h3; omega
      have s3 : ∀ {p : Addr} {o : HO}, H2 p = none → Same H (L2.upd H2 p o) := fun hp => s2.trans (Same.new hp)
      refine ⟨(by show 1 ≤ sizeLine; decide), fun p hp => k _ p (SameT.of (s3 hp)) (tb.same (s3 hp)) (s2.free hp) ?_⟩
      rw [upd_same]
      have e : ansOf (.best s (n : Int)) = Kg33.num (-1) := by
        show Kg33.num (if Kg33.askable s (n : Int) = false then -8 else if Kg33.count s (n : Int).toNat = 0 then -1 else _) = _
        rw [h2, if_neg (by decide), Int.toNat_natCast, if_pos h4]
      rw [e]; rfl
    have h4 : ¬ Kg33.count s n = 0 := by rw [← total_eq h10]; have := veq_f h3; omega
    have eans : ansOf (.best s (n : Int)) = Kg33.num (match Kg33.best s n with
        | some c => (c : Int)
        | none => -2) := by
      show Kg33.num (if Kg33.askable s (n : Int) = false then -8 else if Kg33.count s (n : Int).toNat = 0 then -1 else match Kg33.best s (n : Int).toNat with
        | some c => (c : Int)
        | none => -2) = _
      rw [h2, if_neg (by decide), Int.toNat_natCast, if_neg h4]
    refine ⟨_, rfl, a, s, rfl, s2 _ _ ha, hlen, fun H3 p3 s3 hp3 h5 => ?_⟩
    have s03 := s2.trans s3
    have W3 := W2.same s3
    refine ⟨_, rfl, p3, _, rfl, .inl (SqL.of h5), rfl, _, rfl, ite2 (fun h6 => ?_) fun h6 => ?_⟩
    · have h7 : Kg33.unknown s = [] := by
        have := veq_t h6
        rw [nvs_len] at this
        exact List.eq_nil_of_length_eq_zero (by omega)
      have s4 : ∀ {p : Addr} {o : HO}, H3 p = none → Same H (L2.upd H3 p o) := fun hp => s03.trans (Same.new hp)
      refine ⟨(by show 1 ≤ sizeLine; decide), fun p hp => k _ p (SameT.of (s4 hp)) (tb.same (s4 hp)) (s03.free hp) ?_⟩
      rw [upd_same, eans]
      have e : Kg33.best s n = none := by unfold Kg33.best; rw [h7]; rfl
      rw [e]; rfl
    have h7 : 0 < (Kg33.unknown s).length := by
      have := veq_f h6
      rw [nvs_len] at this
      omega
    refine ⟨_, rfl, x, q.dxw, _, rfl, W3.obj, rfl, x, q, s, n, rfl, W3, hlen, fun H4 p4 s4 hp4 h8 => ?_⟩
    rw [many_under hlen h10] at h8
    have s04 := s03.trans s4
    refine ⟨_, rfl, p3, p4, Kg33.unknown s, (List.range 60).map (Kg33.under s n), rfl, s4 _ _ h5, h7, rfl, h8, (by rw [List.length_map, List.length_range]; decide), (fun c hc => by rw [List.length_map, List.length_range]; exact unknown_lt hc), tb.same s04, fun H5 j z sT tb5 hz hbest => ?_⟩
    refine ⟨(by show 1 ≤ sizeLine; decide), fun p hp => ?_⟩
    have hp0 : H p = none := s04.free (sT.free tb5 hp)
    refine k _ p ((SameT.of s04).trans (sT.trans (SameT.of (Same.new hp)))) (tb5.same (Same.new hp)) hp0 ?_
    rw [upd_same, eans]
    have gD : ∀ d, d ∈ Kg33.unknown s → ((List.range 60).map (Kg33.under s n)).getD d 0 = Kg33.under s n d := by
      intro d hd
      rw [List.getD_eq_getElem?_getD, many_get (unknown_lt hd)]; rfl
    have hzm := List.mem_of_getElem? hz
    have e : Kg33.best s n = some z := by
      unfold Kg33.best
      refine find_min (split_at hz) (fun d hd => ?_) (fun d hd => ?_)
      · obtain ⟨k', hk', e⟩ := List.getElem_of_mem hd
        have := (hbest k' d (by rw [List.getElem?_eq_getElem hk', e])).1
        rw [gD z hzm, gD d hd] at this
        exact this
      · obtain ⟨k', hk', e⟩ := List.getElem_of_mem hd
        rw [List.length_take] at hk'
        rw [List.getElem_take] at e
        have hd' : d ∈ Kg33.unknown s := List.mem_of_mem_take hd
        have := (hbest k' d (by rw [List.getElem?_eq_getElem (by omega), e])).2 (by omega)
        rw [gD z hzm, gD d hd'] at this
        exact this
    rw [e]; rfl
end
end SM
end
section
set_option Elab.async false
set_option linter.all false
set_option maxRecDepth 100000
set_option maxHeartbeats 4000000
namespace SM
open PySem PySem.Spec PyProof.Rows L2
open Kg33 (has with_ near at_)

def KeepT (a P : Addr) (H H' : Hp) : Prop := ∀ b o, H b = some o → b ≠ a → b ≠ P → H' b = some o
def Tb (PT : Addr) (H : Hp) : Prop := TblOk PT lamPos lamQual H
theorem Tb.same {PT : Addr} {H H' : Hp} (t : Tb PT H) (s : Same H H') : Tb PT H' := TblOk.same t s
theorem Tb.keep {PT a : Addr} {H H' : Hp} {C dx : Addr} {fs : List (Str × V)} (t : Tb PT H) (k : Keep a H H') (ha : H a = some (.ins C dx fs)) : Tb PT H' := by
  have ne : ∀ {b : Addr} {φ : Heap → Prop}, H b = some (.ext φ) → b ≠ a := fun {b φ} e z => by rw [z, ha] at e; cases e
  rcases t with t | ⟨c, n, t1, t2⟩
  · exact .inl (k _ _ t (ne t))
  · exact .inr ⟨c, n, k _ _ t1 (ne t1), k _ _ t2 (ne t2)⟩
theorem Tb.ne {PT : Addr} {H : Hp} (t : Tb PT H) {b : Addr} {o : HO} (e : H b = some o) (n : ∀ φ, o ≠ .ext φ) : b ≠ PT := fun z => by
  obtain ⟨φ, q⟩ := t.some
  rw [z, q] at e
  exact n φ (Option.some.inj e).symm
theorem KeepT.of {a P : Addr} {H H' : Hp} (k : Keep a H H') : KeepT a P H H' := fun b o e n _ => k b o e n
theorem KeepT.ofT {a P : Addr} {H H' : Hp} (k : SameT P H H') : KeepT a P H H' := fun b o e _ n => k b o e n
theorem KeepT.trans {a P : Addr} {H H1 H2 : Hp} (x : KeepT a P H H1) (y : KeepT a P H1 H2) : KeepT a P H H2 := fun b o e n m => y b o (x b o e n m) n m
def spAnsSight (PT : Addr) : Sp := fun vs H Q _ => ∃ (p m : Int) (a : Addr) (s : Kg33.Seen) (mk : Kg33.Seen → Int → Kg33.Call), vs = [.int p, .int m, .ref a] ∧ SightCall p mk ∧ H a = some (.lst (nvs s)) ∧ s.length = 60 ∧ Tb PT H ∧
  ∀ (H' : Hp) (p : Addr), SameT PT H H' → Tb PT H' → H p = none → H' p = some (.lst (ansV (ansOf (mk s m)))) → Q (.ref p) H'
def spAnsGame (C : Addr) : Sp := fun vs H Q _ => ∃ (ga l : Addr) (p : Int) (zs : List Int) (x : Kg33.Call) (g : Kg33.Game), vs = [.ref ga, .int p, .ref l] ∧ GameCall zs p x ∧ GameAt C H ga g ∧ GameOk g ∧ H l = some (.lst (zs.map V.int)) ∧
  ∀ (H' : Hp) (p : Addr), Keep ga H H' → GameAt C H' ga (Kg33.does g x).1 → H p = none → H' p = some (.lst (ansV (Kg33.does g x).2)) → Q (.ref p) H'
def spAnsTo (C PT : Addr) : Sp := fun vs H Q _ => ∃ (ga l : Addr) (xs : List Int) (x : Kg33.Call) (g : Kg33.Game), vs = [.ref ga, .ref l] ∧ OkC xs x ∧ GameAt C H ga g ∧ GameOk g ∧ H l = some (.lst (xs.map V.int)) ∧ Tb PT H ∧
  ∀ (H' : Hp) (p : Addr), KeepT ga PT H H' → Tb PT H' → GameAt C H' ga (Kg33.does g x).1 → H p = none → H' p = some (.lst (ansV (Kg33.does g x).2)) → Q (.ref p) H'

theorem move_num {g : Kg33.Game} {c : Int} {x : Kg33.Call} (h : x = .open_ c ∨ x = .mark c ∨ x = .about c) : (Kg33.does g x).2 = Kg33.num (Kg33.does g x).2.value := by
  rcases h with rfl | rfl | rfl
  · show ((if _ then _ else if _ then _ else _ : Kg33.Game × Kg33.Ans)).2 = Kg33.num ((if _ then _ else if _ then _ else _ : Kg33.Game × Kg33.Ans)).2.value
    repeat' split
    all_goals rfl
  · show ((if _ then _ else if _ then _ else if _ then _ else if _ then _ else _ : Kg33.Game × Kg33.Ans)).2 = Kg33.num ((if _ then _ else if _ then _ else if _ then _ else if _ then _ else _ : Kg33.Game × Kg33.Ans)).2.value
    repeat' split
    all_goals rfl
  · show ((if _ then _ else if _ then _ else if _ then _ else _ : Kg33.Game × Kg33.Ans)).2 = Kg33.num ((if _ then _ else if _ then _ else if _ then _ else _ : Kg33.Game × Kg33.Ans)).2.value
    repeat' split
    all_goals rfl

section
variable {P : Program} {w : World} {K : PySem.W.Frag} {mg : Str → Option Value} {base : Heap} {C : Addr}

theorem scAnsSight : FnScope ["number", "m", "seen"] ["number", "m", "seen"] (defScope sAnsSight) := ⟨rfl, rfl, rfl, by decide +kernel, rfl, by decide +kernel, by decide +kernel⟩
theorem ok_ansSight {f fc fe ft fb PT : Addr} {fd fdc fde fdt fdb : FuncData} (F : Fun K "answer_by_sight" "answer_by_sight" sAnsSight f fd) (TB : TxtB mg)
    (GC : FnOk P w K mg base CX0 7 fc fdc ["m", "seen"] (spAsk .count)) (FC : Fun K "count" "count" sCount fc fdc) (bC : Binds K fdc ["m", "seen"] []) (mc : mg "count" = some (.ref fc))
    (GE : FnOk P w K mg base CX0 7 fe fde ["m", "seen"] (spAsk .each)) (FE : Fun K "each" "each" sEach fe fde) (bE : Binds K fde ["m", "seen"] []) (me : mg "each" = some (.ref fe))
    (GT : FnOk P w K mg base CX0 7 ft fdt ["m", "seen"] (spAsk .certain)) (FT : Fun K "certain" "certain" sCertain ft fdt) (bT : Binds K fdt ["m", "seen"] []) (mt : mg "certain" = some (.ref ft))
    (GB : FnOk P w K mg base CX0 7 fb fdb ["m", "seen"] (spBest PT)) (kpB : PySem.W.keepIn K (.ref fb) = true) (bB : Binds K fdb ["m", "seen"] []) (mb : mg "best" = some (.ref fb)) : FnOk P w K mg base CX0 8 f fd ["number", "m", "seen"] (spAnsSight PT) := by
  refine F.ok scAnsSight (fun vs H Q E h => ?_) (fun cdv A outer st H vs Q E hr h => ?_)
  · obtain ⟨p, m, a, s, mk, rfl, _⟩ := h
    rfl
  · obtain ⟨p, m, a, s, mk, rfl, sc, ha, hlen, tb, k⟩ := h
    have k0 : ∀ (H' : Hp) (p : Addr), Same H H' → H p = none → H' p = some (.lst (ansV (ansOf (mk s m)))) → Q (.ref p) H' := fun H' p s' hp h' => k H' p (SameT.of s') (tb.same s') hp h'
    refine ⟨_, pss_cons (ps_if (pt_cmpR op_eq (pv 0) (pgl TB.count) (nomark _)) (pss_one (ps_ret (pe_call GC hr rfl mc FC.kp bC .nil pass0 (pa_cons (pv 1) (pa_cons (pv 2) pa_nil))))) pss_nil)
      (pss_cons (ps_if (pt_cmpR op_eq (pv 0) (pgl TB.each) (nomark _)) (pss_one (ps_ret (pe_call GE hr rfl me FE.kp bE .nil pass0 (pa_cons (pv 1) (pa_cons (pv 2) pa_nil))))) pss_nil)
      (pss_cons (ps_if (pt_cmpR op_eq (pv 0) (pgl TB.certain) (nomark _)) (pss_one (ps_ret (pe_call GT hr rfl mt FT.kp bT .nil pass0 (pa_cons (pv 1) (pa_cons (pv 2) pa_nil))))) pss_nil)
      (pss_one (ps_ret (pe_call GB hr rfl mb kpB bB .nil pass0 (pa_cons (pv 1) (pa_cons (pv 2) pa_nil))))))), ?_⟩
    refine ⟨_, rfl, rfl, _, rfl, ite2 (fun h1 => ?_) fun h1 => ?_⟩
    · have h2 := veq_t h1
      cases sc with
      | count => exact ⟨_, rfl, _, rfl, m, a, s, rfl, ha, hlen, k0⟩
      | each => cases h2
      | certain => cases h2
      | best => cases h2
    · have h2 := veq_f h1
      refine ⟨_, rfl, rfl, _, rfl, ite2 (fun h3 => ?_) fun h3 => ?_⟩
      · have h4 := veq_t h3
        cases sc with
        | count => exact absurd rfl h2
        | each => exact ⟨_, rfl, _, rfl, m, a, s, rfl, ha, hlen, k0⟩
        | certain => cases h4
        | best => cases h4
      · have h4 := veq_f h3
        refine ⟨_, rfl, rfl, _, rfl, ite2 (fun h5 => ?_) fun h5 => ?_⟩
        · have h6 := veq_t h5
          cases sc with
          | count => exact absurd rfl h2
          | each => exact absurd rfl h4
          | certain => exact ⟨_, rfl, _, rfl, m, a, s, rfl, ha, hlen, k0⟩
          | best => cases h6
        · have h6 := veq_f h5
          cases sc with
          | count => exact absurd rfl h2
          | each => exact absurd rfl h4
          | certain => exact absurd rfl h6
          | best => exact ⟨_, rfl, _, rfl, m, a, s, rfl, ha, hlen, tb, k⟩

theorem scAnsGame : FnScope ["game", "number", "given"] ["game", "number", "given"] (defScope sAnsGame) := ⟨rfl, rfl, rfl, by decide +kernel, rfl, by decide +kernel, by decide +kernel⟩
theorem ok_ansGame {f fb fu fm fa ft : Addr} {fd fdb fdu fdm fda fdt : FuncData} (F : Fun K "answer_of_game" "answer_of_game" sAnsGame f fd) (T : TxtG K mg C) (TB : TxtB mg)
    (GB : FnOk P w K mg base CX0 2 fb fdb ["self", "mines"] (spBegin C)) (bB : Binds K fdb ["self", "mines"] []) (mB : Meth K C "begin" fb)
    (GU : FnOk P w K mg base CX0 5 fu fdu ["self", "c"] (spMove C .open_)) (bU : Binds K fdu ["self", "c"] []) (mU : Meth K C "uncover" fu)
    (GM : FnOk P w K mg base CX0 3 fm fdm ["self", "c"] (spMove C .mark)) (bM : Binds K fdm ["self", "c"] []) (mM : Meth K C "mark" fm)
    (GA : FnOk P w K mg base CX0 5 fa fda ["self", "c"] (spMove C .about)) (bA : Binds K fda ["self", "c"] []) (mA : Meth K C "uncover_about" fa)
    (GT : FnOk P w K mg base CX0 1 ft fdt ["self"] (spTell C)) (bT : Binds K fdt ["self"] []) (mT : Meth K C "tell" ft) : FnOk P w K mg base CX0 6 f fd ["game", "number", "given"] (spAnsGame C) := by
  refine F.ok scAnsGame (fun vs H Q E h => ?_) (fun cdv A outer st H vs Q E hr h => ?_)
  · obtain ⟨ga, l, p, zs, x, g, rfl, _⟩ := h
    rfl
  · obtain ⟨ga, l, p, zs, x, g, rfl, gc, hga, hok, hl, k⟩ := h
    have hr1 : Room 1 _ := hr.mono (by decide)
    have hr2 : Room 2 _ := hr.mono (by decide)
    have hr3 : Room 3 _ := hr.mono (by decide)
    obtain ⟨dx, ha⟩ := hga
    refine ⟨_, pss_cons (ps_if (pt_cmpR op_eq (pv 1) (pgl TB.begin_) (nomark _)) (pss_one (ps_ret (pe_lst (pa_cons (pe_meth (pv 0) T.cl mB GB hr2 bB .nil pass0 (pa_cons (pe_ix ix_list (pv 2) pe_int (fun _ _ => rfl)) pa_nil)) pa_nil)))) pss_nil)
      (pss_cons (ps_if (pt_cmpR op_eq (pv 1) (pgl TB.open_) (nomark _)) (pss_one (ps_ret (pe_lst (pa_cons (pe_meth (pv 0) T.cl mU GU hr bU .nil pass0 (pa_cons (pe_ix ix_list (pv 2) pe_int (fun _ _ => rfl)) pa_nil)) pa_nil)))) pss_nil)
      (pss_cons (ps_if (pt_cmpR op_eq (pv 1) (pgl TB.mark) (nomark _)) (pss_one (ps_ret (pe_lst (pa_cons (pe_meth (pv 0) T.cl mM GM hr3 bM .nil pass0 (pa_cons (pe_ix ix_list (pv 2) pe_int (fun _ _ => rfl)) pa_nil)) pa_nil)))) pss_nil)
      (pss_cons (ps_if (pt_cmpR op_eq (pv 1) (pgl TB.about) (nomark _)) (pss_one (ps_ret (pe_lst (pa_cons (pe_meth (pv 0) T.cl mA GA hr bA .nil pass0 (pa_cons (pe_ix ix_list (pv 2) pe_int (fun _ _ => rfl)) pa_nil)) pa_nil)))) pss_nil)
      (pss_one (ps_ret (pe_meth0 (pv 0) T.cl mT GT hr1 bT .nil pass0)))))), ?_⟩
    -- a list of one number made of what a method answers
    have fin : ∀ (H' : Hp) (y : Kg33.Game) (v : Int), Keep ga H H' → GameAt C H' ga (Kg33.does g x).1 → (Kg33.does g x).2 = Kg33.num v → ([V.int v] : List V).length ≤ sizeLine ∧ ∀ p, H' p = none → Q (.ref p) (upd H' p (.lst [V.int v])) := by
      intro H' y v k1 g1 e
      refine ⟨(by show 1 ≤ sizeLine; decide), fun p hp => ?_⟩
      obtain ⟨dx1, g1⟩ := g1
      have hpa : p ≠ ga := (ne_of_none g1 hp).symm
      refine k _ p (k1.trans (Keep.of (Same.new hp))) ⟨dx1, by rw [upd_ne hpa.symm]; exact g1⟩ (k1.none hpa hp) ?_
      rw [upd_same, e]; rfl
    cases gc with
    | begin_ m =>
      refine ⟨_, rfl, rfl, _, rfl, iteT ?_⟩
      refine ⟨_, rfl, ga, dx, _, rfl, ha, rfl, _, rfl, l, _, _, _, rfl, rfl, SqL.of hl, at_of (j := 0) (v := V.int (m : Int)) rfl rfl, ga, dx, _, m, rfl, ha, .inr ⟨g, rfl⟩, fun h1 => ?_, fun h1 H1 k1 g1 => ?_⟩
      · have e : Kg33.does g (.begin_ m) = (g, Kg33.num (-8)) := by unfold Kg33.does; exact if_pos h1
        exact fin H g _ (Keep.refl H) (by rw [e]; exact ⟨dx, ha⟩) (by rw [e])
      · have e : Kg33.does g (.begin_ m) = (Kg33.begin_ m, Kg33.num (Kg33.size m)) := by unfold Kg33.does; exact if_neg (by omega)
        exact fin H1 g _ k1 (by rw [e]; exact g1) (by rw [e])
    | open_ c =>
      refine ⟨_, rfl, rfl, _, rfl, iteF ?_⟩
      refine ⟨_, rfl, rfl, _, rfl, iteT ?_⟩
      refine ⟨_, rfl, ga, dx, _, rfl, ha, rfl, _, rfl, l, _, _, _, rfl, rfl, SqL.of hl, at_of (j := 0) (v := V.int c) rfl rfl, ga, g, c, rfl, ⟨dx, ha⟩, hok, fun H1 k1 g1 => ?_⟩
      exact fin H1 g _ k1 g1 (move_num (.inl rfl))
    | mark c =>
      refine ⟨_, rfl, rfl, _, rfl, iteF ?_⟩
      refine ⟨_, rfl, rfl, _, rfl, iteF ?_⟩
      refine ⟨_, rfl, rfl, _, rfl, iteT ?_⟩
      refine ⟨_, rfl, ga, dx, _, rfl, ha, rfl, _, rfl, l, _, _, _, rfl, rfl, SqL.of hl, at_of (j := 0) (v := V.int c) rfl rfl, ga, g, c, rfl, ⟨dx, ha⟩, hok, fun H1 k1 g1 => ?_⟩
      exact fin H1 g _ k1 g1 (move_num (.inr (.inl rfl)))
    | about c =>
      refine ⟨_, rfl, rfl, _, rfl, iteF ?_⟩
      refine ⟨_, rfl, rfl, _, rfl, iteF ?_⟩
      refine ⟨_, rfl, rfl, _, rfl, iteF ?_⟩
      refine ⟨_, rfl, rfl, _, rfl, iteT ?_⟩
      refine ⟨_, rfl, ga, dx, _, rfl, ha, rfl, _, rfl, l, _, _, _, rfl, rfl, SqL.of hl, at_of (j := 0) (v := V.int c) rfl rfl, ga, g, c, rfl, ⟨dx, ha⟩, hok, fun H1 k1 g1 => ?_⟩
      exact fin H1 g _ k1 g1 (move_num (.inr (.inr rfl)))
    | tell =>
      refine ⟨_, rfl, rfl, _, rfl, iteF ?_⟩
      refine ⟨_, rfl, rfl, _, rfl, iteF ?_⟩
      refine ⟨_, rfl, rfl, _, rfl, iteF ?_⟩
      refine ⟨_, rfl, rfl, _, rfl, iteF ?_⟩
      refine ⟨_, rfl, ga, dx, _, rfl, ha, rfl, ga, g, rfl, ⟨dx, ha⟩, fun H1 p1 s1 hp1 h1 => ?_⟩
      exact k H1 p1 (Keep.of s1) ⟨dx, s1 _ _ ha⟩ hp1 h1
end
end SM
end
section
set_option Elab.async false
set_option linter.all false
set_option maxRecDepth 100000
set_option maxHeartbeats 4000000
namespace SM
open PySem PySem.Spec PyProof.Rows L2
open Kg33 (has with_ near at_)

theorem cut_from (xs : List V) (k : Nat) (h : k ≤ xs.length) : cutV xs (some (k : Int)) none = xs.drop k := by
  unfold cutV
  rw [HT.sIx_nat, HT.sIx_none, Nat.min_eq_left h]
  exact List.take_of_length_le (by rw [List.length_drop]; exact Nat.le_refl _)
theorem cut_mid (a b c : List V) : cutV (a ++ (b ++ c)) (some (a.length : Int)) (some ((a.length + b.length : Nat) : Int)) = b := by
  unfold cutV
  rw [HT.sIx_nat, HT.sIx_nat, Nat.min_eq_left (by simp), Nat.min_eq_left (by simp only [List.length_append]; omega), List.drop_left, show a.length + b.length - a.length = b.length by omega, List.take_left]

theorem sql_sameT {K : PySem.W.Frag} {PT : Addr} {H H' : Hp} {a : Addr} {xs : List V} (h : SqL K H a xs) (t : Tb PT H) (s : SameT PT H H') : SqL K H' a xs := by
  rcases h with (h | ⟨o, h⟩) | h
  · exact .inl (.inl (s _ _ h (t.ne h (by intro φ z; cases z))))
  · exact .inl (.inr ⟨o, s _ _ h (t.ne h (by intro φ z; cases z))⟩)
  · exact .inr h
def spAns (K : PySem.W.Frag) (PT : Addr) : Sp := fun vs H Q _ => ∃ (a : Addr) (l : List Int), vs = [.ref a] ∧ SqL K H a (l.map V.int) ∧ l.length ≤ 16000 ∧ PyKg33.answers_asked l = true ∧ Tb PT H ∧ ∀ (H' : Hp) (p : Addr), Tb PT H' → H' p = some (.lst ((PyKg33.answers l).map V.int)) → Q (.ref p) H'

section
variable {P : Program} {w : World} {K : PySem.W.Frag} {mg : Str → Option Value} {base : Heap} {C : Addr}

theorem scAnsTo : FnScope ["game", "call", "number"] ["game", "call"] (defScope sAnsTo) := ⟨rfl, rfl, rfl, by decide +kernel, rfl, by decide +kernel, by decide +kernel⟩
theorem ok_ansTo {f fg fs fr PT : Addr} {fd fdg fds fdr : FuncData} (F : Fun K "answer_to" "answer_to" sAnsTo f fd) (T : TxtG K mg C) (TB : TxtB mg)
    (GG : FnOk P w K mg base CX0 6 fg fdg ["game", "number", "given"] (spAnsGame C)) (FG : Fun K "answer_of_game" "answer_of_game" sAnsGame fg fdg) (bG : Binds K fdg ["game", "number", "given"] []) (mgG : mg "answer_of_game" = some (.ref fg))
    (GS : FnOk P w K mg base CX0 8 fs fds ["number", "m", "seen"] (spAnsSight PT)) (FS : Fun K "answer_by_sight" "answer_by_sight" sAnsSight fs fds) (bS : Binds K fds ["number", "m", "seen"] []) (mS : mg "answer_by_sight" = some (.ref fs))
    (GR : FnOk P w K mg base CX0 8 fr fdr ["mines", "first"] spSolve) (FR : Fun K "rounds_to_solve" "rounds_to_solve" sSolve fr fdr) (bR : Binds K fdr ["mines", "first"] []) (mR : mg "rounds_to_solve" = some (.ref fr)) : FnOk P w K mg base CX0 9 f fd ["game", "call"] (spAnsTo C PT) := by
  refine F.ok scAnsTo (fun vs H Q E h => ?_) (fun cdv A outer st H vs Q E hr h => ?_)
  · obtain ⟨ga, l, xs, x, g, rfl, _⟩ := h
    rfl
  · obtain ⟨ga, l, xs, x, g, rfl, oc, hga, hok, hl, tb, k⟩ := h
    have hr6 : Room 6 _ := hr.mono (by decide)
    obtain ⟨dx, ha⟩ := hga
    refine ⟨_, pss_cons (ps_set (i := 2) scAnsTo.nd rfl (Or.inl rfl) (pe_ix ix_list (pv 1) pe_int (fun _ _ => rfl)))
      (pss_cons (ps_if (pt_cmpR op_le (pv 2) (pgl TB.tell) (nomark _)) (pss_one (ps_ret (pe_call GG hr6 rfl mgG FG.kp bG .nil pass0 (pa_cons (pv 0) (pa_cons (pv 2) (pa_cons (pe_slice sl_list (pv 1) (po_some pe_int) po_none) pa_nil)))))) pss_nil)
      (pss_cons (ps_if (pt_cmpR op_le (pv 2) (pgl TB.best) (nomark _)) (pss_one (ps_ret (pe_call GS hr rfl mS FS.kp bS .nil pass0 (pa_cons (pv 2) (pa_cons (pe_ix ix_list (pv 1) pe_int (fun _ _ => rfl)) (pa_cons (pe_slice sl_list (pv 1) (po_some pe_int) po_none) pa_nil)))))) pss_nil)
      (pss_one (ps_ret (pe_lst (pa_cons (pe_call GR hr rfl mR FR.kp bR .nil pass0 (pa_cons (pe_ix ix_list (pv 1) pe_int (fun _ _ => rfl)) (pa_cons (pe_ix ix_list (pv 1) pe_int (fun _ _ => rfl)) pa_nil))) pa_nil)))))), ?_⟩
    cases oc with
    | game gc =>
      rename_i zs p
      have hp : p ≤ 4 := by cases gc <;> decide
      refine ⟨_, rfl, l, _, _, _, rfl, rfl, SqL.of hl, at_of (j := 0) (v := V.int p) rfl rfl, ?_⟩
      refine ⟨_, rfl, _, _, rfl, rfl, _, rfl, ite2 (fun h1 => ?_) fun h1 => ?_⟩
      · refine ⟨_, rfl, _, rfl, _, rfl, _, rfl, l, _, rfl, SqL.of hl, fun q hq => ?_⟩
        have e1 : cutV ((p :: zs).map V.int) (some 1) none = zs.map V.int := cut_from ((p :: zs).map V.int) 1 (by simp)
        rw [e1]
        have s1 : Same H (upd H q (.lst (zs.map V.int))) := Same.new hq
        refine ⟨ga, q, p, zs, x, g, rfl, gc, ⟨dx, s1 _ _ ha⟩, hok, upd_same, fun H2 r k2 g2 hr2 h2 => ?_⟩
        exact k H2 r (KeepT.of ((Keep.of s1).trans k2)) (tb.keep ((Keep.of s1).trans k2) ha) g2 (s1.free hr2) h2
      · exact absurd (decide_eq_true hp) h1
    | sight sc hs =>
      rename_i p m mk s
      have hp : ¬ p ≤ 4 := by cases sc <;> decide
      have hp8 : p ≤ 8 := by cases sc <;> decide
      refine ⟨_, rfl, l, _, _, _, rfl, rfl, SqL.of hl, at_of (j := 0) (v := V.int p) rfl rfl, ?_⟩
      refine ⟨_, rfl, _, _, rfl, rfl, _, rfl, ite2 (fun h1 => ?_) fun h1 => ?_⟩
      · exact absurd (of_decide_eq_true h1) hp
      refine ⟨_, rfl, _, _, rfl, rfl, _, rfl, ite2 (fun h1 => ?_) fun h1 => ?_⟩
      · refine ⟨_, rfl, _, rfl, l, _, _, _, rfl, rfl, SqL.of hl, at_of (j := 1) (v := V.int m) rfl rfl, _, rfl, _, rfl, l, _, rfl, SqL.of hl, fun q hq => ?_⟩
        have e1 : cutV ((p :: m :: 60 :: s.map fun n : Nat => (n : Int)).map V.int) (some 3) none = nvs s := by
          have := cut_from ((p :: m :: 60 :: s.map fun n : Nat => (n : Int)).map V.int) 3 (by simp)
          refine this.trans ?_
          show (s.map fun n : Nat => (n : Int)).map V.int = nvs s
          unfold nvs; rw [List.map_map]; rfl
        rw [e1]
        have s1 : Same H (upd H q (.lst (nvs s))) := Same.new hq
        refine ⟨p, m, q, s, mk, rfl, sc, upd_same, hs, tb.same s1, fun H2 r s2 t2 hr2 h2 => ?_⟩
        have e2 : ∀ g, Kg33.does g (mk s m) = (g, ansOf (mk s m)) := by intro g; cases sc <;> rfl
        refine k H2 r (KeepT.ofT ((SameT.of s1).trans s2)) t2 ?_ (s1.free hr2) ?_
        · rw [e2]; exact ⟨dx, s2 _ _ (s1 _ _ ha) (tb.ne ha (by intro φ z; cases z))⟩
        · rw [e2]; exact h2
      · exact absurd (decide_eq_true hp8) h1
    | solved m c =>
      refine ⟨_, rfl, l, _, _, _, rfl, rfl, SqL.of hl, at_of (j := 0) (v := V.int 9) rfl rfl, ?_⟩
      refine ⟨_, rfl, _, _, rfl, rfl, _, rfl, iteF ?_⟩
      refine ⟨_, rfl, _, _, rfl, rfl, _, rfl, iteF ?_⟩
      refine ⟨_, rfl, l, _, _, _, rfl, rfl, SqL.of hl, at_of (j := 1) (v := V.int (m : Int)) rfl rfl, _, rfl, l, _, _, _, rfl, rfl, SqL.of hl, at_of (j := 2) (v := V.int c) rfl rfl, m, c, rfl, fun H1 s1 => ⟨(by show 1 ≤ sizeLine; decide), fun q hq => ?_⟩⟩
      have e2 : Kg33.does g (.solved m c) = (g, ansOf (.solved m c)) := rfl
      have hqa : q ≠ ga := (ne_of_none (s1 _ _ ha) hq).symm
      refine k _ q (KeepT.of (Keep.of (s1.trans (Same.new hq)))) (tb.same (s1.trans (Same.new hq))) ?_ (s1.free hq) ?_
      · rw [e2]; exact ⟨dx, by rw [upd_ne hqa.symm]; exact s1 _ _ ha⟩
      · rw [upd_same, e2]; rfl

theorem scAns : FnScope ["calls", "game", "answered", "place", "behind", "answer"] ["calls"] (defScope sAns) := ⟨rfl, rfl, rfl, by decide +kernel, rfl, by decide +kernel, by decide +kernel⟩
theorem ok_ans {f ft fi aL PT : Addr} {fd fdt fdi : FuncData} (F : Fun K "answers" "answers" sAns f fd) (T : TxtG K mg C) (TS : TxtS mg)
    (mkG : Mk K C fi) (gi : FnOk P w K mg base CX0 3 fi fdi ["self"] (spInitG C)) (bi : Binds K fdi ["self"] []) (mgG : mg "Game" = some (.ref C))
    (GT : FnOk P w K mg base CX0 9 ft fdt ["game", "call"] (spAnsTo C PT)) (FT : Fun K "answer_to" "answer_to" sAnsTo ft fdt) (bT : Binds K fdt ["game", "call"] []) (mT : mg "answer_to" = some (.ref ft))
    (hL : KTD.keyedLook (fun b => K.lookup b) aL lens = true) (mL : mg "CALL_LENGTHS" = some (.ref aL)) : FnOk P w K mg base CX0 10 f fd ["calls"] (spAns K PT) := by
  refine F.ok scAns (fun vs H Q E h => ?_) (fun cdv A outer st H vs Q E hr h => ?_)
  · obtain ⟨a, l, rfl, _⟩ := h
    rfl
  · obtain ⟨a, l, rfl, hS, hlen, hask, tb0, kk⟩ := h
    have hr4 : Room 4 _ := hr.mono (by decide)
    refine ⟨_, pss_cons (ps_set (i := 1) scAns.nd rfl (Or.inl rfl) (pe_make0 mkG gi hr4 rfl mgG bi .nil pass0))
      (pss_cons (ps_set (i := 2) scAns.nd rfl (Or.inl rfl) (pe_lst pa_nil))
      (pss_cons (ps_set (i := 3) scAns.nd rfl (Or.inl rfl) pe_int)
      (pss_cons (ps_while PassesOwn.never (pt_cmpR op_lt (pv 3) (pe_callB call_len_seq rfl TS.len PySem.boot_len (pa_cons (pv 0) pa_nil)) (nomark _))
        (pss_cons (ps_set (i := 4) scAns.nd rfl (Or.inl rfl) (pe_op op_add (pv 3) (pe_own hL rfl mL (pe_ix ix_list (pv 0) (pv 3) (fun _ _ => rfl)) (fun _ _ => rfl))))
        (pss_cons (ps_set (i := 5) scAns.nd rfl (Or.inl rfl) (pe_call GT hr rfl mT FT.kp bT .nil pass0 (pa_cons (pv 1) (pa_cons (pe_slice sl_list (pv 0) (po_some (pv 3)) (po_some (pv 4))) pa_nil))))
        (pss_cons (ps_expr (pe_bm PySem.F.plainAttrs_list PySem.F.slot_list_append PySem.F.type_list_append mt_append (pv 2) (pa_cons (pe_callB call_len_seq rfl TS.len PySem.boot_len (pa_cons (pv 5) pa_nil)) pa_nil)))
        (pss_cons (ps_expr (pe_bm PySem.F.plainAttrs_list PySem.F.slot_list_extend PySem.F.type_list_extend mt_extend (pv 2) (pa_cons (pv 5) pa_nil)))
        (pss_one (ps_set (i := 3) scAns.nd rfl (Or.inl rfl) (pv 4))))))))
      (pss_one (ps_ret (pv 2)))))), ?_⟩
    obtain ⟨cs0, hmany, hcs, hdue⟩ := asked_of hask
    intro ga dg ng ndg neg
    refine ⟨ga, dg, rfl, upd_same, fun H1 k1 g1 => ⟨rfl, ?_⟩⟩
    have s1 : Same H H1 := Same.made ng ndg k1
    refine ⟨Nat.zero_le _, fun q hq => ?_⟩
    have hq0 : H q = none := s1.free hq
    obtain ⟨dx1, g1⟩ := g1
    have nqa : ga ≠ q := ne_of_none g1 hq
    have hgo : GameOk (Kg33.begin_ 0) := ⟨by show 0 < 2 ^ 60; decide, by show 0 < 2 ^ 60; decide, by show 0 < 2 ^ 60; decide⟩
    refine ⟨fun mm σ H' => ∃ (done rest acc : List Int) (cs : List (List (List Int))) (g : Kg33.Game) (v4 v5 : Option V), σ = [some (.ref a), some (.ref ga), some (.ref q), some (.int (done.length : Int)), v4, v5] ∧ SameT PT H H' ∧ Tb PT H' ∧ GameAt C H' ga g ∧ GameOk g ∧ H' q = some (.lst (acc.map V.int)) ∧
        l = done ++ rest ∧ Many rest cs ∧ acc ++ PyFlat.told (PyFlat.played Kg33Neutral.step g cs) = PyKg33.answers l ∧ acc.length + 62 * cs.length ≤ 24800 ∧ mm = rest.length,
      ⟨l.length, [], l, [], cs0, Kg33.begin_ 0, none, none, rfl, SameT.of (s1.trans (Same.new hq)), tb0.same (s1.trans (Same.new hq)), ⟨dx1, by rw [upd_ne nqa]; exact g1⟩, hgo, upd_same, rfl, hmany, by rw [hdue]; rfl, by simp; omega, rfl⟩, ?_⟩
    rintro mm σ H2 ⟨done, rest, acc, cs, g, v4, v5, rfl, s2, t2, ⟨dx2, g2⟩, ok2, q2, el, hm, hd, hl2, rfl⟩
    have hll : l.length = done.length + rest.length := by rw [el, List.length_append]
    refine ⟨_, rfl, _, rfl, a, _, rfl, .inl (sql_sameT hS tb0 s2), _, _, rfl, rfl, _, rfl, ite2 (fun h3 => ?_) fun h3 => ?_⟩
    · have h3 : (done.length : Int) < ((l.map V.int).length : Int) := of_decide_eq_true h3
      rw [List.length_map] at h3
      cases hm with
      | nil => simp at hll; omega
      | cons ho hm' =>
        rename_i c t cs'
        obtain ⟨xs, x, ex, oc, est⟩ := one_split ho
        obtain ⟨p, r, exs, edat⟩ := okC_len oc
        have hxl : 0 < xs.length := by rw [exs]; simp
        refine ⟨fun σ' H' => ∃ m', m' < rest.length ∧ ∃ (done rest acc : List Int) (cs : List (List (List Int))) (g : Kg33.Game) (v4 v5 : Option V), σ' = [some (.ref a), some (.ref ga), some (.ref q), some (.int (done.length : Int)), v4, v5] ∧ SameT PT H H' ∧ Tb PT H' ∧ GameAt C H' ga g ∧ GameOk g ∧ H' q = some (.lst (acc.map V.int)) ∧
          l = done ++ rest ∧ Many rest cs ∧ acc ++ PyFlat.told (PyFlat.played Kg33Neutral.step g cs) = PyKg33.answers l ∧ acc.length + 62 * cs.length ≤ 24800 ∧ m' = rest.length, fun _ _ z => z, ?_⟩
        have hat : (l.map V.int)[done.length]? = some (V.int p) := by
          rw [List.getElem?_map, el, List.getElem?_append_right (Nat.le_refl _), Nat.sub_self, ex, exs]; rfl
        refine ⟨_, rfl, _, rfl, _, rfl, a, _, _, _, rfl, rfl, sql_sameT hS tb0 s2, at_of (j := done.length) rfl hat, p, _, rfl, edat, _, _, rfl, rfl, ?_⟩
        refine ⟨_, rfl, _, rfl, _, rfl, _, rfl, _, rfl, _, rfl, a, _, rfl, sql_sameT hS tb0 s2, fun z hz => ?_⟩
        have ecut : cutV (l.map V.int) (some (done.length : Int)) (some ((done.length : Int) + (xs.length : Int))) = xs.map V.int := by
          have e1 : (done.length : Int) + (xs.length : Int) = (((done.map V.int).length + (xs.map V.int).length : Nat) : Int) := by rw [List.length_map, List.length_map]; omega
          rw [e1, show (done.length : Int) = ((done.map V.int).length : Int) by rw [List.length_map], el, ex, List.map_append, List.map_append]
          exact cut_mid _ _ _
        rw [ecut]
        have s3 : Same H2 (upd H2 z (.lst (xs.map V.int))) := Same.new hz
        refine ⟨ga, z, xs, x, g, rfl, oc, ⟨dx2, s3 _ _ g2⟩, ok2, upd_same, t2.same s3, fun H4 y k4 t4 g4 hy h4 => ?_⟩
        have nqP : q ≠ PT := t2.ne q2 (by intro φ z; cases z)
        have nqg : q ≠ ga := nqa.symm
        have q4 : H4 q = some (.lst (acc.map V.int)) := k4 _ _ (s3 _ _ q2) nqg nqP
        have s04 : SameT PT H H4 := fun b o hb hn => k4 _ _ (s3 _ _ (s2 _ _ hb hn)) (ne_of_none hb ng) hn
        have updS : ∀ {Hx : Hp} {o : HO}, SameT PT H Hx → SameT PT H (L2.upd Hx q o) := fun {Hx o} sx b u hb hn => by rw [upd_ne (ne_of_none hb hq0)]; exact sx b u hb hn
        have updT : ∀ {Hx : Hp} {o : HO} {xs : List V}, Tb PT Hx → Hx q = some (.lst xs) → Tb PT (L2.upd Hx q o) := fun {Hx o xs} tx hx => by
          have ne : ∀ {b : Addr} {φ : Heap → Prop}, Hx b = some (.ext φ) → b ≠ q := fun {b φ} e z => by rw [z, hx] at e; cases e
          rcases tx with t | ⟨c, n, e1, e2⟩
          · exact .inl (by rw [upd_ne (ne t)]; exact t)
          · exact .inr ⟨c, n, by rw [upd_ne (ne e1)]; exact e1, by rw [upd_ne (ne e2)]; exact e2⟩
        have hol := out_len g x
        have hyq : y ≠ q := (ne_of_none (s3 _ _ q2) hy).symm
        have hlenA : (ansV (Kg33.does g x).2).length = (Kg33.does g x).2.out.length + 1 := by
          unfold ansV; rw [List.length_cons, nvs_len]
        refine ⟨_, rfl, .inl ⟨rfl, _, SqL.of q4⟩, _, rfl, y, _, rfl, .inl (SqL.of h4), q, _, _, rfl, rfl, q4, (by rw [List.length_map]; exact Nat.lt_of_le_of_lt (show _ ≤ 24800 by omega) (by decide)), ?_⟩
        have y5 : (upd H4 q (.lst (acc.map V.int ++ [V.int ((ansV (Kg33.does g x).2).length : Int)]))) y = some (.lst (ansV (Kg33.does g x).2)) := by rw [upd_ne hyq]; exact h4
        refine ⟨_, rfl, .inl ⟨rfl, _, SqL.of upd_same⟩, _, rfl, q, y, _, _, rfl, rfl, upd_same, y5, ?_, ?_⟩
        · rw [List.length_append, List.length_map, hlenA]
          refine Nat.le_trans (show _ ≤ 24800 + 100 from ?_) (by decide)
          rw [List.length_singleton]
          rw [List.length_cons] at hl2
          omega
        · obtain ⟨dx4, g4'⟩ := g4
          refine ⟨_, rfl, _, ?_, done ++ xs, t, acc ++ ((((Kg33.does g x).2.out.length + 1 : Nat) : Int) :: (Kg33.does g x).2.value :: (Kg33.does g x).2.out.map fun n : Nat => (n : Int)), cs', (Kg33.does g x).1, some (.int ((done.length : Int) + (xs.length : Int))), some (.ref y), ?_, ?_, updT (updT t4 q4) upd_same, ⟨dx4, ?_⟩, does_ok ok2 x, ?_, ?_, hm', ?_, ?_, rfl⟩
          · rw [ex, List.length_append]; omega
          · have e1 : ((done ++ xs).length : Int) = (done.length : Int) + (xs.length : Int) := by rw [List.length_append]; omega
            rw [e1]; rfl
          · exact updS (updS s04)
          · rw [upd_ne nqa, upd_ne nqa]; exact g4'
          · rw [upd_same, hlenA, ansV_eq, List.map_append, List.map_cons, List.append_assoc]; rfl
          · rw [el, ex, List.append_assoc]
          · rw [← hd, told_cons, est, List.append_assoc]
            congr 1
            show _ = (((((Kg33.does g x).2.value :: (Kg33.does g x).2.out.map fun n : Nat => (n : Int)).length : Nat) : Int) :: _) ++ _
            rw [List.length_cons, List.length_map]
          · rw [List.length_append, List.length_cons, List.length_cons, List.length_map]
            rw [List.length_cons] at hl2
            omega
    · have h3 : ¬ (done.length : Int) < ((l.map V.int).length : Int) := fun z => h3 (decide_eq_true z)
      rw [List.length_map] at h3
      have hr0 : rest = [] := List.eq_nil_of_length_eq_zero (by omega)
      subst hr0
      cases hm with
      | nil =>
        have e1 : acc = PyKg33.answers l := by rw [← hd]; simp [PyFlat.played, PyFlat.told]
        subst e1
        exact ⟨_, rfl, kk H2 q t2 q2⟩
      | cons ho _ => cases ho
end
end SM
end
section
section
set_option Elab.async false
set_option linter.all false
set_option maxRecDepth 100000
set_option maxHeartbeats 2000000
namespace L2
open PySem PySem.Spec PyProof.Rows
open PySem.W (WData Codec OpenSpec Well WellAll ReadsW ReadsAllW)
/-! ### an answer as data -/
mutual
/-- x stands for the datum d, lists and tuples all the way -/
inductive Dw (K : PySem.W.Frag) (H : Hp) : V → WData → Prop
  | non : Dw K H .non .none
  | bl (b : Bool) : Dw K H (.bl b) (.bool b)
  | int (i : Int) : Dw K H (.int i) (.int i)
  | str (x : Str) : Dw K H (.str x) (.str x)
  | byt (b : Array UInt8) : Dw K H (.byt b) (.bytes b.toList)
  | lst {a : Addr} {xs : List V} {ds : List WData} : SqL K H a xs → DwAll K H xs ds → Dw K H (.ref a) (.list ds)
  | tup {a : Addr} {xs : List V} {ds : List WData} : SqT K H a xs → DwAll K H xs ds → Dw K H (.ref a) (.tuple ds)
inductive DwAll (K : PySem.W.Frag) (H : Hp) : List V → List WData → Prop
  | nil : DwAll K H [] []
  | cons {v : V} {vs : List V} {d : WData} {ds : List WData} : Dw K H v d → DwAll K H vs ds → DwAll K H (v :: vs) (d :: ds)
end
theorem dw_ints {K : PySem.W.Frag} {H : Hp} : ∀ ns : List Int, DwAll K H (ns.map V.int) (ns.map WData.int)
  | [] => .nil
  | n :: r => .cons (.int n) (dw_ints r)
theorem ints_dw {K : PySem.W.Frag} {H : Hp} : ∀ (ns : List Int) (xs : List V), DwAll K H xs (ns.map WData.int) → xs = ns.map V.int
  | [], xs, h => by
    cases h
    rfl
  | n :: r, xs, h => by
    cases h with
    | cons h1 h2 =>
      cases h1
      rw [ints_dw r _ h2] <;> rfl
section
variable {P : Program} {w : World} {K : PySem.W.Frag} {H : Hp} {h : Heap} {R : PySem.W.WRecords} {cl : Str → Option Addr}
theorem sqL_at {a : Addr} {xs : List V} (hok : HOk P w H h) (KX : K.In h) (q : SqL K H a xs) : ∃ (its : List Value) (o : Obj) (n : Nat), Vals xs its ∧ h.get? a = some o ∧ o.cls = .type "list" ∧ o.data = .seq its.toArray n := by
  rcases q with q | ⟨o, its, n, e, hc, _, hd, _, hv⟩
  · obtain ⟨_, its, n, hv, e⟩ := (show ObjOk P w H h a (.lst xs) from q.ok hok)
    exact ⟨its, _, n, hv, e, rfl, rfl⟩
  · exact ⟨its.toList, o, n, hv, KX _ _ e, hc, by simp [hd]⟩
theorem sqT_at {a : Addr} {xs : List V} (hok : HOk P w H h) (KX : K.In h) (q : SqT K H a xs) : ∃ (its : List Value) (o : Obj) (n : Nat), Vals xs its ∧ h.get? a = some o ∧ o.cls = .type "tuple" ∧ o.data = .seq its.toArray n := by
  rcases q with q | ⟨o, its, n, e, hc, hd, _, hv⟩
  · obtain ⟨_, its, hv, o, e, hc, n, hd⟩ := (show ObjOk P w H h a (.tup xs) from q.ok hok)
    exact ⟨its, o, n, hv, e, hc, hd⟩
  · exact ⟨its.toList, o, n, hv, KX _ _ e, hc, by simp [hd]⟩
mutual
theorem Dw.reads (hok : HOk P w H h) (KX : K.In h) : ∀ (d : WData) (v : V) (u : Value), Dw K H v d → RelV v u → ∃ as, ReadsW R cl h u d as
  | .none, _, _, x, r => by
    cases x
    cases r
    exact ⟨_, ReadsW.none⟩
  | .bool b, _, _, x, r => by
    cases x
    cases r
    exact ⟨_, ReadsW.bool b⟩
  | .int i, _, _, x, r => by
    cases x
    obtain ⟨t, rfl⟩ := r
    exact ⟨_, ReadsW.int i t⟩
  | .str s, _, _, x, r => by
    cases x
    obtain ⟨t, rfl⟩ := r
    exact ⟨_, ReadsW.str s t⟩
  | .bytes b, _, _, x, r => by
    cases x
    obtain ⟨t, rfl⟩ := r
    exact ⟨_, ReadsW.bytes _ t⟩
  | .list ds, _, _, x, r => by
    cases x with
    | lst hs ha =>
      cases r
      obtain ⟨its, o, n, rv, ho, hc, hd⟩ := sqL_at hok KX hs
      obtain ⟨as, hr⟩ := Dw.readsAll hok KX ds _ its ha rv
      exact ⟨_, ReadsW.list ho hc hd hr⟩
  | .tuple ds, _, _, x, r => by
    cases x with
    | tup hs ha =>
      cases r
      obtain ⟨its, o, n, rv, ho, hc, hd⟩ := sqT_at hok KX hs
      obtain ⟨as, hr⟩ := Dw.readsAll hok KX ds _ its ha rv
      exact ⟨_, ReadsW.tuple ho hc hd hr⟩
  | .float _, _, _, x, _ => by cases x
  | .dict _, _, _, x, _ => by cases x
  | .bytearray _, _, _, x, _ => by cases x
  | .set _, _, _, x, _ => by cases x
  | .frozenset _, _, _, x, _ => by cases x
  | .obj _ _, _, _, x, _ => by cases x
theorem Dw.readsAll (hok : HOk P w H h) (KX : K.In h) : ∀ (ds : List WData) (vs : List V) (us : List Value), DwAll K H vs ds → Vals vs us → ∃ as, ReadsAllW R cl h us ds as
  | [], _, _, x, r => by
    cases x
    cases r
    exact ⟨_, ReadsAllW.nil⟩
  | d :: ds, _, _, x, r => by
    cases x with
    | cons h1 h2 =>
      cases r with
      | cons r1 r2 =>
        obtain ⟨as, q1⟩ := Dw.reads hok KX d _ _ h1 r1
        obtain ⟨bs, q2⟩ := Dw.readsAll hok KX ds _ _ h2 r2
        exact ⟨_, ReadsAllW.cons q1 q2⟩
end
end
/-! ### the arguments -/
mutual
/-- data that a codec tells -/
def plW : WData → Bool
  | .none => true
  | .bool _ => true
  | .int _ => true
  | .str _ => true
  | .bytes _ => true
  | .list xs => plWs xs
  | .tuple xs => plWs xs
  | _ => false
def plWs : List WData → Bool
  | [] => true
  | x :: r => plW x && plWs r
end
theorem plWs_map {α : Type} {f : α → WData} (h : ∀ a, plW (f a) = true) : ∀ l : List α, plWs (l.map f) = true
  | [] => rfl
  | x :: r => by
    show (plW (f x) && plWs (r.map f)) = true
    rw [h x, plWs_map h r] <;> rfl
theorem pl_enc : ∀ (c : Codec) (a : c.denote), plW (c.enc a) = true
  | .unit, _ => rfl
  | .bool, _ => rfl
  | .int _ _, _ => rfl
  | .nat _ _, _ => rfl
  | .u8, _ => rfl
  | .bytes _ _, _ => rfl
  | .text _ _ _ _, _ => rfl
  | .list _ _ c, a => plWs_map (fun x => pl_enc c x) a
  | .pair c d, a => by
    show (plW (c.enc a.1) && (plW (d.enc a.2) && true)) = true
    rw [pl_enc c a.1, pl_enc d a.2] <;> rfl
  | .triple c d e, a => by
    show (plW (c.enc a.1) && (plW (d.enc a.2.1) && (plW (e.enc a.2.2) && true))) = true
    rw [pl_enc c a.1, pl_enc d a.2.1, pl_enc e a.2.2] <;> rfl
  | .option c, none => rfl
  | .option c, some x => pl_enc c x
theorem pl_encAll : ∀ (cs : List Codec) (a : Codec.denoteAll cs), plWs (Codec.encAll cs a) = true
  | [], _ => rfl
  | c :: cs, a => by
    show (plW (c.enc a.1) && plWs (Codec.encAll cs a.2)) = true
    rw [pl_enc c a.1, pl_encAll cs a.2] <;> rfl
theorem weight_mem : ∀ {xs : List WData} {d : WData}, d ∈ xs → d.weight ≤ WData.weightAll xs
  | [], d, h => absurd h (by simp)
  | x :: r, d, h => by
    show d.weight ≤ x.weight + 1 + WData.weightAll r
    rcases List.mem_cons.mp h with e | m
    · rw [e]
      omega
    · have z := weight_mem m
      omega
def toV : Value → V
  | .none => .non
  | .bool b => .bl b
  | .int i _ => .int i
  | .str x _ => .str x
  | .bytes b _ => .byt b
  | .ref a => .ref a
  | _ => .non
/-- a value of the arguments, its objects among A -/
def OkU (A : List Addr) : Value → Prop
  | .none => True
  | .bool _ => True
  | .int _ _ => True
  | .str _ _ => True
  | .bytes _ _ => True
  | .ref a => a ∈ A
  | _ => False
theorem OkU.mono {A B : List Addr} (h : ∀ a ∈ A, a ∈ B) : ∀ {u : Value}, OkU A u → OkU B u := fun {u} x => by
  cases u with
  | ref a => exact h a x
  | none => trivial
  | bool b => trivial
  | int i t => trivial
  | str s t => trivial
  | bytes b t => trivial
  | _ => exact False.elim x
theorem relV_toV {A : List Addr} {u : Value} (x : OkU A u) : RelV (toV u) u := by
  cases u with
  | ref a => rfl
  | none => rfl
  | bool b => rfl
  | int i t => exact ⟨t, rfl⟩
  | str s t => exact ⟨t, rfl⟩
  | bytes b t => exact ⟨t, rfl⟩
  | _ => exact False.elim x
theorem vals_toV {A : List Addr} : ∀ {vs : List Value}, (∀ u ∈ vs, OkU A u) → Vals (vs.map toV) vs
  | [], _ => .nil
  | u :: r, h => .cons (relV_toV (h u (List.mem_cons_self ..))) (vals_toV fun x hx => h x (List.mem_cons_of_mem _ hx))
/-- an object of the arguments -/
def ArgOb (h : Heap) (A : List Addr) (a : Addr) : Prop := ∃ vs : List Value, vs.length ≤ sizeLine ∧ (∀ u ∈ vs, OkU A u) ∧
  (h.get? a = some { cls := .type "list", data := .seq vs.toArray } ∨ h.get? a = some { cls := .type "tuple", data := .seq vs.toArray })
theorem ArgOb.mono {h : Heap} {A B : List Addr} {a : Addr} (k : ∀ a ∈ A, a ∈ B) (x : ArgOb h A a) : ArgOb h B a := by
  obtain ⟨vs, h1, h2, h3⟩ := x
  exact ⟨vs, h1, fun u hu => (h2 u hu).mono k, h3⟩
theorem wellAll_len {P : Params} {h : Heap} : ∀ {vs : List Value} {ds : List WData}, WellAll P h vs ds → vs.length = ds.length
  | _, _, .nil => rfl
  | _, _, .cons _ b => by
    show _ + 1 = _ + 1
    rw [wellAll_len b]
theorem well_list {P : Params} {h : Heap} {v : Value} {ds : List WData} (x : Well P h v (.list ds)) : ∃ (a : Addr) (vs : List Value), v = .ref a ∧ h.get? a = some { cls := .type "list", data := .seq vs.toArray } ∧ WellAll P h vs ds := by
  cases x with
  | list ho hall => exact ⟨_, _, rfl, ho, hall⟩
theorem well_tuple {P : Params} {h : Heap} {v : Value} {ds : List WData} (x : Well P h v (.tuple ds)) : ∃ (a : Addr) (vs : List Value), v = .ref a ∧ h.get? a = some { cls := .type "tuple", data := .seq vs.toArray } ∧ WellAll P h vs ds := by
  cases x with
  | tuple ho hall => exact ⟨_, _, rfl, ho, hall⟩
theorem well_cons {P : Params} {h : Heap} {us : List Value} {d : WData} {ds : List WData} (x : WellAll P h us (d :: ds)) : ∃ (v : Value) (vs : List Value), us = v :: vs ∧ Well P h v d ∧ WellAll P h vs ds := by
  cases x with
  | cons a b => exact ⟨_, _, rfl, a, b⟩
theorem line_of {n : Nat} (h : n ≤ 1048576) : n ≤ sizeLine := Nat.le_trans h (by decide)
section
variable {P : Params} {h : Heap}
mutual
theorem area_one : ∀ (d : WData) (v : Value), Well P h v d → plW d = true → d.weight ≤ 1048576 → ∃ A : List Addr, OkU A v ∧ ∀ a ∈ A, ArgOb h A a
  | .none, _, x, _, _ => by
    cases x
    exact ⟨[], trivial, fun a m => absurd m (by simp)⟩
  | .bool b, _, x, _, _ => by
    cases x
    exact ⟨[], trivial, fun a m => absurd m (by simp)⟩
  | .int i, _, x, _, _ => by
    cases x
    exact ⟨[], trivial, fun a m => absurd m (by simp)⟩
  | .str s, _, x, _, _ => by
    cases x
    exact ⟨[], trivial, fun a m => absurd m (by simp)⟩
  | .bytes b, _, x, _, _ => by
    cases x
    exact ⟨[], trivial, fun a m => absurd m (by simp)⟩
  | .list ds, _, x, p, z => by
    obtain ⟨a, vs, rfl, ho, hall⟩ := well_list x
    have z2 : WData.weightAll ds ≤ 1048576 := z
    obtain ⟨A, h1, h2⟩ := area_all ds _ hall p fun d hd => Nat.le_trans (weight_mem hd) z2
    have k : ∀ b ∈ A, b ∈ a :: A := fun b hb => List.mem_cons_of_mem _ hb
    refine ⟨a :: A, List.mem_cons_self .., fun b hb => ?_⟩
    rcases List.mem_cons.mp hb with e | m
    · rw [e]
      exact ⟨vs, line_of (by rw [wellAll_len hall]; exact Nat.le_trans (PySem.W.length_le_weightAllW ds) z2), fun u hu => (h1 u hu).mono k, .inl ho⟩
    · exact (h2 b m).mono k
  | .tuple ds, _, x, p, z => by
    obtain ⟨a, vs, rfl, ho, hall⟩ := well_tuple x
    have z2 : WData.weightAll ds ≤ 1048576 := z
    obtain ⟨A, h1, h2⟩ := area_all ds _ hall p fun d hd => Nat.le_trans (weight_mem hd) z2
    have k : ∀ b ∈ A, b ∈ a :: A := fun b hb => List.mem_cons_of_mem _ hb
    refine ⟨a :: A, List.mem_cons_self .., fun b hb => ?_⟩
    rcases List.mem_cons.mp hb with e | m
    · rw [e]
      exact ⟨vs, line_of (by rw [wellAll_len hall]; exact Nat.le_trans (PySem.W.length_le_weightAllW ds) z2), fun u hu => (h1 u hu).mono k, .inr ho⟩
    · exact (h2 b m).mono k
  | .float _, _, _, p, _ => Bool.noConfusion (show false = true from p)
  | .dict _, _, _, p, _ => Bool.noConfusion (show false = true from p)
  | .bytearray _, _, _, p, _ => Bool.noConfusion (show false = true from p)
  | .set _, _, _, p, _ => Bool.noConfusion (show false = true from p)
  | .frozenset _, _, _, p, _ => Bool.noConfusion (show false = true from p)
  | .obj _ _, _, _, p, _ => Bool.noConfusion (show false = true from p)
theorem area_all : ∀ (ds : List WData) (vs : List Value), WellAll P h vs ds → plWs ds = true → (∀ d ∈ ds, d.weight ≤ 1048576) → ∃ A : List Addr, (∀ u ∈ vs, OkU A u) ∧ ∀ a ∈ A, ArgOb h A a
  | [], _, x, _, _ => by
    cases x
    exact ⟨[], fun u m => absurd m (by simp), fun a m => absurd m (by simp)⟩
  | d :: ds, _, x, p, z => by
    obtain ⟨v, vs, rfl, x1, x2⟩ := well_cons x
    have q : plW d = true ∧ plWs ds = true := Bool.and_eq_true_iff.mp p
    obtain ⟨A, a1, a2⟩ := area_one d v x1 q.1 (z d (List.mem_cons_self ..))
    obtain ⟨B, b1, b2⟩ := area_all ds vs x2 q.2 fun e he => z e (List.mem_cons_of_mem _ he)
    have kA : ∀ b ∈ A, b ∈ A ++ B := fun b hb => List.mem_append.mpr (.inl hb)
    have kB : ∀ b ∈ B, b ∈ A ++ B := fun b hb => List.mem_append.mpr (.inr hb)
    refine ⟨A ++ B, fun u hu => ?_, fun b hb => ?_⟩
    · rcases List.mem_cons.mp hu with e | m
      · rw [e]
        exact a1.mono kA
      · exact (b1 u m).mono kB
    · rcases List.mem_append.mp hb with m | m
      · exact (a2 b m).mono kA
      · exact (b2 b m).mono kB
end
end
/-- what is tracked of an argument's object -/
def hoOf (o : Obj) : Option HO := match o.data with
  | .seq vs _ => if (o.cls == Value.type "list") = true then some (.frz o (.lst (vs.toList.map toV))) else some (.frz o (.tup (vs.toList.map toV)))
  | _ => none
def argH (K : PySem.W.Frag) (h : Heap) (A : List Addr) : Hp := fun b => if b ∈ A then (if (K.lookup b).isNone = true then (h.get? b).bind hoOf else none) else none
/-- nothing is tracked but what is known to the object -/
def OnlyF (H : Hp) : Prop := ∀ b, H b = none ∨ ∃ o u, H b = some (.frz o u)
theorem hoOf_lst (vs : List Value) : hoOf { cls := .type "list", data := .seq vs.toArray } = some (.frz { cls := .type "list", data := .seq vs.toArray } (.lst (vs.map toV))) := by
  show (if (Value.type "list" == Value.type "list") = true then some (HO.frz { cls := .type "list", data := .seq vs.toArray } (.lst (vs.toArray.toList.map toV))) else some (HO.frz { cls := .type "list", data := .seq vs.toArray } (.tup (vs.toArray.toList.map toV)))) = _
  rw [if_pos (beq_self_eq_true _)]
theorem hoOf_tup (vs : List Value) : hoOf { cls := .type "tuple", data := .seq vs.toArray } = some (.frz { cls := .type "tuple", data := .seq vs.toArray } (.tup (vs.map toV))) := by
  show (if (Value.type "tuple" == Value.type "list") = true then some (HO.frz { cls := .type "tuple", data := .seq vs.toArray } (.lst (vs.toArray.toList.map toV))) else some (HO.frz { cls := .type "tuple", data := .seq vs.toArray } (.tup (vs.toArray.toList.map toV)))) = _
  rw [if_neg (by decide)]
section
variable {P : Program} {w : World} {K : PySem.W.Frag} {h : Heap} {A : List Addr}
theorem argH_at {b : Addr} {o : Obj} (hb : b ∈ A) (hk : K.lookup b = none) (e : h.get? b = some o) : argH K h A b = hoOf o := by
  unfold argH
  rw [if_pos hb, hk, if_pos (show (none : Option Obj).isNone = true from rfl), e] <;> rfl
theorem of_argH {b : Addr} {u : HO} (q : argH K h A b = some u) : b ∈ A ∧ K.lookup b = none := by
  unfold argH at q
  by_cases hb : b ∈ A
  · rw [if_pos hb] at q
    cases hk : K.lookup b with
    | none => exact ⟨hb, rfl⟩
    | some o =>
      rw [hk, if_neg (by simp)] at q
      cases q
  · rw [if_neg hb] at q
    cases q
/-- what stands tracked -/
theorem argH_is (ar : ∀ a ∈ A, ArgOb h A a) {b : Addr} {u : HO} (q : argH K h A b = some u) : K.lookup b = none ∧ ∃ vs : List Value, vs.length ≤ sizeLine ∧ (∀ u ∈ vs, OkU A u) ∧
    ((h.get? b = some { cls := .type "list", data := .seq vs.toArray } ∧ u = .frz { cls := .type "list", data := .seq vs.toArray } (.lst (vs.map toV))) ∨
     (h.get? b = some { cls := .type "tuple", data := .seq vs.toArray } ∧ u = .frz { cls := .type "tuple", data := .seq vs.toArray } (.tup (vs.map toV)))) := by
  obtain ⟨hb, hk⟩ := of_argH q
  obtain ⟨vs, h1, h2, h3⟩ := ar b hb
  refine ⟨hk, vs, h1, h2, ?_⟩
  rcases h3 with e | e
  · rw [argH_at hb hk e, hoOf_lst] at q
    exact .inl ⟨e, (Option.some.inj q).symm⟩
  · rw [argH_at hb hk e, hoOf_tup] at q
    exact .inr ⟨e, (Option.some.inj q).symm⟩
theorem argH_only (ar : ∀ a ∈ A, ArgOb h A a) : OnlyF (argH K h A) := fun b => by
  cases q : argH K h A b with
  | none => exact .inl rfl
  | some u =>
    obtain ⟨_, vs, _, _, ⟨_, e⟩ | ⟨_, e⟩⟩ := argH_is ar q
    · exact .inr ⟨_, _, by rw [e]⟩
    · exact .inr ⟨_, _, by rw [e]⟩
theorem argH_ok (ar : ∀ a ∈ A, ArgOb h A a) : HOk P w (argH K h A) h := fun b u q => by
  obtain ⟨_, vs, h1, h2, ⟨e, rfl⟩ | ⟨e, rfl⟩⟩ := argH_is ar q
  · exact ⟨e, by rw [List.length_map]; exact h1, vs, _, vals_toV h2, e⟩
  · exact ⟨e, by rw [List.length_map]; exact h1, vs, vals_toV h2, _, e, rfl, _, rfl⟩
theorem seq_inj {c c' : Value} {vs us : List Value} (e : (some { cls := c, data := .seq vs.toArray } : Option Obj) = some { cls := c', data := .seq us.toArray }) : c = c' ∧ vs = us := by
  have e1 := Option.some.inj e
  have e2 : c = c' := congrArg Obj.cls e1
  have e3 : Data.seq vs.toArray = Data.seq us.toArray := congrArg Obj.data e1
  injection e3 with e4
  refine ⟨e2, ?_⟩
  have e5 := congrArg Array.toList e4
  simpa using e5
/-- a list argument -/
theorem argL (KX : K.In h) (ar : ∀ a ∈ A, ArgOb h A a) {a : Addr} {vs : List Value} (ha : a ∈ A) (e : h.get? a = some { cls := .type "list", data := .seq vs.toArray }) : (∀ u ∈ vs, OkU A u) ∧ SqL K (argH K h A) a (vs.map toV) := by
  obtain ⟨us, h1, h2, h3⟩ := ar a ha
  have hu : us = vs := by
    rcases h3 with q | q
    · rw [e] at q
      exact (seq_inj q).2.symm
    · rw [e] at q
      exact absurd (Value.type.inj (seq_inj q).1) (by decide)
  subst hu
  refine ⟨h2, ?_⟩
  cases hk : K.lookup a with
  | none => exact .inl (.inr ⟨_, by rw [argH_at ha hk e, hoOf_lst]⟩)
  | some o =>
    have e2 := KX a o hk
    rw [e] at e2
    obtain rfl := Option.some.inj e2
    exact .inr ⟨_, us.toArray, _, hk, rfl, rfl, rfl, by rw [List.size_toArray]; exact h1, by simpa using vals_toV h2⟩
theorem argT (KX : K.In h) (ar : ∀ a ∈ A, ArgOb h A a) {a : Addr} {vs : List Value} (ha : a ∈ A) (e : h.get? a = some { cls := .type "tuple", data := .seq vs.toArray }) : (∀ u ∈ vs, OkU A u) ∧ SqT K (argH K h A) a (vs.map toV) := by
  obtain ⟨us, h1, h2, h3⟩ := ar a ha
  have hu : us = vs := by
    rcases h3 with q | q
    · rw [e] at q
      exact absurd (Value.type.inj (seq_inj q).1) (by decide)
    · rw [e] at q
      exact (seq_inj q).2.symm
  subst hu
  refine ⟨h2, ?_⟩
  cases hk : K.lookup a with
  | none => exact .inl (.inr ⟨_, by rw [argH_at ha hk e, hoOf_tup]⟩)
  | some o =>
    have e2 := KX a o hk
    rw [e] at e2
    obtain rfl := Option.some.inj e2
    exact .inr ⟨_, us.toArray, _, hk, rfl, rfl, by rw [List.size_toArray]; exact h1, by simpa using vals_toV h2⟩
mutual
theorem dw_one {Pm : Params} (KX : K.In h) (ar : ∀ a ∈ A, ArgOb h A a) : ∀ (d : WData) (v : Value), Well Pm h v d → plW d = true → OkU A v → Dw K (argH K h A) (toV v) d
  | .none, _, x, _, _ => by
    cases x
    exact .non
  | .bool b, _, x, _, _ => by
    cases x
    exact .bl b
  | .int i, _, x, _, _ => by
    cases x
    exact .int i
  | .str s, _, x, _, _ => by
    cases x
    exact .str s
  | .bytes b, _, x, _, _ => by
    cases x
    have z := Dw.byt (K := K) (H := argH K h A) b.toArray
    exact z
  | .list ds, _, x, p, hu => by
    obtain ⟨a, vs, rfl, ho, hall⟩ := well_list x
    obtain ⟨h2, hs⟩ := argL KX ar hu ho
    exact .lst hs (dw_all KX ar ds _ hall p h2)
  | .tuple ds, _, x, p, hu => by
    obtain ⟨a, vs, rfl, ho, hall⟩ := well_tuple x
    obtain ⟨h2, hs⟩ := argT KX ar hu ho
    exact .tup hs (dw_all KX ar ds _ hall p h2)
  | .float _, _, _, p, _ => Bool.noConfusion (show false = true from p)
  | .dict _, _, _, p, _ => Bool.noConfusion (show false = true from p)
  | .bytearray _, _, _, p, _ => Bool.noConfusion (show false = true from p)
  | .set _, _, _, p, _ => Bool.noConfusion (show false = true from p)
  | .frozenset _, _, _, p, _ => Bool.noConfusion (show false = true from p)
  | .obj _ _, _, _, p, _ => Bool.noConfusion (show false = true from p)
theorem dw_all {Pm : Params} (KX : K.In h) (ar : ∀ a ∈ A, ArgOb h A a) : ∀ (ds : List WData) (vs : List Value), WellAll Pm h vs ds → plWs ds = true → (∀ u ∈ vs, OkU A u) → DwAll K (argH K h A) (vs.map toV) ds
  | [], _, x, _, _ => by
    cases x
    exact .nil
  | d :: ds, _, x, p, hu => by
    obtain ⟨v, vs, rfl, x1, x2⟩ := well_cons x
    have q : plW d = true ∧ plWs ds = true := Bool.and_eq_true_iff.mp p
    exact .cons (dw_one KX ar d v x1 q.1 (hu _ (List.mem_cons_self ..))) (dw_all KX ar ds vs x2 q.2 fun u m => hu u (List.mem_cons_of_mem _ m))
end
end
/-! ### the call -/
/-! ### the row -/
theorem layable_weight {ds : List WData} (h : WData.layableAll ds = true) : ∀ d ∈ ds, d.weight ≤ 1048576 := fun d hd =>
  (PySem.W.layableW_iff.mp (List.all_eq_true.mp h d hd)).2.2
theorem encAll_len : ∀ (cs : List Codec) (a : Codec.denoteAll cs), (Codec.encAll cs a).length = cs.length
  | [], _ => rfl
  | c :: cs, a => by
    show (Codec.encAll cs a.2).length + 1 = cs.length + 1
    rw [encAll_len cs a.2]
end L2
-- rests on (row put in by the clerk, for the bench that shows a file only what it spells): KE.SpHead KE.OsShapes
end
end
section
set_option Elab.async false
set_option linter.all false
set_option maxRecDepth 100000
set_option maxHeartbeats 4000000
namespace SM
open PySem PySem.Spec PyProof.Rows L2
open PySem.W (WData Codec OpenSpec Well WellAll ReadsW ReadsAllW tabObj CodeHd tabIn noTabs mem_of_lookupK)

theorem notab {K : PySem.W.Frag} {h : Heap} {P : Addr} {ps : Array Value} (X : K.In h) (hK : noTabs K = true) (e : h.get? P = some (tabObj ps)) : K.lookup P = none := by
  cases q : K.lookup P with
  | none => rfl
  | some o =>
    have e2 := X _ _ q
    rw [e] at e2
    cases e2
    have h2 := List.all_eq_true.mp hK (P, tabObj ps) (mem_of_lookupK q)
    exact absurd (show false = true from h2) Bool.false_ne_true

/-- the call: as it is for any row, with a code's table followed -/
theorem spec_callT {P : Program} {w : World} {K : PySem.W.Frag} {mg mb : Str → Option Value} {k : Nat} {fa cT PT : Addr} {fd : FuncData} {ps : List Str} {sp : Sp} {s₁ : Shared} {vals : List Value} {ds : List WData} {R : PySem.W.WRecords} {cl : Str → Option Addr} {d0 : WData}
    (KX : K.In s₁.heap) (hns : s₁.heap.Ns mainGlobals mg) (hb : s₁.heap.Ns builtinsNs mb) (hbb : ∀ x : Str, x ≠ "__name__" → mb x = bootBuiltins x) (hlim : s₁.heap.NoLimit) (hg : s₁.gens = #[])
    (hwl : WellAll w.params s₁.heap vals ds) (hpl : plWs ds = true) (hwt : ∀ d ∈ ds, d.weight ≤ 1048576) (hr : Room k callerA)
    (hT : s₁.heap.get? PT = some (tabObj #[])) (hC : CodeHd s₁.heap cT PT) (hPK : K.lookup PT = none) (hBM : s₁.heap.BuiltinsAt mg PT)
    (F : ∀ base : Heap, K.In base → base.Ns mainGlobals mg → base.BuiltinsAt mg PT → FnOk P w K mg base CX0 k fa fd ps sp) (hbind : ∀ (s : Shared) (us : List Value), us.length = ps.length → BindsTo s fd ⟨us, []⟩ (ps.zip us)) (hlen : ds.length = ps.length)
    (hsp : ∀ (H0 H : Hp) (xs : List V), OnlyF H0 → Same H0 H → Tb PT H → DwAll K H0 xs ds → sp xs H (fun v H' => Dw K H' v d0 ∧ Tb PT H') fun _ _ _ => False) :
    codeAny (model P w) callerA (.call (.ref fa) ⟨vals, []⟩) (fun r s' => ∃ u as, r = .ok (.ret u) ∧ ReadsW R cl s'.heap u d0 as ∧ OldK s₁.heap s'.heap ∧ s'.os = s₁.os ∧ AllBare s'.gens) s₁ := by
  obtain ⟨A, ho, ar⟩ := area_all ds vals hwl hpl hwt
  have hO : OnlyF (argH K s₁.heap A) := argH_only ar
  have hok0 : HOk P w (argH K s₁.heap A) s₁.heap := argH_ok ar
  have hS := dw_all KX ar ds vals hwl hpl ho
  have hV := vals_toV ho
  have hK : ∀ b u, argH K s₁.heap A b = some u → K.lookup b = none := fun b u q => (argH_is ar q).1
  have noS : ∀ {b : Addr} {o : Obj}, s₁.heap.get? b = some o → (∀ vs n, o.data ≠ .seq vs n) → argH K s₁.heap A b = none := fun {b o} e d => by
    cases q : argH K s₁.heap A b with
    | none => rfl
    | some u =>
      obtain ⟨_, vs, _, _, ⟨e2, _⟩ | ⟨e2, _⟩⟩ := argH_is ar q
      · rw [e2] at e
        cases e
        exact absurd rfl (d _ _)
      · rw [e2] at e
        cases e
        exact absurd rfl (d _ _)
  generalize argH K s₁.heap A = H0 at hO hok0 hS hK noS
  have hP0 : H0 PT = none := noS hT (by intro vs n z; cases z)
  obtain ⟨H, hH⟩ : ∃ H : Hp, H = L2.upd H0 PT (TabE PT #[]) := ⟨_, rfl⟩
  have hHP : H PT = some (TabE PT #[]) := by rw [hH, upd_same]
  have hHn : ∀ b, b ≠ PT → H b = H0 b := fun b n => by rw [hH, upd_ne n]
  have s0 : Same H0 H := by rw [hH]; exact Same.new hP0
  have tb : Tb PT H := .inl hHP
  have hok : HOk P w H s₁.heap := fun b u e => by
    by_cases hbP : b = PT
    · subst hbP
      rw [hHP] at e; cases e
      exact tabE_ok hT
    · rw [hHn b hbP] at e
      exact (hok0 b u e).stay (fun _ _ _ q => q) (fun d q => s0 _ _ q) fun d xs q => s0 _ _ q
  have noA : ∀ {b : Addr} {o : Obj} {es : Array DictEntry} {ep : Nat}, s₁.heap.get? b = some o → o.data = .dict es ep → H b = none := fun {b o es ep} e d => by
    have hbP : b ≠ PT := fun z => by rw [z, hT] at e; cases e; cases d
    rw [hHn b hbP]
    exact noS e (by intro vs n z; rw [z] at d; cases d)
  have base_of : ∀ {b : Addr} {o : Obj}, s₁.heap.get? b = some o → H b = none → (hidT s₁.heap H).get? b = some o := fun e n => hidT_get e n
  have nsK : ∀ {b : Addr} {m : Str → Option Value}, s₁.heap.Ns b m → (hidT s₁.heap H).Ns b m := fun {b m} ⟨o, es, ep, e, d, r⟩ => ⟨o, es, ep, base_of e (noA e d), d, r⟩
  have nK : ∀ b o, K.lookup b = some o → H b = none := fun b o e => by
    have hbP : b ≠ PT := fun z => by rw [z, hPK] at e; cases e
    rw [hHn b hbP]
    cases q : H0 b with
    | none => rfl
    | some u =>
      rw [hK b u q] at e
      cases e
  have hKb : K.In (hidT s₁.heap H) := fun b o e => base_of (KX b o e) (nK b o e)
  have hM : Mod K mg (hidT s₁.heap H) := ⟨hKb, nsK hns, ⟨mb, nsK hb, hbb⟩, let ⟨mc, h1, h2⟩ := hlim; ⟨mc, nsK h1, h2⟩⟩
  have hBMb : (hidT s₁.heap H).BuiltinsAt mg PT := by
    obtain ⟨bm, o, a1, a2, a3, a4, a5, a6, a7, a8⟩ := hBM
    refine ⟨bm, o, a1, a2, a3, a4, base_of a5 ?_, a6, a7, a8⟩
    rw [hHn bm a4]
    exact noS a5 (by intro vs n z; rw [z] at a8; cases a8)
  have e0 : Env0 P w K mg (hidT s₁.heap H) callerA [] s₁ H := ⟨rfl, hM, fun b o e => of_hidT e, Nat.le_of_eq (hidT_size _ _), trivial, fun b hb => absurd (show b ∈ ([] : List Addr) from hb) (by simp), hok, .of_eq hg⟩
  have hl : vals.length = ps.length := by rw [wellAll_len hwl]; exact hlen
  refine codeAny_mono ((F _ hKb (nsK hns) hBMb).run callerA [] s₁ H ⟨vals, []⟩ vals (vals.map toV) _ _ hr e0 (hbind s₁ vals hl) hV (hsp H0 H _ hO s0 tb hS)) fun r s' x => ?_
  cases r with
  | error e => exact False.elim x
  | ok fl =>
    cases fl with
    | next => exact False.elim x
    | brk => exact False.elim x
    | cont => exact False.elim x
    | ret u =>
      obtain ⟨v, H', os, bare, un, hok', r', q, tb'⟩ := x
      have kept : ∀ b o, b ≠ PT → s₁.heap.get? b = some o → s'.heap.get? b = some o := fun b o nb e => by
        cases q2 : H b with
        | none => exact un.keep b o e q2 (by intro z; exact absurd (show b ∈ ([] : List Addr) from z) (by simp)) (by simp)
        | some u2 =>
          have q3 : H0 b = some u2 := by rw [← hHn b nb]; exact q2
          rcases hO b with z | ⟨ob, u3, z⟩
          · rw [q3] at z
            cases z
          · have z1 : H b = some (.frz ob u3) := by rw [hHn b nb]; exact z
            have z2 := un.frzs b ob _ z1
            obtain ⟨e1, _⟩ := hok b _ z1
            obtain ⟨e2, _⟩ := hok' b _ z2
            rw [e] at e1
            cases e1
            exact e2
      obtain ⟨ps', hps⟩ : ∃ ps' : Array Value, s'.heap.get? PT = some (tabObj ps') := by
        rcases tb' with t | ⟨c, _, t, _⟩
        · exact ⟨_, (hok' PT _ t).1⟩
        · exact ⟨_, (hok' PT _ t).1⟩
      have KX' : K.In s'.heap := fun b o e => kept b o (fun z => by rw [z, hPK] at e; cases e) (KX b o e)
      obtain ⟨as, hrd⟩ := Dw.reads (R := R) (cl := cl) hok' KX' d0 v u q r'
      refine ⟨u, as, rfl, hrd, ⟨fun b o e => ?_, fun b o e => ?_⟩, os, bare⟩
      · by_cases hbP : b = PT
        · subst hbP
          rw [hT] at e; cases e
          exact .inr (.inl ⟨(hC.tab hT).isCodeTable, rfl, #[], ps', rfl, by rw [hps]; simp⟩)
        · exact .inl (kept b o hbP e)
      · by_cases hbP : b = PT
        · exact ⟨_, by rw [hbP]; exact hps⟩
        · exact ⟨o, kept b o hbP e⟩

theorem tabIn_is {K : PySem.W.Frag} {x : Str} {f c P : Addr} {oc : Value} {od : Option Addr} {fd : FuncData} {osl : Array (Option Value)} (a : PySem.W.nsIn K mainGlobals x = some (some (.ref f))) (l : K.lookup f = some ⟨oc, od, .func fd, osl⟩) (ht : tabIn K x = some (c, P)) : fd.code = .ref c ∧ ∃ o, K.lookup c = some o := by
  unfold PySem.W.tabIn at ht
  rw [a] at ht
  simp only at ht
  rw [l] at ht
  simp only at ht
  split at ht
  · rename_i c' hc
    split at ht
    · rename_i o1 o2 vs o3 hl
      split at ht
      · cases ht
        exact ⟨hc, _, hl⟩
      · cases ht
    · cases ht
  · cases ht

theorem tabIn_of {K : PySem.W.Frag} {x : Str} {f c P : Addr} {oc oc2 : Value} {od od2 : Option Addr} {fd : FuncData} {osl osl2 : Array (Option Value)} {vs : Array Value} (a : PySem.W.nsIn K mainGlobals x = some (some (.ref f))) (l : K.lookup f = some ⟨oc, od, .func fd, osl⟩) (hc : fd.code = .ref c)
    (lc : K.lookup c = some ⟨oc2, od2, .fields vs, osl2⟩) (hv : vs[11]? = some (.ref P)) : tabIn K x = some (c, P) := by
  unfold PySem.W.tabIn
  rw [a]
  simp only
  rw [l]
  simp only
  rw [hc]
  simp only
  rw [lc]
  simp only
  rw [hv]

/-- the row, from the promise of its def -/
theorem walkT {r : OpenSpec} {k : Nat} {q : Program} {loose : List Str} {XP : (Str → Option Value) → Heap → Prop} {YP : World → Heap → Prop} {d : DefRec} {K : Params → PySem.W.Frag} {ps : List Str} {cT PT : Addr} {sp : PySem.W.Frag → Sp}
    (hwell : r.wellSaid = true) (hdf : d.params.defaults = []) (hlen : r.args.length = ps.length) (hr : Room k callerA)
    (hY : ∀ (w : World) (h : Heap), YP w h → (K w.params).In h)
    (hrec : ((recsOf q).find? (fun e => e.name == ("best" : Str))).isSome = true) (hTab : ∀ Pm, tabIn (K Pm) "best" = some (cT, PT)) (hNo : ∀ Pm, noTabs (K Pm) = true)
    (F : ∀ (w : World) (mg : Str → Option Value) (fa : Addr) (h : Heap), YP w h → (K w.params).In h → h.Ns mainGlobals mg → mg d.name = some (.ref fa) → CodeHd h cT PT →
      ∃ fd : FuncData, (∀ (s : Shared) (us : List Value), us.length = ps.length → BindsTo s fd ⟨us, []⟩ (ps.zip us)) ∧
        ∀ base : Heap, (K w.params).In base → base.Ns mainGlobals mg → base.BuiltinsAt mg PT → FnOk r.prog w (K w.params) mg base CX0 k fa fd ps (sp (K w.params)))
    (hsp : ∀ (K : PySem.W.Frag) (H0 H : Hp) (xs : List V) (a : Codec.denoteAll r.args), OnlyF H0 → Same H0 H → Tb PT H → Codec.withinAll r.args a = true → Codec.app r.args r.asked a = true → DwAll K H0 xs (Codec.encAll r.args a) →
      sp K xs H (fun v H' => Dw K H' v (r.ret.enc (Codec.app r.args r.f a)) ∧ Tb PT H') fun _ _ _ => False) :
    PySem.W.WalkOS q loose XP YP r d [] (fun f vs => PySem.call f vs) := by
  intro w s_0 s₁ mg mb G Y fa o pm cd doc dV kV ho hd hcd hD hmg hg args vals as hpre hlay hrd hwl hlo
  obtain ⟨a, e1, e2⟩ := PySem.W.os_pre_some hpre
  obtain ⟨e3, hwi⟩ := Codec.encAll_of_decAll r.args args a e1
  subst e3
  have KX := hY w _ Y
  obtain ⟨dB, hrec⟩ := Option.isSome_iff_exists.1 hrec
  obtain ⟨hC, hT⟩ := PySem.W.tab_of G.T KX hrec (hTab w.params)
  have hPK := notab KX (hNo w.params) hT
  have hBM : s₁.heap.BuiltinsAt mg PT := by
    obtain ⟨bm, ob, b1, b2, b3, b4, b5, b6⟩ := G.T.bmain
    refine ⟨bm, ob, b1, b2, fun z => ?_, fun z => ?_, b3, b4, b5, b6⟩
    · obtain ⟨o, es, ep, e, hd, _⟩ := G.T.g
      rw [z, e] at b3; cases b3
      rw [hd] at b6; cases b6
    · rw [z, hT] at b3; cases b3; cases b4
  obtain ⟨fd, hb, hF⟩ := F w mg fa _ Y KX G.T.g hmg hC
  refine PySem.W.enter_call (codeAny_mono (spec_callT (R := []) (cl := classAt s_0.heap) (d0 := r.ret.enc (Codec.app r.args r.f a)) KX G.T.g G.T.b G.T.builtins G.T.nolimit hg hwl (pl_encAll _ _) (layable_weight hlay) hr hT hC hPK hBM hF hb (by rw [encAll_len]; exact hlen)
    (fun H0 H xs hO hs ht hS => hsp (K w.params) H0 H xs a hO hs ht hwi e2 hS)) fun r' s' hq => ?_)
  obtain ⟨u, as', rfl, h1, h2, h3, h4⟩ := hq
  exact ⟨.inl ⟨u, _, as', rfl, fun _ => rfl, h1, (OpenSpec.post_iff hwell hwi _ _).mpr rfl, fun z => Bool.noConfusion (show false = true from z)⟩, h2, h3, h4⟩
end SM
end
section
set_option Elab.async false
set_option linter.all false
set_option maxRecDepth 100000
set_option maxHeartbeats 4000000
namespace SM
open PySem PySem.Spec PyProof.Rows L2
open PySem.W (tabIn CodeHd)

/-- what the top has written, and the promise of the row's def over it -/
theorem all_mk {P : Program} {w : World} {K : PySem.W.Frag} {h : Heap} {mg : Str → Option Value} {fa cT PT : Addr} (X : K.In h) (G : h.Ns mainGlobals mg) (hfa : mg "answers" = some (.ref fa)) (hCd : CodeHd h cT PT) (hTab : tabIn K "best" = some (cT, PT))
    {aL f1 f2 f3 f4 f5 f6 f7 f8 f9 f10 f11 f12 f13 f14 f15 f16 f17 f18 f19 CT CW CG f20 f21 f22 f23 f24 f25 f26 f27 f28 f29 f30 f31 f32 f33 f34 f35 f36 f37 f38 f39 f40 : Addr} {tk0 tk1 tk2 tk3 tk4 tk5 tk6 tk7 tk8 tk9 tk10 tk11 tk12 tk13 tk14 tk15 tk16 tk17 tk18 tk19 tk20 tk21 tk22 tk23 tk24 tk25 tk26 tk27 tk28 tk29 : Tok}
    {od1 an1 od2 an2 od3 an3 od4 an4 od5 an5 od6 an6 od7 an7 od8 an8 od9 an9 od10 an10 od11 an11 od12 an12 od13 an13 od14 an14 od15 an15 od16 an16 od17 an17 od18 an18 od19 an19 od20 an20 od21 an21 od22 an22 od23 an23 od24 an24 od25 an25 od26 an26 od27 an27 od28 an28 od29 an29 od30 an30 od31 an31 od32 an32 od33 an33 od34 an34 od35 an35 od36 an36 od37 an37 od38 an38 od39 an39 od40 an40 : Option Addr} {sl1 sl2 sl3 sl4 sl5 sl6 sl7 sl8 sl9 sl10 sl11 sl12 sl13 sl14 sl15 sl16 sl17 sl18 sl19 sl20 sl21 sl22 sl23 sl24 sl25 sl26 sl27 sl28 sl29 sl30 sl31 sl32 sl33 sl34 sl35 sl36 sl37 sl38 sl39 sl40 : Array (Option Value)}
    {oc1 kV1 dc1 pm1 cd1 ct1 oc2 kV2 dc2 pm2 cd2 ct2 oc3 kV3 dc3 pm3 cd3 ct3 oc4 kV4 dc4 pm4 cd4 ct4 oc5 kV5 dc5 pm5 cd5 ct5 oc6 kV6 dc6 pm6 cd6 ct6 oc7 kV7 dc7 pm7 cd7 ct7 oc8 kV8 dc8 pm8 cd8 ct8 oc9 kV9 dc9 pm9 cd9 ct9 oc10 kV10 dc10 pm10 cd10 ct10 oc11 kV11 dc11 pm11 cd11 ct11 oc12 kV12 dc12 pm12 cd12 ct12 oc13 kV13 dc13 pm13 cd13 ct13 oc14 kV14 dc14 pm14 cd14 ct14 oc15 kV15 dc15 pm15 cd15 ct15 oc16 kV16 dc16 pm16 cd16 ct16 oc17 kV17 dc17 pm17 cd17 ct17 oc18 kV18 dc18 pm18 cd18 ct18 oc19 kV19 dc19 pm19 cd19 ct19 oc20 kV20 dc20 pm20 cd20 ct20 oc21 kV21 dc21 pm21 cd21 ct21 oc22 kV22 dc22 pm22 cd22 ct22 oc23 kV23 dc23 pm23 cd23 ct23 oc24 kV24 dc24 pm24 cd24 ct24 oc25 kV25 dc25 pm25 cd25 ct25 oc26 kV26 dc26 pm26 cd26 ct26 oc27 kV27 dc27 pm27 cd27 ct27 oc28 kV28 dc28 pm28 cd28 ct28 oc29 kV29 dc29 pm29 cd29 ct29 oc30 kV30 dc30 pm30 cd30 ct30 oc31 kV31 dc31 pm31 cd31 ct31 oc32 kV32 dc32 pm32 cd32 ct32 oc33 kV33 dc33 pm33 cd33 ct33 oc34 kV34 dc34 pm34 cd34 ct34 oc35 kV35 dc35 pm35 cd35 ct35 oc36 kV36 dc36 pm36 cd36 ct36 oc37 kV37 dc37 pm37 cd37 ct37 oc38 kV38 dc38 pm38 cd38 ct38 oc39 kV39 dc39 pm39 cd39 ct39 oc40 kV40 dc40 pm40 cd40 ct40 : Value}
    (n0 : PySem.W.nsIn K mainGlobals "HIT_A_MINE" = some (some (.int (-1) tk0)))
    (n1 : PySem.W.nsIn K mainGlobals "NO_WAY" = some (some (.int (-1) tk1)))
    (n2 : PySem.W.nsIn K mainGlobals "NOT_SOLVED" = some (some (.int (-1) tk2)))
    (n3 : PySem.W.nsIn K mainGlobals "NOT_ALLOWED" = some (some (.int (-2) tk3)))
    (n4 : PySem.W.nsIn K mainGlobals "NOTHING_CLOSED" = some (some (.int (-2) tk4)))
    (n5 : PySem.W.nsIn K mainGlobals "NOT_IN_RANGE" = some (some (.int (-8) tk5)))
    (n6 : PySem.W.nsIn K mainGlobals "GAME_IS_OVER" = some (some (.int (-9) tk6)))
    (n7 : PySem.W.nsIn K mainGlobals "ROWS" = some (some (.int (10) tk7)))
    (n8 : PySem.W.nsIn K mainGlobals "COLUMNS" = some (some (.int (6) tk8)))
    (n9 : PySem.W.nsIn K mainGlobals "SQUARES" = some (some (.int (60) tk9)))
    (n10 : PySem.W.nsIn K mainGlobals "ALL_SQUARES" = some (some (.int (1152921504606846975) tk10)))
    (n11 : PySem.W.nsIn K mainGlobals "HIGHEST_NUMBER" = some (some (.int (8) tk11)))
    (n12 : PySem.W.nsIn K mainGlobals "CLOSED" = some (some (.int (9) tk12)))
    (n13 : PySem.W.nsIn K mainGlobals "MINE" = some (some (.int (10) tk13)))
    (n14 : PySem.W.nsIn K mainGlobals "GUARD" = some (some (.int (16) tk14)))
    (n15 : PySem.W.nsIn K mainGlobals "ONE_MINE" = some (some (.int (1) tk15)))
    (n16 : PySem.W.nsIn K mainGlobals "ONE_EMPTY" = some (some (.int (32) tk16)))
    (n17 : PySem.W.nsIn K mainGlobals "BITS_OF_A_NUMBER" = some (some (.int (10) tk17)))
    (n18 : PySem.W.nsIn K mainGlobals "GOING_ON" = some (some (.int (0) tk18)))
    (n19 : PySem.W.nsIn K mainGlobals "WON" = some (some (.int (1) tk19)))
    (n20 : PySem.W.nsIn K mainGlobals "LOST" = some (some (.int (2) tk20)))
    (n21 : PySem.W.nsIn K mainGlobals "BEGIN" = some (some (.int (0) tk21)))
    (n22 : PySem.W.nsIn K mainGlobals "OPEN" = some (some (.int (1) tk22)))
    (n23 : PySem.W.nsIn K mainGlobals "MARK" = some (some (.int (2) tk23)))
    (n24 : PySem.W.nsIn K mainGlobals "ABOUT" = some (some (.int (3) tk24)))
    (n25 : PySem.W.nsIn K mainGlobals "TELL" = some (some (.int (4) tk25)))
    (n26 : PySem.W.nsIn K mainGlobals "COUNT" = some (some (.int (5) tk26)))
    (n27 : PySem.W.nsIn K mainGlobals "EACH" = some (some (.int (6) tk27)))
    (n28 : PySem.W.nsIn K mainGlobals "CERTAIN" = some (some (.int (7) tk28)))
    (n29 : PySem.W.nsIn K mainGlobals "BEST" = some (some (.int (8) tk29)))
    (z_range : PySem.W.nsIn K mainGlobals "range" = some none)
    (z_max : PySem.W.nsIn K mainGlobals "max" = some none)
    (z_min : PySem.W.nsIn K mainGlobals "min" = some none)
    (z_len : PySem.W.nsIn K mainGlobals "len" = some none)
    (z_list : PySem.W.nsIn K mainGlobals "list" = some none)
    (z_sum : PySem.W.nsIn K mainGlobals "sum" = some none)
    (z_zip : PySem.W.nsIn K mainGlobals "zip" = some none)
    (aL_ : PySem.W.nsIn K mainGlobals "CALL_LENGTHS" = some (some (.ref aL)))
    (a1 : PySem.W.nsIn K mainGlobals "is_square" = some (some (.ref f1)))
    (l1 : K.lookup f1 = some ⟨oc1, od1, .func (PySem.W.fnOf "is_square" "is_square" (defArgs sIsSq) (defBody sIsSq) (defScope sIsSq) .none kV1 dc1 pm1 an1 cd1 ct1), sl1⟩)
    (c1 : PySem.W.codeIn K cd1 "is_square" = true)
    (k1 : PySem.W.keepIn K (.ref f1) = true)
    (a2 : PySem.W.nsIn K mainGlobals "squares_about" = some (some (.ref f2)))
    (l2 : K.lookup f2 = some ⟨oc2, od2, .func (PySem.W.fnOf "squares_about" "squares_about" (defArgs sNear) (defBody sNear) (defScope sNear) .none kV2 dc2 pm2 an2 cd2 ct2), sl2⟩)
    (c2 : PySem.W.codeIn K cd2 "squares_about" = true)
    (k2 : PySem.W.keepIn K (.ref f2) = true)
    (a3 : PySem.W.nsIn K mainGlobals "holds" = some (some (.ref f3)))
    (l3 : K.lookup f3 = some ⟨oc3, od3, .func (PySem.W.fnOf "holds" "holds" (defArgs sHolds) (defBody sHolds) (defScope sHolds) .none kV3 dc3 pm3 an3 cd3 ct3), sl3⟩)
    (c3 : PySem.W.codeIn K cd3 "holds" = true)
    (k3 : PySem.W.keepIn K (.ref f3) = true)
    (a4 : PySem.W.nsIn K mainGlobals "size" = some (some (.ref f4)))
    (l4 : K.lookup f4 = some ⟨oc4, od4, .func (PySem.W.fnOf "size" "size" (defArgs sSize) (defBody sSize) (defScope sSize) .none kV4 dc4 pm4 an4 cd4 ct4), sl4⟩)
    (c4 : PySem.W.codeIn K cd4 "size" = true)
    (k4 : PySem.W.keepIn K (.ref f4) = true)
    (a5 : PySem.W.nsIn K mainGlobals "members_among" = some (some (.ref f5)))
    (l5 : K.lookup f5 = some ⟨oc5, od5, .func (PySem.W.fnOf "members_among" "members_among" (defArgs sAmong) (defBody sAmong) (defScope sAmong) .none kV5 dc5 pm5 an5 cd5 ct5), sl5⟩)
    (c5 : PySem.W.codeIn K cd5 "members_among" = true)
    (k5 : PySem.W.keepIn K (.ref f5) = true)
    (a6 : PySem.W.nsIn K mainGlobals "set_of" = some (some (.ref f6)))
    (l6 : K.lookup f6 = some ⟨oc6, od6, .func (PySem.W.fnOf "set_of" "set_of" (defArgs sSetOf) (defBody sSetOf) (defScope sSetOf) .none kV6 dc6 pm6 an6 cd6 ct6), sl6⟩)
    (c6 : PySem.W.codeIn K cd6 "set_of" = true)
    (k6 : PySem.W.keepIn K (.ref f6) = true)
    (a7 : PySem.W.nsIn K mainGlobals "choices_among" = some (some (.ref f7)))
    (l7 : K.lookup f7 = some ⟨oc7, od7, .func (PySem.W.fnOf "choices_among" "choices_among" (defArgs sChoices) (defBody sChoices) (defScope sChoices) .none kV7 dc7 pm7 an7 cd7 ct7), sl7⟩)
    (c7 : PySem.W.codeIn K cd7 "choices_among" = true)
    (k7 : PySem.W.keepIn K (.ref f7) = true)
    (a8 : PySem.W.nsIn K mainGlobals "count" = some (some (.ref f8)))
    (l8 : K.lookup f8 = some ⟨oc8, od8, .func (PySem.W.fnOf "count" "count" (defArgs sCount) (defBody sCount) (defScope sCount) .none kV8 dc8 pm8 an8 cd8 ct8), sl8⟩)
    (c8 : PySem.W.codeIn K cd8 "count" = true)
    (k8 : PySem.W.keepIn K (.ref f8) = true)
    (a9 : PySem.W.nsIn K mainGlobals "each" = some (some (.ref f9)))
    (l9 : K.lookup f9 = some ⟨oc9, od9, .func (PySem.W.fnOf "each" "each" (defArgs sEach) (defBody sEach) (defScope sEach) .none kV9 dc9 pm9 an9 cd9 ct9), sl9⟩)
    (c9 : PySem.W.codeIn K cd9 "each" = true)
    (k9 : PySem.W.keepIn K (.ref f9) = true)
    (a10 : PySem.W.nsIn K mainGlobals "certain" = some (some (.ref f10)))
    (l10 : K.lookup f10 = some ⟨oc10, od10, .func (PySem.W.fnOf "certain" "certain" (defArgs sCertain) (defBody sCertain) (defScope sCertain) .none kV10 dc10 pm10 an10 cd10 ct10), sl10⟩)
    (c10 : PySem.W.codeIn K cd10 "certain" = true)
    (k10 : PySem.W.keepIn K (.ref f10) = true)
    (a11 : PySem.W.nsIn K mainGlobals "safe_squares" = some (some (.ref f11)))
    (l11 : K.lookup f11 = some ⟨oc11, od11, .func (PySem.W.fnOf "safe_squares" "safe_squares" (defArgs sSafeSq) (defBody sSafeSq) (defScope sSafeSq) .none kV11 dc11 pm11 an11 cd11 ct11), sl11⟩)
    (c11 : PySem.W.codeIn K cd11 "safe_squares" = true)
    (k11 : PySem.W.keepIn K (.ref f11) = true)
    (a12 : PySem.W.nsIn K mainGlobals "is_in_range" = some (some (.ref f12)))
    (l12 : K.lookup f12 = some ⟨oc12, od12, .func (PySem.W.fnOf "is_in_range" "is_in_range" (defArgs sRange) (defBody sRange) (defScope sRange) .none kV12 dc12 pm12 an12 cd12 ct12), sl12⟩)
    (c12 : PySem.W.codeIn K cd12 "is_in_range" = true)
    (k12 : PySem.W.keepIn K (.ref f12) = true)
    (a13 : PySem.W.nsIn K mainGlobals "closed_squares" = some (some (.ref f13)))
    (l13 : K.lookup f13 = some ⟨oc13, od13, .func (PySem.W.fnOf "closed_squares" "closed_squares" (defArgs sClosed) (defBody sClosed) (defScope sClosed) .none kV13 dc13 pm13 an13 cd13 ct13), sl13⟩)
    (c13 : PySem.W.codeIn K cd13 "closed_squares" = true)
    (k13 : PySem.W.keepIn K (.ref f13) = true)
    (a14 : PySem.W.nsIn K mainGlobals "rounds_to_solve" = some (some (.ref f14)))
    (l14 : K.lookup f14 = some ⟨oc14, od14, .func (PySem.W.fnOf "rounds_to_solve" "rounds_to_solve" (defArgs sSolve) (defBody sSolve) (defScope sSolve) .none kV14 dc14 pm14 an14 cd14 ct14), sl14⟩)
    (c14 : PySem.W.codeIn K cd14 "rounds_to_solve" = true)
    (k14 : PySem.W.keepIn K (.ref f14) = true)
    (a15 : PySem.W.nsIn K mainGlobals "answers" = some (some (.ref f15)))
    (l15 : K.lookup f15 = some ⟨oc15, od15, .func (PySem.W.fnOf "answers" "answers" (defArgs sAns) (defBody sAns) (defScope sAns) .none kV15 dc15 pm15 an15 cd15 ct15), sl15⟩)
    (c15 : PySem.W.codeIn K cd15 "answers" = true)
    (k15 : PySem.W.keepIn K (.ref f15) = true)
    (a16 : PySem.W.nsIn K mainGlobals "answer_to" = some (some (.ref f16)))
    (l16 : K.lookup f16 = some ⟨oc16, od16, .func (PySem.W.fnOf "answer_to" "answer_to" (defArgs sAnsTo) (defBody sAnsTo) (defScope sAnsTo) .none kV16 dc16 pm16 an16 cd16 ct16), sl16⟩)
    (c16 : PySem.W.codeIn K cd16 "answer_to" = true)
    (k16 : PySem.W.keepIn K (.ref f16) = true)
    (a17 : PySem.W.nsIn K mainGlobals "answer_of_game" = some (some (.ref f17)))
    (l17 : K.lookup f17 = some ⟨oc17, od17, .func (PySem.W.fnOf "answer_of_game" "answer_of_game" (defArgs sAnsGame) (defBody sAnsGame) (defScope sAnsGame) .none kV17 dc17 pm17 an17 cd17 ct17), sl17⟩)
    (c17 : PySem.W.codeIn K cd17 "answer_of_game" = true)
    (k17 : PySem.W.keepIn K (.ref f17) = true)
    (a18 : PySem.W.nsIn K mainGlobals "answer_by_sight" = some (some (.ref f18)))
    (l18 : K.lookup f18 = some ⟨oc18, od18, .func (PySem.W.fnOf "answer_by_sight" "answer_by_sight" (defArgs sAnsSight) (defBody sAnsSight) (defScope sAnsSight) .none kV18 dc18 pm18 an18 cd18 ct18), sl18⟩)
    (c18 : PySem.W.codeIn K cd18 "answer_by_sight" = true)
    (k18 : PySem.W.keepIn K (.ref f18) = true)
    (a19 : PySem.W.nsIn K mainGlobals "best" = some (some (.ref f19)))
    (l19 : K.lookup f19 = some ⟨oc19, od19, .func (PySem.W.fnOf "best" "best" (defArgs sBest) (defBody sBest) (defScope sBest) .none kV19 dc19 pm19 an19 cd19 ct19), sl19⟩)
    (c19 : PySem.W.codeIn K cd19 "best" = true)
    (k19 : PySem.W.keepIn K (.ref f19) = true)
    (aT : PySem.W.nsIn K mainGlobals "Tally" = some (some (.ref CT)))
    (pgT : PySem.W.plainGet K CT Str.empty = true)
    (hdT : PySem.W.hasDictIn K CT = true)
    (poT : PySem.W.plainOver K CT = true)
    (saT : PySem.W.findIn K (.ref CT) "__setattr__" = some (some (.builtin "object.__setattr__")))
    (mkT : PySem.W.makesIn K CT = true)
    (kcT : PySem.W.keepIn K (.ref CT) = true)
    (nnT_possible : PySem.W.findIn K (.ref CT) "possible" = some none)
    (nnT_beginning : PySem.W.findIn K (.ref CT) "beginning" = some none)
    (nnT_bits : PySem.W.findIn K (.ref CT) "bits" = some none)
    (nnT_by_mine : PySem.W.findIn K (.ref CT) "by_mine" = some none)
    (nnT_by_empty : PySem.W.findIn K (.ref CT) "by_empty" = some none)
    (nnT_guards : PySem.W.findIn K (.ref CT) "guards" = some none)
    (aW : PySem.W.nsIn K mainGlobals "Ways" = some (some (.ref CW)))
    (pgW : PySem.W.plainGet K CW Str.empty = true)
    (hdW : PySem.W.hasDictIn K CW = true)
    (poW : PySem.W.plainOver K CW = true)
    (saW : PySem.W.findIn K (.ref CW) "__setattr__" = some (some (.builtin "object.__setattr__")))
    (mkW : PySem.W.makesIn K CW = true)
    (kcW : PySem.W.keepIn K (.ref CW) = true)
    (nnW_seen : PySem.W.findIn K (.ref CW) "seen" = some none)
    (nnW_tally : PySem.W.findIn K (.ref CW) "tally" = some none)
    (nnW_beside : PySem.W.findIn K (.ref CW) "beside" = some none)
    (nnW_apart : PySem.W.findIn K (.ref CW) "apart" = some none)
    (nnW_hidden : PySem.W.findIn K (.ref CW) "hidden" = some none)
    (nnW_width : PySem.W.findIn K (.ref CW) "width" = some none)
    (nnW_layers : PySem.W.findIn K (.ref CW) "layers" = some none)
    (nnW_row : PySem.W.findIn K (.ref CW) "row" = some none)
    (nnW_choices : PySem.W.findIn K (.ref CW) "choices" = some none)
    (nnW_total : PySem.W.findIn K (.ref CW) "total" = some none)
    (aG : PySem.W.nsIn K mainGlobals "Game" = some (some (.ref CG)))
    (pgG : PySem.W.plainGet K CG Str.empty = true)
    (hdG : PySem.W.hasDictIn K CG = true)
    (poG : PySem.W.plainOver K CG = true)
    (saG : PySem.W.findIn K (.ref CG) "__setattr__" = some (some (.builtin "object.__setattr__")))
    (mkG : PySem.W.makesIn K CG = true)
    (kcG : PySem.W.keepIn K (.ref CG) = true)
    (nnG_mines : PySem.W.findIn K (.ref CG) "mines" = some none)
    (nnG_opened : PySem.W.findIn K (.ref CG) "opened" = some none)
    (nnG_marked : PySem.W.findIn K (.ref CG) "marked" = some none)
    (nnG_state : PySem.W.findIn K (.ref CG) "state" = some none)
    (a20 : PySem.W.findIn K (.ref CT) "__init__" = some (some (.ref f20)))
    (i20 : PySem.W.isFn K (.ref f20) = true)
    (l20 : K.lookup f20 = some ⟨oc20, od20, .func (PySem.W.fnOf "__init__" "Tally.__init__" (defArgs sTInit) (defBody sTInit) (defScope sTInit) .none kV20 dc20 pm20 an20 cd20 ct20), sl20⟩)
    (c20 : PySem.W.codeIn K cd20 "Tally.__init__" = true)
    (k20 : PySem.W.keepIn K (.ref f20) = true)
    (a21 : PySem.W.findIn K (.ref CT) "enter" = some (some (.ref f21)))
    (i21 : PySem.W.isFn K (.ref f21) = true)
    (l21 : K.lookup f21 = some ⟨oc21, od21, .func (PySem.W.fnOf "enter" "Tally.enter" (defArgs sEnter) (defBody sEnter) (defScope sEnter) .none kV21 dc21 pm21 an21 cd21 ct21), sl21⟩)
    (c21 : PySem.W.codeIn K cd21 "Tally.enter" = true)
    (k21 : PySem.W.keepIn K (.ref f21) = true)
    (a22 : PySem.W.findIn K (.ref CT) "enter_lack" = some (some (.ref f22)))
    (i22 : PySem.W.isFn K (.ref f22) = true)
    (l22 : K.lookup f22 = some ⟨oc22, od22, .func (PySem.W.fnOf "enter_lack" "Tally.enter_lack" (defArgs sLack) (defBody sLack) (defScope sLack) .none kV22 dc22 pm22 an22 cd22 ct22), sl22⟩)
    (c22 : PySem.W.codeIn K cd22 "Tally.enter_lack" = true)
    (k22 : PySem.W.keepIn K (.ref f22) = true)
    (a23 : PySem.W.findIn K (.ref CW) "__init__" = some (some (.ref f23)))
    (i23 : PySem.W.isFn K (.ref f23) = true)
    (l23 : K.lookup f23 = some ⟨oc23, od23, .func (PySem.W.fnOf "__init__" "Ways.__init__" (defArgs sWInit) (defBody sWInit) (defScope sWInit) .none kV23 dc23 pm23 an23 cd23 ct23), sl23⟩)
    (c23 : PySem.W.codeIn K cd23 "Ways.__init__" = true)
    (k23 : PySem.W.keepIn K (.ref f23) = true)
    (a24 : PySem.W.findIn K (.ref CW) "all_layers" = some (some (.ref f24)))
    (i24 : PySem.W.isFn K (.ref f24) = true)
    (l24 : K.lookup f24 = some ⟨oc24, od24, .func (PySem.W.fnOf "all_layers" "Ways.all_layers" (defArgs sLayers) (defBody sLayers) (defScope sLayers) .none kV24 dc24 pm24 an24 cd24 ct24), sl24⟩)
    (c24 : PySem.W.codeIn K cd24 "Ways.all_layers" = true)
    (k24 : PySem.W.keepIn K (.ref f24) = true)
    (a25 : PySem.W.findIn K (.ref CW) "layer_behind" = some (some (.ref f25)))
    (i25 : PySem.W.isFn K (.ref f25) = true)
    (l25 : K.lookup f25 = some ⟨oc25, od25, .func (PySem.W.fnOf "layer_behind" "Ways.layer_behind" (defArgs sLayer) (defBody sLayer) (defScope sLayer) .none kV25 dc25 pm25 an25 cd25 ct25), sl25⟩)
    (c25 : PySem.W.codeIn K cd25 "Ways.layer_behind" = true)
    (k25 : PySem.W.keepIn K (.ref f25) = true)
    (a26 : PySem.W.findIn K (.ref CW) "filled_up" = some (some (.ref f26)))
    (i26 : PySem.W.isFn K (.ref f26) = true)
    (l26 : K.lookup f26 = some ⟨oc26, od26, .func (PySem.W.fnOf "filled_up" "Ways.filled_up" (defArgs sFilled) (defBody sFilled) (defScope sFilled) .none kV26 dc26 pm26 an26 cd26 ct26), sl26⟩)
    (c26 : PySem.W.codeIn K cd26 "Ways.filled_up" = true)
    (k26 : PySem.W.keepIn K (.ref f26) = true)
    (a27 : PySem.W.findIn K (.ref CW) "with_mine" = some (some (.ref f27)))
    (i27 : PySem.W.isFn K (.ref f27) = true)
    (l27 : K.lookup f27 = some ⟨oc27, od27, .func (PySem.W.fnOf "with_mine" "Ways.with_mine" (defArgs sWith) (defBody sWith) (defScope sWith) .none kV27 dc27 pm27 an27 cd27 ct27), sl27⟩)
    (c27 : PySem.W.codeIn K cd27 "Ways.with_mine" = true)
    (k27 : PySem.W.keepIn K (.ref f27) = true)
    (a28 : PySem.W.findIn K (.ref CW) "rows_with_mine" = some (some (.ref f28)))
    (i28 : PySem.W.isFn K (.ref f28) = true)
    (l28 : K.lookup f28 = some ⟨oc28, od28, .func (PySem.W.fnOf "rows_with_mine" "Ways.rows_with_mine" (defArgs sRows) (defBody sRows) (defScope sRows) .none kV28 dc28 pm28 an28 cd28 ct28), sl28⟩)
    (c28 : PySem.W.codeIn K cd28 "Ways.rows_with_mine" = true)
    (k28 : PySem.W.keepIn K (.ref f28) = true)
    (a29 : PySem.W.findIn K (.ref CG) "__init__" = some (some (.ref f29)))
    (i29 : PySem.W.isFn K (.ref f29) = true)
    (l29 : K.lookup f29 = some ⟨oc29, od29, .func (PySem.W.fnOf "__init__" "Game.__init__" (defArgs sInit) (defBody sInit) (defScope sInit) .none kV29 dc29 pm29 an29 cd29 ct29), sl29⟩)
    (c29 : PySem.W.codeIn K cd29 "Game.__init__" = true)
    (k29 : PySem.W.keepIn K (.ref f29) = true)
    (a30 : PySem.W.findIn K (.ref CG) "begin" = some (some (.ref f30)))
    (i30 : PySem.W.isFn K (.ref f30) = true)
    (l30 : K.lookup f30 = some ⟨oc30, od30, .func (PySem.W.fnOf "begin" "Game.begin" (defArgs sBegin) (defBody sBegin) (defScope sBegin) .none kV30 dc30 pm30 an30 cd30 ct30), sl30⟩)
    (c30 : PySem.W.codeIn K cd30 "Game.begin" = true)
    (k30 : PySem.W.keepIn K (.ref f30) = true)
    (a31 : PySem.W.findIn K (.ref CG) "uncover" = some (some (.ref f31)))
    (i31 : PySem.W.isFn K (.ref f31) = true)
    (l31 : K.lookup f31 = some ⟨oc31, od31, .func (PySem.W.fnOf "uncover" "Game.uncover" (defArgs sUncover) (defBody sUncover) (defScope sUncover) .none kV31 dc31 pm31 an31 cd31 ct31), sl31⟩)
    (c31 : PySem.W.codeIn K cd31 "Game.uncover" = true)
    (k31 : PySem.W.keepIn K (.ref f31) = true)
    (a32 : PySem.W.findIn K (.ref CG) "mark" = some (some (.ref f32)))
    (i32 : PySem.W.isFn K (.ref f32) = true)
    (l32 : K.lookup f32 = some ⟨oc32, od32, .func (PySem.W.fnOf "mark" "Game.mark" (defArgs sMark) (defBody sMark) (defScope sMark) .none kV32 dc32 pm32 an32 cd32 ct32), sl32⟩)
    (c32 : PySem.W.codeIn K cd32 "Game.mark" = true)
    (k32 : PySem.W.keepIn K (.ref f32) = true)
    (a33 : PySem.W.findIn K (.ref CG) "uncover_about" = some (some (.ref f33)))
    (i33 : PySem.W.isFn K (.ref f33) = true)
    (l33 : K.lookup f33 = some ⟨oc33, od33, .func (PySem.W.fnOf "uncover_about" "Game.uncover_about" (defArgs sAbout) (defBody sAbout) (defScope sAbout) .none kV33 dc33 pm33 an33 cd33 ct33), sl33⟩)
    (c33 : PySem.W.codeIn K cd33 "Game.uncover_about" = true)
    (k33 : PySem.W.keepIn K (.ref f33) = true)
    (a34 : PySem.W.findIn K (.ref CG) "tell" = some (some (.ref f34)))
    (i34 : PySem.W.isFn K (.ref f34) = true)
    (l34 : K.lookup f34 = some ⟨oc34, od34, .func (PySem.W.fnOf "tell" "Game.tell" (defArgs sTell) (defBody sTell) (defScope sTell) .none kV34 dc34 pm34 an34 cd34 ct34), sl34⟩)
    (c34 : PySem.W.codeIn K cd34 "Game.tell" = true)
    (k34 : PySem.W.keepIn K (.ref f34) = true)
    (a35 : PySem.W.findIn K (.ref CG) "sight" = some (some (.ref f35)))
    (i35 : PySem.W.isFn K (.ref f35) = true)
    (l35 : K.lookup f35 = some ⟨oc35, od35, .func (PySem.W.fnOf "sight" "Game.sight" (defArgs sSight) (defBody sSight) (defScope sSight) .none kV35 dc35 pm35 an35 cd35 ct35), sl35⟩)
    (c35 : PySem.W.codeIn K cd35 "Game.sight" = true)
    (k35 : PySem.W.keepIn K (.ref f35) = true)
    (a36 : PySem.W.findIn K (.ref CG) "mines_about" = some (some (.ref f36)))
    (i36 : PySem.W.isFn K (.ref f36) = true)
    (l36 : K.lookup f36 = some ⟨oc36, od36, .func (PySem.W.fnOf "mines_about" "Game.mines_about" (defArgs sMinesAbout) (defBody sMinesAbout) (defScope sMinesAbout) .none kV36 dc36 pm36 an36 cd36 ct36), sl36⟩)
    (c36 : PySem.W.codeIn K cd36 "Game.mines_about" = true)
    (k36 : PySem.W.keepIn K (.ref f36) = true)
    (a37 : PySem.W.findIn K (.ref CG) "refusal_of" = some (some (.ref f37)))
    (i37 : PySem.W.isFn K (.ref f37) = true)
    (l37 : K.lookup f37 = some ⟨oc37, od37, .func (PySem.W.fnOf "refusal_of" "Game.refusal_of" (defArgs sRefusal) (defBody sRefusal) (defScope sRefusal) .none kV37 dc37 pm37 an37 cd37 ct37), sl37⟩)
    (c37 : PySem.W.codeIn K cd37 "Game.refusal_of" = true)
    (k37 : PySem.W.keepIn K (.ref f37) = true)
    (a38 : PySem.W.findIn K (.ref CG) "as_many_marks_as_mines" = some (some (.ref f38)))
    (i38 : PySem.W.isFn K (.ref f38) = true)
    (l38 : K.lookup f38 = some ⟨oc38, od38, .func (PySem.W.fnOf "as_many_marks_as_mines" "Game.as_many_marks_as_mines" (defArgs sAsMany) (defBody sAsMany) (defScope sAsMany) .none kV38 dc38 pm38 an38 cd38 ct38), sl38⟩)
    (c38 : PySem.W.codeIn K cd38 "Game.as_many_marks_as_mines" = true)
    (k38 : PySem.W.keepIn K (.ref f38) = true)
    (a39 : PySem.W.findIn K (.ref CG) "lose_at" = some (some (.ref f39)))
    (i39 : PySem.W.isFn K (.ref f39) = true)
    (l39 : K.lookup f39 = some ⟨oc39, od39, .func (PySem.W.fnOf "lose_at" "Game.lose_at" (defArgs sLose) (defBody sLose) (defScope sLose) .none kV39 dc39 pm39 an39 cd39 ct39), sl39⟩)
    (c39 : PySem.W.codeIn K cd39 "Game.lose_at" = true)
    (k39 : PySem.W.keepIn K (.ref f39) = true)
    (a40 : PySem.W.findIn K (.ref CG) "uncover_safe" = some (some (.ref f40)))
    (i40 : PySem.W.isFn K (.ref f40) = true)
    (l40 : K.lookup f40 = some ⟨oc40, od40, .func (PySem.W.fnOf "uncover_safe" "Game.uncover_safe" (defArgs sSafe) (defBody sSafe) (defScope sSafe) .none kV40 dc40 pm40 an40 cd40 ct40), sl40⟩)
    (c40 : PySem.W.codeIn K cd40 "Game.uncover_safe" = true)
    (k40 : PySem.W.keepIn K (.ref f40) = true)
    (hL : KTD.keyedLook (fun b => K.lookup b) aL lens = true) :
    ∃ fd : FuncData, (∀ (s : Shared) (us : List Value), us.length = (["calls"] : List Str).length → BindsTo s fd ⟨us, []⟩ ((["calls"] : List Str).zip us)) ∧ ∀ base : Heap, K.In base → base.Ns mainGlobals mg → base.BuiltinsAt mg PT → FnOk P w K mg base CX0 10 fa fd ["calls"] (spAns K PT) := by
  have e := hfa.symm.trans (PySem.W.mg_of X G a15)
  cases e
  have MG : ∀ {x : Str} {v : Value}, PySem.W.nsIn K mainGlobals x = some (some v) → mg x = some v := fun q => PySem.W.mg_of X G q
  have MZ : ∀ {x : Str}, PySem.W.nsIn K mainGlobals x = some none → mg x = none := fun q => PySem.W.mg_none_of X G q
  have TS : TxtS mg := ⟨⟨_, MG n7⟩, ⟨_, MG n8⟩, ⟨_, MG n9⟩, ⟨_, MG n10⟩, MZ z_range, MZ z_max, MZ z_min, MZ z_len, MZ z_list⟩
  have TG : TxtG K mg CG := ⟨⟨pgG, hdG, poG, saG⟩, nnG_mines, nnG_opened, nnG_marked, nnG_state, ⟨_, MG n18⟩, ⟨_, MG n19⟩, ⟨_, MG n20⟩, ⟨_, MG n0⟩, ⟨_, MG n3⟩, ⟨_, MG n5⟩, ⟨_, MG n6⟩⟩
  have TT : TxtT K mg CT := ⟨⟨pgT, hdT, poT, saT⟩, nnT_possible, nnT_beginning, nnT_bits, nnT_by_mine, nnT_by_empty, nnT_guards, ⟨_, MG n11⟩, ⟨_, MG n12⟩, ⟨_, MG n13⟩, ⟨_, MG n14⟩, ⟨_, MG n15⟩, ⟨_, MG n16⟩, ⟨_, MG n17⟩⟩
  have TW : TxtW K mg CW := ⟨⟨pgW, hdW, poW, saW⟩, nnW_seen, nnW_tally, nnW_beside, nnW_apart, nnW_hidden, nnW_width, nnW_layers, nnW_row, nnW_choices, nnW_total, MZ z_sum, MZ z_zip⟩
  have TA : TxtA mg := ⟨⟨_, MG n5⟩, ⟨_, MG n1⟩, ⟨_, MG n4⟩⟩
  have TB : TxtB mg := ⟨⟨_, MG n21⟩, ⟨_, MG n22⟩, ⟨_, MG n23⟩, ⟨_, MG n24⟩, ⟨_, MG n25⟩, ⟨_, MG n26⟩, ⟨_, MG n27⟩, ⟨_, MG n28⟩, ⟨_, MG n29⟩⟩
  have F1 := fun_mk (st := sIsSq) l1 c1 k1
  have b1 := F1.binds (ps := ["c"]) fun _ _ _ _ _ _ us hl => match us, hl with | [_], _ => rfl
  have F2 := fun_mk (st := sNear) l2 c2 k2
  have b2 := F2.binds (ps := ["c"]) fun _ _ _ _ _ _ us hl => match us, hl with | [_], _ => rfl
  have F3 := fun_mk (st := sHolds) l3 c3 k3
  have b3 := F3.binds (ps := ["squares", "c"]) fun _ _ _ _ _ _ us hl => match us, hl with | [_, _], _ => rfl
  have F4 := fun_mk (st := sSize) l4 c4 k4
  have b4 := F4.binds (ps := ["squares"]) fun _ _ _ _ _ _ us hl => match us, hl with | [_], _ => rfl
  have F5 := fun_mk (st := sAmong) l5 c5 k5
  have b5 := F5.binds (ps := ["squares", "candidates"]) fun _ _ _ _ _ _ us hl => match us, hl with | [_, _], _ => rfl
  have F6 := fun_mk (st := sSetOf) l6 c6 k6
  have b6 := F6.binds (ps := ["squares"]) fun _ _ _ _ _ _ us hl => match us, hl with | [_], _ => rfl
  have F7 := fun_mk (st := sChoices) l7 c7 k7
  have b7 := F7.binds (ps := ["squares"]) fun _ _ _ _ _ _ us hl => match us, hl with | [_], _ => rfl
  have F8 := fun_mk (st := sCount) l8 c8 k8
  have b8 := F8.binds (ps := ["m", "seen"]) fun _ _ _ _ _ _ us hl => match us, hl with | [_, _], _ => rfl
  have F9 := fun_mk (st := sEach) l9 c9 k9
  have b9 := F9.binds (ps := ["m", "seen"]) fun _ _ _ _ _ _ us hl => match us, hl with | [_, _], _ => rfl
  have F10 := fun_mk (st := sCertain) l10 c10 k10
  have b10 := F10.binds (ps := ["m", "seen"]) fun _ _ _ _ _ _ us hl => match us, hl with | [_, _], _ => rfl
  have F11 := fun_mk (st := sSafeSq) l11 c11 k11
  have b11 := F11.binds (ps := ["m", "seen"]) fun _ _ _ _ _ _ us hl => match us, hl with | [_, _], _ => rfl
  have F12 := fun_mk (st := sRange) l12 c12 k12
  have b12 := F12.binds (ps := ["m", "seen"]) fun _ _ _ _ _ _ us hl => match us, hl with | [_, _], _ => rfl
  have F13 := fun_mk (st := sClosed) l13 c13 k13
  have b13 := F13.binds (ps := ["seen"]) fun _ _ _ _ _ _ us hl => match us, hl with | [_], _ => rfl
  have F14 := fun_mk (st := sSolve) l14 c14 k14
  have b14 := F14.binds (ps := ["mines", "first"]) fun _ _ _ _ _ _ us hl => match us, hl with | [_, _], _ => rfl
  have F15 := fun_mk (st := sAns) l15 c15 k15
  have b15 := F15.binds (ps := ["calls"]) fun _ _ _ _ _ _ us hl => match us, hl with | [_], _ => rfl
  have F16 := fun_mk (st := sAnsTo) l16 c16 k16
  have b16 := F16.binds (ps := ["game", "call"]) fun _ _ _ _ _ _ us hl => match us, hl with | [_, _], _ => rfl
  have F17 := fun_mk (st := sAnsGame) l17 c17 k17
  have b17 := F17.binds (ps := ["game", "number", "given"]) fun _ _ _ _ _ _ us hl => match us, hl with | [_, _, _], _ => rfl
  have F18 := fun_mk (st := sAnsSight) l18 c18 k18
  have b18 := F18.binds (ps := ["number", "m", "seen"]) fun _ _ _ _ _ _ us hl => match us, hl with | [_, _, _], _ => rfl
  have F20 := fun_mk (st := sTInit) l20 c20 k20
  have b20 := F20.binds (ps := ["self", "seen"]) fun _ _ _ _ _ _ us hl => match us, hl with | [_, _], _ => rfl
  have M20 : Meth K CT "__init__" f20 := ⟨a20, i20, k20⟩
  have F21 := fun_mk (st := sEnter) l21 c21 k21
  have b21 := F21.binds (ps := ["self", "seen", "c"]) fun _ _ _ _ _ _ us hl => match us, hl with | [_, _, _], _ => rfl
  have M21 : Meth K CT "enter" f21 := ⟨a21, i21, k21⟩
  have F22 := fun_mk (st := sLack) l22 c22 k22
  have b22 := F22.binds (ps := ["self", "mines", "empties", "closed"]) fun _ _ _ _ _ _ us hl => match us, hl with | [_, _, _, _], _ => rfl
  have M22 : Meth K CT "enter_lack" f22 := ⟨a22, i22, k22⟩
  have F23 := fun_mk (st := sWInit) l23 c23 k23
  have b23 := F23.binds (ps := ["self", "m", "seen"]) fun _ _ _ _ _ _ us hl => match us, hl with | [_, _, _], _ => rfl
  have M23 : Meth K CW "__init__" f23 := ⟨a23, i23, k23⟩
  have F24 := fun_mk (st := sLayers) l24 c24 k24
  have b24 := F24.binds (ps := ["self"]) fun _ _ _ _ _ _ us hl => match us, hl with | [_], _ => rfl
  have M24 : Meth K CW "all_layers" f24 := ⟨a24, i24, k24⟩
  have F25 := fun_mk (st := sLayer) l25 c25 k25
  have b25 := F25.binds (ps := ["self", "layer", "c"]) fun _ _ _ _ _ _ us hl => match us, hl with | [_, _, _], _ => rfl
  have M25 : Meth K CW "layer_behind" f25 := ⟨a25, i25, k25⟩
  have F26 := fun_mk (st := sFilled) l26 c26 k26
  have b26 := F26.binds (ps := ["self", "row", "choices", "mines"]) fun _ _ _ _ _ _ us hl => match us, hl with | [_, _, _, _], _ => rfl
  have M26 : Meth K CW "filled_up" f26 := ⟨a26, i26, k26⟩
  have F27 := fun_mk (st := sWith) l27 c27 k27
  have b27 := F27.binds (ps := ["self"]) fun _ _ _ _ _ _ us hl => match us, hl with | [_], _ => rfl
  have M27 : Meth K CW "with_mine" f27 := ⟨a27, i27, k27⟩
  have F28 := fun_mk (st := sRows) l28 c28 k28
  have b28 := F28.binds (ps := ["self"]) fun _ _ _ _ _ _ us hl => match us, hl with | [_], _ => rfl
  have M28 : Meth K CW "rows_with_mine" f28 := ⟨a28, i28, k28⟩
  have F29 := fun_mk (st := sInit) l29 c29 k29
  have b29 := F29.binds (ps := ["self"]) fun _ _ _ _ _ _ us hl => match us, hl with | [_], _ => rfl
  have M29 : Meth K CG "__init__" f29 := ⟨a29, i29, k29⟩
  have F30 := fun_mk (st := sBegin) l30 c30 k30
  have b30 := F30.binds (ps := ["self", "mines"]) fun _ _ _ _ _ _ us hl => match us, hl with | [_, _], _ => rfl
  have M30 : Meth K CG "begin" f30 := ⟨a30, i30, k30⟩
  have F31 := fun_mk (st := sUncover) l31 c31 k31
  have b31 := F31.binds (ps := ["self", "c"]) fun _ _ _ _ _ _ us hl => match us, hl with | [_, _], _ => rfl
  have M31 : Meth K CG "uncover" f31 := ⟨a31, i31, k31⟩
  have F32 := fun_mk (st := sMark) l32 c32 k32
  have b32 := F32.binds (ps := ["self", "c"]) fun _ _ _ _ _ _ us hl => match us, hl with | [_, _], _ => rfl
  have M32 : Meth K CG "mark" f32 := ⟨a32, i32, k32⟩
  have F33 := fun_mk (st := sAbout) l33 c33 k33
  have b33 := F33.binds (ps := ["self", "c"]) fun _ _ _ _ _ _ us hl => match us, hl with | [_, _], _ => rfl
  have M33 : Meth K CG "uncover_about" f33 := ⟨a33, i33, k33⟩
  have F34 := fun_mk (st := sTell) l34 c34 k34
  have b34 := F34.binds (ps := ["self"]) fun _ _ _ _ _ _ us hl => match us, hl with | [_], _ => rfl
  have M34 : Meth K CG "tell" f34 := ⟨a34, i34, k34⟩
  have F35 := fun_mk (st := sSight) l35 c35 k35
  have b35 := F35.binds (ps := ["self"]) fun _ _ _ _ _ _ us hl => match us, hl with | [_], _ => rfl
  have M35 : Meth K CG "sight" f35 := ⟨a35, i35, k35⟩
  have F36 := fun_mk (st := sMinesAbout) l36 c36 k36
  have b36 := F36.binds (ps := ["self", "c"]) fun _ _ _ _ _ _ us hl => match us, hl with | [_, _], _ => rfl
  have M36 : Meth K CG "mines_about" f36 := ⟨a36, i36, k36⟩
  have F37 := fun_mk (st := sRefusal) l37 c37 k37
  have b37 := F37.binds (ps := ["self", "c"]) fun _ _ _ _ _ _ us hl => match us, hl with | [_, _], _ => rfl
  have M37 : Meth K CG "refusal_of" f37 := ⟨a37, i37, k37⟩
  have F38 := fun_mk (st := sAsMany) l38 c38 k38
  have b38 := F38.binds (ps := ["self", "squares"]) fun _ _ _ _ _ _ us hl => match us, hl with | [_, _], _ => rfl
  have M38 : Meth K CG "as_many_marks_as_mines" f38 := ⟨a38, i38, k38⟩
  have F39 := fun_mk (st := sLose) l39 c39 k39
  have b39 := F39.binds (ps := ["self", "c"]) fun _ _ _ _ _ _ us hl => match us, hl with | [_, _], _ => rfl
  have M39 : Meth K CG "lose_at" f39 := ⟨a39, i39, k39⟩
  have F40 := fun_mk (st := sSafe) l40 c40 k40
  have b40 := F40.binds (ps := ["self", "squares"]) fun _ _ _ _ _ _ us hl => match us, hl with | [_, _], _ => rfl
  have M40 : Meth K CG "uncover_safe" f40 := ⟨a40, i40, k40⟩
  have Fb := fun_mk (st := sBest) l19 c19 k19
  have bb := Fb.binds (ps := ["m", "seen"]) fun _ _ _ _ _ _ us hl => match us, hl with | [_, _], _ => rfl
  obtain ⟨ecd, oC, hoC⟩ := tabIn_is a19 l19 hTab
  have ecd : cd19 = .ref cT := ecd
  subst ecd
  have hCA : ∀ h', K.In h' → CodeHd h' cT PT := fun h' X' => by
    obtain ⟨o1, vs, file, tf, flags, tg, inF, text, tt, e1, r1⟩ := hCd
    have e2 := X _ _ hoC
    rw [e1] at e2
    cases e2
    exact ⟨_, vs, file, tf, flags, tg, inF, text, tt, X' _ _ hoC, r1⟩
  refine ⟨PySem.W.fnOf "answers" "answers" (defArgs sAns) (defBody sAns) (defScope sAns) .none kV15 dc15 pm15 an15 cd15 ct15, fun s us hu => match us, hu with | [_], _ => .of_eq rfl, fun base _ _ hB => ?_⟩
  have gRef := ok_refusal (P := P) (w := w) (base := base) F37 TG TS F1 b1 (MG a1)
  have gLose := ok_lose (P := P) (w := w) (base := base) F39 TG
  have gTell := ok_tell (P := P) (w := w) (base := base) F34 TG
  have gMany := ok_asMany (P := P) (w := w) (base := base) F38 TG TS F5 b5 (MG a5) F3 b3 (MG a3)
  have gBegin := ok_begin (P := P) (w := w) (base := base) F30 TG TS F4 b4 (MG a4)
  have gInit := ok_init (P := P) (w := w) (base := base) F29 TG TS F30 b30 M30 F4 b4 (MG a4)
  have gMA := ok_minesAbout (P := P) (w := w) (base := base) F36 TG TS F5 b5 (MG a5) F3 b3 (MG a3) F2 b2 (MG a2)
  have gSight := ok_sight (P := P) (w := w) (base := base) F35 TG TS ⟨_, MG n12⟩ gMA b36 M36 F3 b3 (MG a3)
  have gSafe := ok_safe (P := P) (w := w) (base := base) F40 TG TS gMA b36 M36 F3 b3 (MG a3) F2 b2 (MG a2)
  have gMark := ok_mark (P := P) (w := w) (base := base) F32 TG gRef b37 M37 F3 b3 (MG a3)
  have gUn := ok_uncover (P := P) (w := w) (base := base) F31 TG gRef b37 M37 gLose b39 M39 gSafe b40 M40 F3 b3 (MG a3)
  have gAb := ok_about (P := P) (w := w) (base := base) F33 TG TS gRef b37 M37 gLose b39 M39 gSafe b40 M40 gMany b38 M38 F5 b5 (MG a5) F2 b2 (MG a2) F3 b3 (MG a3)
  have gLack := ok_lack (P := P) (w := w) (base := base) F22 TT
  have gEnter := ok_enter (P := P) (w := w) (base := base) F21 TT TS F2 b2 (MG a2) gLack b22 M22
  have gTInit := ok_tinit (P := P) (w := w) (base := base) F20 TT TS gEnter b21 M21
  have gLayer := ok_layer (P := P) (w := w) (base := base) F25 TW TT
  have gLayers := ok_layers (P := P) (w := w) (base := base) F24 TW TT gLayer b25 M25
  have gFill := ok_filled (P := P) (w := w) (base := base) F26 TW TS
  have gRows := ok_rows (P := P) (w := w) (base := base) F28 TW TT TS
  have gWith := ok_with (P := P) (w := w) (base := base) F27 TW TT TS gFill b26 M26 gRows b28 M28 F7 b7 (MG a7)
  have gWInit := ok_winit (P := P) (w := w) (base := base) F23 TW TT TS ⟨mkT, a20, i20, kcT⟩ gTInit b20 (MG aT) gLayers b24 M24 gFill b26 M26 F7 b7 (MG a7)
  have WF : WaysFns P w K mg base CW CT f23 f27 _ _ := ⟨⟨mkW, a23, i23, kcW⟩, gWInit, b23, MG aW, gWith, b27, M27⟩
  have gRange := ok_range (P := P) (w := w) (base := base) F12 TS TT
  have gClosed := ok_closed (P := P) (w := w) (base := base) F13 TS TT
  have gCount := ok_count F8 TW TA WF gRange F12 b12 (MG a12)
  have gEach := ok_each F9 TW TA WF gRange F12 b12 (MG a12)
  have gCertain := ok_certain F10 TW TA TS WF gRange F12 b12 (MG a12) gClosed F13 b13 (MG a13) F6 b6 (MG a6)
  have gBest := ok_best l19 c19 hCA hB TW TA TS WF gRange F12 b12 (MG a12) gClosed F13 b13 (MG a13)
  have gSafeSq := ok_safeSq F11 TW WF gClosed F13 b13 (MG a13)
  have GF : GameFns P w K mg base CG f29 f30 f31 f40 f35 _ _ _ _ _ := ⟨⟨mkG, a29, i29, kcG⟩, gInit, b29, MG aG, gBegin, b30, M30, gUn, b31, M31, gSafe, b40, M40, gSight, b35, M35⟩
  have gSolve := ok_solve F14 TG TS ⟨_, MG n2⟩ GF F1 b1 (MG a1) F4 b4 (MG a4) gSafeSq F11 b11 (MG a11)
  have gAnsS := ok_ansSight F18 TB gCount F8 b8 (MG a8) gEach F9 b9 (MG a9) gCertain F10 b10 (MG a10) gBest k19 bb (MG a19)
  have gAnsG := ok_ansGame F17 TG TB gBegin b30 M30 gUn b31 M31 gMark b32 M32 gAb b33 M33 gTell b34 M34
  have gAnsT := ok_ansTo F16 TG TB gAnsG F17 b17 (MG a17) gAnsS F18 b18 (MG a18) gSolve F14 b14 (MG a14)
  exact ok_ans F15 TG TS ⟨mkG, a29, i29, kcG⟩ gInit b29 (MG aG) gAnsT F16 b16 (MG a16) hL (MG aL_)
end SM
end
/-! Names that are taken ahead (in turn for a file that is elaborated in one thread, and in more): the head would write twins of these heaps and trees under them, with an equation for each that grows with the square of the number of objects; so it leaves them as they are written, and the kernel reads them so. -/
theorem PySem.W.Fast.tw16660418426466675815 : True := trivial
theorem PySem.W.Fast.tw4506023361846129677 : True := trivial
theorem PySem.W.Fast.tw11093313635302545929 : True := trivial
theorem PySem.W.Fast.tw14822119470089241141 : True := trivial
theorem PySem.W.Fast.tw7955518545465241644 : True := trivial
theorem PySem.W.Fast.tw5230092547400107123 : True := trivial
theorem PySem.W.Fast.tw3720695279300094242 : True := trivial
theorem PySem.Challenge.cw_sixtymines_s01_answers_holds.tw10434722749326081400 : True := trivial
theorem PySem.Challenge.cw_sixtymines_s01_answers_holds.tw13111381933516685704 : True := trivial
theorem PySem.Challenge.cw_sixtymines_s01_answers_holds.tw10421577075144031041 : True := trivial
theorem PySem.Challenge.cw_sixtymines_s01_answers_holds.tw1461755444538266590 : True := trivial
theorem PySem.Challenge.cw_sixtymines_s01_answers_holds.tw17981524992581072230 : True := trivial
theorem PySem.Challenge.cw_sixtymines_s01_answers_holds.tw9337900525522492475 : True := trivial
theorem PySem.Challenge.cw_sixtymines_s01_answers_holds.tw6528475815426074889 : True := trivial
open PySem PySem.W PyProof.Rows
set_option maxRecDepth 100000 in
set_option maxHeartbeats 0 in
theorem PySem.Challenge.cw_sixtymines_s01_answers_holds : PySem.Challenge.rw_sixtymines_s01_answers.Holds := by
  w_on; k_headS; (case hw => exact ⟨[.list [.int 4]], by decide +kernel, by decide +kernel⟩)
  k_fillS
  refine' SM.walkT (r := PySem.Challenge.rw_sixtymines_s01_answers) (k := 10) (ps := ["calls"]) (cT := ?cT) (PT := ?PT) (sp := fun K => SM.spAns K ?PT) (by decide +kernel) rfl rfl ⟨rfl, by decide, by decide⟩ (fun w h Y => PySem.W.kIn_of Y) ?hrec ?hTab ?hNo ?F ?S
  case hrec => kernel_rfl
  case hTab =>
    intro Pm
    refine' SM.tabIn_of ?ba ?bl ?bc ?blc ?bv
    (case ba => k_is); (case bl => k_is); (case bc => rfl); (case blc => k_is); (case bv => rfl)
  case hNo => intro Pm; kernel_rfl
  case F =>
    intro w mg fa h Y KX G hmg hCd
    refine' SM.all_mk KX G hmg hCd ?hT ?n0 ?n1 ?n2 ?n3 ?n4 ?n5 ?n6 ?n7 ?n8 ?n9 ?n10 ?n11 ?n12 ?n13 ?n14 ?n15 ?n16 ?n17 ?n18 ?n19 ?n20 ?n21 ?n22 ?n23 ?n24 ?n25 ?n26 ?n27 ?n28 ?n29 ?z_range ?z_max ?z_min ?z_len ?z_list ?z_sum ?z_zip ?aL_ ?a1 ?l1 ?c1 ?k1 ?a2 ?l2 ?c2 ?k2 ?a3 ?l3 ?c3 ?k3 ?a4 ?l4 ?c4 ?k4 ?a5 ?l5 ?c5 ?k5 ?a6 ?l6 ?c6 ?k6 ?a7 ?l7 ?c7 ?k7 ?a8 ?l8 ?c8 ?k8 ?a9 ?l9 ?c9 ?k9 ?a10 ?l10 ?c10 ?k10 ?a11 ?l11 ?c11 ?k11 ?a12 ?l12 ?c12 ?k12 ?a13 ?l13 ?c13 ?k13 ?a14 ?l14 ?c14 ?k14 ?a15 ?l15 ?c15 ?k15 ?a16 ?l16 ?c16 ?k16 ?a17 ?l17 ?c17 ?k17 ?a18 ?l18 ?c18 ?k18 ?a19 ?l19 ?c19 ?k19 ?aT ?pgT ?hdT ?poT ?saT ?mkT ?kcT ?nnT_possible ?nnT_beginning ?nnT_bits ?nnT_by_mine ?nnT_by_empty ?nnT_guards ?aW ?pgW ?hdW ?poW ?saW ?mkW ?kcW ?nnW_seen ?nnW_tally ?nnW_beside ?nnW_apart ?nnW_hidden ?nnW_width ?nnW_layers ?nnW_row ?nnW_choices ?nnW_total ?aG ?pgG ?hdG ?poG ?saG ?mkG ?kcG ?nnG_mines ?nnG_opened ?nnG_marked ?nnG_state ?a20 ?i20 ?l20 ?c20 ?k20 ?a21 ?i21 ?l21 ?c21 ?k21 ?a22 ?i22 ?l22 ?c22 ?k22 ?a23 ?i23 ?l23 ?c23 ?k23 ?a24 ?i24 ?l24 ?c24 ?k24 ?a25 ?i25 ?l25 ?c25 ?k25 ?a26 ?i26 ?l26 ?c26 ?k26 ?a27 ?i27 ?l27 ?c27 ?k27 ?a28 ?i28 ?l28 ?c28 ?k28 ?a29 ?i29 ?l29 ?c29 ?k29 ?a30 ?i30 ?l30 ?c30 ?k30 ?a31 ?i31 ?l31 ?c31 ?k31 ?a32 ?i32 ?l32 ?c32 ?k32 ?a33 ?i33 ?l33 ?c33 ?k33 ?a34 ?i34 ?l34 ?c34 ?k34 ?a35 ?i35 ?l35 ?c35 ?k35 ?a36 ?i36 ?l36 ?c36 ?k36 ?a37 ?i37 ?l37 ?c37 ?k37 ?a38 ?i38 ?l38 ?c38 ?k38 ?a39 ?i39 ?l39 ?c39 ?k39 ?a40 ?i40 ?l40 ?c40 ?k40 ?hL
    (case hT => refine' SM.tabIn_of ?ba ?bl ?bc ?blc ?bv; (case ba => k_is); (case bl => k_is); (case bc => rfl); (case blc => k_is); (case bv => rfl))
    (case n0 => k_is)
    (case n1 => k_is)
    (case n2 => k_is)
    (case n3 => k_is)
    (case n4 => k_is)
    (case n5 => k_is)
    (case n6 => k_is)
    (case n7 => k_is)
    (case n8 => k_is)
    (case n9 => k_is)
    (case n10 => k_is)
    (case n11 => k_is)
    (case n12 => k_is)
    (case n13 => k_is)
    (case n14 => k_is)
    (case n15 => k_is)
    (case n16 => k_is)
    (case n17 => k_is)
    (case n18 => k_is)
    (case n19 => k_is)
    (case n20 => k_is)
    (case n21 => k_is)
    (case n22 => k_is)
    (case n23 => k_is)
    (case n24 => k_is)
    (case n25 => k_is)
    (case n26 => k_is)
    (case n27 => k_is)
    (case n28 => k_is)
    (case n29 => k_is)
    (case z_range => k_is)
    (case z_max => k_is)
    (case z_min => k_is)
    (case z_len => k_is)
    (case z_list => k_is)
    (case z_sum => k_is)
    (case z_zip => k_is)
    (case aL_ => k_is)
    (case a1 => k_is)
    (case l1 => k_is)
    (case c1 => k_is)
    (case k1 => k_is)
    (case a2 => k_is)
    (case l2 => k_is)
    (case c2 => k_is)
    (case k2 => k_is)
    (case a3 => k_is)
    (case l3 => k_is)
    (case c3 => k_is)
    (case k3 => k_is)
    (case a4 => k_is)
    (case l4 => k_is)
    (case c4 => k_is)
    (case k4 => k_is)
    (case a5 => k_is)
    (case l5 => k_is)
    (case c5 => k_is)
    (case k5 => k_is)
    (case a6 => k_is)
    (case l6 => k_is)
    (case c6 => k_is)
    (case k6 => k_is)
    (case a7 => k_is)
    (case l7 => k_is)
    (case c7 => k_is)
    (case k7 => k_is)
    (case a8 => k_is)
    (case l8 => k_is)
    (case c8 => k_is)
    (case k8 => k_is)
    (case a9 => k_is)
    (case l9 => k_is)
    (case c9 => k_is)
    (case k9 => k_is)
    (case a10 => k_is)
    (case l10 => k_is)
    (case c10 => k_is)
    (case k10 => k_is)
    (case a11 => k_is)
    (case l11 => k_is)
    (case c11 => k_is)
    (case k11 => k_is)
    (case a12 => k_is)
    (case l12 => k_is)
    (case c12 => k_is)
    (case k12 => k_is)
    (case a13 => k_is)
    (case l13 => k_is)
    (case c13 => k_is)
    (case k13 => k_is)
    (case a14 => k_is)
    (case l14 => k_is)
    (case c14 => k_is)
    (case k14 => k_is)
    (case a15 => k_is)
    (case l15 => k_is)
    (case c15 => k_is)
    (case k15 => k_is)
    (case a16 => k_is)
    (case l16 => k_is)
    (case c16 => k_is)
    (case k16 => k_is)
    (case a17 => k_is)
    (case l17 => k_is)
    (case c17 => k_is)
    (case k17 => k_is)
    (case a18 => k_is)
    (case l18 => k_is)
    (case c18 => k_is)
    (case k18 => k_is)
    (case a19 => k_is)
    (case l19 => k_is)
    (case c19 => k_is)
    (case k19 => k_is)
    (case aT => k_is)
    (case pgT => k_is)
    (case hdT => k_is)
    (case poT => k_is)
    (case saT => k_is)
    (case mkT => k_is)
    (case kcT => k_is)
    (case nnT_possible => k_is)
    (case nnT_beginning => k_is)
    (case nnT_bits => k_is)
    (case nnT_by_mine => k_is)
    (case nnT_by_empty => k_is)
    (case nnT_guards => k_is)
    (case aW => k_is)
    (case pgW => k_is)
    (case hdW => k_is)
    (case poW => k_is)
    (case saW => k_is)
    (case mkW => k_is)
    (case kcW => k_is)
    (case nnW_seen => k_is)
    (case nnW_tally => k_is)
    (case nnW_beside => k_is)
    (case nnW_apart => k_is)
    (case nnW_hidden => k_is)
    (case nnW_width => k_is)
    (case nnW_layers => k_is)
    (case nnW_row => k_is)
    (case nnW_choices => k_is)
    (case nnW_total => k_is)
    (case aG => k_is)
    (case pgG => k_is)
    (case hdG => k_is)
    (case poG => k_is)
    (case saG => k_is)
    (case mkG => k_is)
    (case kcG => k_is)
    (case nnG_mines => k_is)
    (case nnG_opened => k_is)
    (case nnG_marked => k_is)
    (case nnG_state => k_is)
    (case a20 => k_is)
    (case i20 => k_is)
    (case l20 => k_is)
    (case c20 => k_is)
    (case k20 => k_is)
    (case a21 => k_is)
    (case i21 => k_is)
    (case l21 => k_is)
    (case c21 => k_is)
    (case k21 => k_is)
    (case a22 => k_is)
    (case i22 => k_is)
    (case l22 => k_is)
    (case c22 => k_is)
    (case k22 => k_is)
    (case a23 => k_is)
    (case i23 => k_is)
    (case l23 => k_is)
    (case c23 => k_is)
    (case k23 => k_is)
    (case a24 => k_is)
    (case i24 => k_is)
    (case l24 => k_is)
    (case c24 => k_is)
    (case k24 => k_is)
    (case a25 => k_is)
    (case i25 => k_is)
    (case l25 => k_is)
    (case c25 => k_is)
    (case k25 => k_is)
    (case a26 => k_is)
    (case i26 => k_is)
    (case l26 => k_is)
    (case c26 => k_is)
    (case k26 => k_is)
    (case a27 => k_is)
    (case i27 => k_is)
    (case l27 => k_is)
    (case c27 => k_is)
    (case k27 => k_is)
    (case a28 => k_is)
    (case i28 => k_is)
    (case l28 => k_is)
    (case c28 => k_is)
    (case k28 => k_is)
    (case a29 => k_is)
    (case i29 => k_is)
    (case l29 => k_is)
    (case c29 => k_is)
    (case k29 => k_is)
    (case a30 => k_is)
    (case i30 => k_is)
    (case l30 => k_is)
    (case c30 => k_is)
    (case k30 => k_is)
    (case a31 => k_is)
    (case i31 => k_is)
    (case l31 => k_is)
    (case c31 => k_is)
    (case k31 => k_is)
    (case a32 => k_is)
    (case i32 => k_is)
    (case l32 => k_is)
    (case c32 => k_is)
    (case k32 => k_is)
    (case a33 => k_is)
    (case i33 => k_is)
    (case l33 => k_is)
    (case c33 => k_is)
    (case k33 => k_is)
    (case a34 => k_is)
    (case i34 => k_is)
    (case l34 => k_is)
    (case c34 => k_is)
    (case k34 => k_is)
    (case a35 => k_is)
    (case i35 => k_is)
    (case l35 => k_is)
    (case c35 => k_is)
    (case k35 => k_is)
    (case a36 => k_is)
    (case i36 => k_is)
    (case l36 => k_is)
    (case c36 => k_is)
    (case k36 => k_is)
    (case a37 => k_is)
    (case i37 => k_is)
    (case l37 => k_is)
    (case c37 => k_is)
    (case k37 => k_is)
    (case a38 => k_is)
    (case i38 => k_is)
    (case l38 => k_is)
    (case c38 => k_is)
    (case k38 => k_is)
    (case a39 => k_is)
    (case i39 => k_is)
    (case l39 => k_is)
    (case c39 => k_is)
    (case k39 => k_is)
    (case a40 => k_is)
    (case i40 => k_is)
    (case l40 => k_is)
    (case c40 => k_is)
    (case k40 => k_is)
    (case hL => kernel_rfl)
  case S =>
    intro K H0 H xs a hO hs ht hwi hask hx
    cases hx with
    | cons h1 h2 =>
      cases h2
      cases h1 with
      | lst hq ha =>
        have e := L2.ints_dw a.1 _ ha
        subst e
        have q : ((Codec.inLen 0 16000 a.1 && a.1.all (Codec.inInt (-2147483648) 18446744073709551615)) && true) = true := hwi
        rw [Bool.and_eq_true, Bool.and_eq_true] at q
        exact ⟨_, a.1, rfl, hs.seq hq, (Codec.inNat_iff.mp q.1.1).2, hask, ht, fun H' p t hp => ⟨.lst (L2.SqL.of hp) (L2.dw_ints _), t⟩⟩
