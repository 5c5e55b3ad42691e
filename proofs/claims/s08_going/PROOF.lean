import PyProof.Rows.All
import Wide.All
import OpenK.AllK
import Wide.FinOn
import PyProof.EqAt
import PyProof.EqKinds
import PyProof.TupleCall
import KE.BitLaws
import Open.SpecLaws
import KE.OsHead
import KE.OsGo
import PyProof.TupleKey
import PyProof.SetKind
import PyProof.IsRules
import PyProof.Rows.SetFrom
import KE.KDictSum
import KE.KSortTupG
import PySem.Challenge.RW_crystalsums_s08_going
section
set_option Elab.async false
set_option linter.all false
set_option maxRecDepth 100000
/-! THE HAND LAYER, for ints, bools, texts, own classes, lists, tuples, dicts, comprehensions, walks over dicts, enumerate, zip, reversed, texts, calls, loops. Paste it whole ahead of your own text; what your proof does not reach may be deleted. -/
namespace L2
open PySem PySem.Spec PyProof.Rows

/-- a key: an int or a str -/
abbrev Key := Sum Int Str
def keyIs : Key → Value → Bool
  | .inl k, v => Value.isInt k v
  | .inr x, v => Value.isStrOf x v
def keyH (w : World) : Key → Int
  | .inl k => hashInt k
  | .inr x => hashStr w x
theorem keyIs_shape : ∀ {k : Key} {v : Value}, keyIs k v = true → (∃ i t, k = Sum.inl i ∧ v = Value.int i t) ∨ (∃ x t, k = Sum.inr x ∧ v = Value.str x t)
  | .inl i, v, h => by
    obtain ⟨t, e⟩ := Value.isInt_shape (k := i) (v := v) h
    exact .inl ⟨i, t, rfl, e⟩
  | .inr x, v, h => by
    obtain ⟨t, e⟩ := Value.isStrOf_shape (x := x) (v := v) h
    exact .inr ⟨x, t, rfl, e⟩
theorem keyIs_int (i : Int) (t : Tok) : keyIs (.inl i) (.int i t) = true := by simp [keyIs, Value.isInt]
theorem keyIs_str (x : Str) (t : Tok) : keyIs (.inr x) (.str x t) = true := by simp [keyIs, Value.isStrOf]
theorem key_ll (a b : Int) : decide ((Sum.inl a : Key) = Sum.inl b) = (a == b) := by
  by_cases e : a = b
  · subst e; simp
  · have h : ¬ (Sum.inl a : Key) = Sum.inl b := fun q => e (Sum.inl.inj q)
    rw [decide_eq_false h]
    exact (beq_eq_false_iff_ne.mpr e).symm
theorem key_rr (a b : Str) : decide ((Sum.inr a : Key) = Sum.inr b) = decide (a = b) := by
  by_cases e : a = b
  · subst e; simp
  · have h : ¬ (Sum.inr a : Key) = Sum.inr b := fun q => e (Sum.inr.inj q)
    rw [decide_eq_false h, decide_eq_false e]
theorem key_lr (a : Int) (b : Str) : decide ((Sum.inl a : Key) = Sum.inr b) = false := decide_eq_false (fun q => nomatch q)
theorem key_rl (a : Str) (b : Int) : decide ((Sum.inr a : Key) = Sum.inl b) = false := decide_eq_false (fun q => nomatch q)

def mixKind (prog : Program) (w : World) : PySem.KeyKind prog w Key where
  is := keyIs
  hash := keyH w
  inj := fun v a b ha hb => by
    rcases keyIs_shape ha with ⟨i, t, rfl, rfl⟩ | ⟨x, t, rfl, rfl⟩
    · rcases keyIs_shape hb with ⟨j, u, rfl, e⟩ | ⟨y, u, rfl, e⟩
      · injection e with e1 _; rw [e1]
      · exact nomatch e
    · rcases keyIs_shape hb with ⟨j, u, rfl, e⟩ | ⟨y, u, rfl, e⟩
      · exact nomatch e
      · injection e with e1 _; rw [e1]
  byValue := fun k v h => by
    rcases keyIs_shape h with ⟨i, t, rfl, rfl⟩ | ⟨x, t, rfl, rfl⟩ <;> rfl
  pyHash := fun hv h => by
    rcases keyIs_shape hv with ⟨i, t, rfl, rfl⟩ | ⟨x, t, rfl, rfl⟩
    · exact wpAny_pyHash_int h
    · exact wpAny_pyHash_str h
  eqBool := fun hu hv h => by
    rcases keyIs_shape hu with ⟨i, t, rfl, rfl⟩ | ⟨x, t, rfl, rfl⟩
    · rcases keyIs_shape hv with ⟨j, u, rfl, rfl⟩ | ⟨y, u, rfl, rfl⟩
      · rw [key_ll] at h; exact wpAny_eqBool_int h
      · rw [key_lr] at h; exact SeqAt.EqAt.int_str i t y u _ _ _ _ h
    · rcases keyIs_shape hv with ⟨j, u, rfl, rfl⟩ | ⟨y, u, rfl, rfl⟩
      · rw [key_rl] at h; exact SeqAt.EqAt.str_int x t j u _ _ _ _ h
      · rw [key_rr] at h; exact wpAny_eqBool_str h
  «strs» := fun k x t v h => by
    rcases keyIs_shape h with ⟨i, u, rfl, e⟩ | ⟨y, u, rfl, e⟩
    · exact nomatch e
    · injection e with e1 _
      subst e1
      cases v <;> rfl

theorem mixKind_int (prog : Program) (w : World) (i : Int) (t : Tok) : (mixKind prog w).is (.inl i) (.int i t) = true := keyIs_int i t
theorem mixKind_str (prog : Program) (w : World) (x : Str) (t : Tok) : (mixKind prog w).is (.inr x) (.str x t) = true := keyIs_str x t
end L2

namespace L2
open PySem PySem.Spec PyProof.Rows

/-- a value, without the heap -/
inductive V where
  | non | bl (b : Bool) | int (i : Int) | str (x : Str) | byt (b : Array UInt8) | flt (b : UInt64) | ref (a : Addr) | ty (n : String)
  deriving DecidableEq

def RelV : V → Value → Prop
  | .non, u => u = Value.none
  | .bl b, u => u = Value.bool b
  | .int i, u => ∃ t, u = Value.int i t
  | .str x, u => ∃ t, u = Value.str x t
  | .byt b, u => ∃ t, u = Value.bytes b t
  | .flt b, u => ∃ t, u = Value.float b t
  | .ref a, u => u = Value.ref a
  | .ty n, u => u = Value.type n

abbrev Vals : List V → List Value → Prop := Paired RelV
theorem Vals.length {xs : List V} {us : List Value} (r : Vals xs us) : xs.length = us.length := Paired.length r
theorem Vals.get : ∀ {xs : List V} {us : List Value} {i : Nat} {x : V}, Vals xs us → xs[i]? = some x → ∃ u, us[i]? = some u ∧ RelV x u
  | _, _, _, _, .nil, e => by simp at e
  | _, _, 0, _, .cons r _, e => by simp at e; subst e; exact ⟨_, rfl, r⟩
  | _, _, i + 1, x, .cons _ t, e => by
    obtain ⟨u, h1, h2⟩ := Vals.get (i := i) (x := x) t (by simpa using e)
    exact ⟨u, by simpa using h1, h2⟩
theorem Vals.set {x : V} {u : Value} (r : RelV x u) : ∀ {xs : List V} {us : List Value} (i : Nat), Vals xs us → Vals (xs.set i x) (us.set i u)
  | _, _, _, .nil => .nil
  | _, _, 0, .cons _ t => .cons r t
  | _, _, i + 1, .cons q t => .cons q (Vals.set r i t)
theorem Vals.append : ∀ {xs ys : List V} {us ws : List Value}, Vals xs us → Vals ys ws → Vals (xs ++ ys) (us ++ ws)
  | _, _, _, _, .nil, s => s
  | _, _, _, _, .cons r t, s => .cons r (Vals.append t s)
theorem Vals.take : ∀ {xs : List V} {us : List Value} (n : Nat), Vals xs us → Vals (xs.take n) (us.take n)
  | _, _, 0, _ => .nil
  | _, _, _ + 1, .nil => .nil
  | _, _, n + 1, .cons r t => .cons r (Vals.take n t)
theorem Vals.drop : ∀ {xs : List V} {us : List Value} (n : Nat), Vals xs us → Vals (xs.drop n) (us.drop n)
  | _, _, 0, r => r
  | _, _, _ + 1, .nil => .nil
  | _, _, n + 1, .cons _ t => Vals.drop n t

def RelO : Option V → Option Value → Prop
  | some v, some u => RelV v u
  | none, none => True
  | _, _ => False
def KV {κ : Type} : List (κ × V) → List (κ × Value) → Prop := Paired fun (p : κ × V) (q : κ × Value) => p.1 = q.1 ∧ RelV p.2 q.2

/-- a key of a dict (00_mix): an int or a text -/
def kV : Key → V
  | .inl i => .int i
  | .inr x => .str x

/-- what stands at a tracked address -/
inductive HO where
  /-- a list -/
  | lst (xs : List V)
  /-- a tuple (never changes) -/
  | tup (xs : List V)
  /-- a dict whose keys are ints and texts; one whose keys are tuples of ints and texts (the empty one is both) -/
  | dK (kvs : List (Key × V)) | dT (kvs : List (List Key × V))
  /-- a set of ints: its members, its size -/
  | set (S : Int → Bool) (n : Nat)
  /-- an instance of the class at C, its dict at dx, its attributes -/
  | ins (C dx : Addr) (fs : List (Str × V))
  /-- the dict of the instance at x -/
  | own (x : Addr)
  /-- the dict of an exception -/
  | xd (fs : List (Str × V))
  /-- a bound method, f of x -/
  | met (f x : Addr)
  /-- a range object lo, lo + 1, .. below hi -/
  | rng (lo hi : Int)
  /-- a thing that is known to the object (the script; a dict while a loop walks it): read, never written while it is so -/
  | frz (o : Obj) (u : HO)
  /-- a code object's table -/
  | tbl (ps : Array Value)
  /-- any other thing, by what is true of its one object (a def of one's own: SetO a S n := HO.ext fun h => ..) -/
  | ext (φ : Heap → Prop)

abbrev Hp := Addr → Option HO
def upd (H : Hp) (a : Addr) (o : HO) : Hp := fun b => if b = a then some o else H b
theorem upd_same {H : Hp} {a : Addr} {o : HO} : upd H a o a = some o := by unfold upd; rw [if_pos rfl]
theorem upd_ne {H : Hp} {a b : Addr} {o : HO} (h : b ≠ a) : upd H a o b = H b := by unfold upd; rw [if_neg h]
/-- two objects of different content stand apart -/
theorem ne_of {H : Hp} {a b : Addr} {o u : HO} (h : H a = some o) (h' : H b = some u) (d : o ≠ u) : a ≠ b := by
  intro e; subst e; rw [h] at h'; exact d (Option.some.inj h')
theorem ne_of_none {H : Hp} {a b : Addr} {o : HO} (h : H a = some o) (h' : H b = none) : a ≠ b := by
  intro e; subst e; rw [h] at h'; cases h'

section
variable (P : Program) (w : World)
def ObjOk (H : Hp) (h : Heap) (a : Addr) : HO → Prop
  | .lst xs => xs.length ≤ sizeLine ∧ ∃ (its : List Value) (n : Nat), Vals xs its ∧ h.get? a = some { cls := .type "list", data := .seq its.toArray n }
  | .tup xs => xs.length ≤ sizeLine ∧ ∃ its : List Value, Vals xs its ∧ IsTup h a its.toArray
  | .dK kvs => kvs.length ≤ sizeLine ∧ (a == sysModules) = false ∧ ∃ vs, KV kvs vs ∧ h.DictOf (mixKind P w) a vs
  | .dT kvs => kvs.length ≤ sizeLine ∧ (a == sysModules) = false ∧ ∃ xs : List (List Key × Addr × Value),
      Paired (fun (p : List Key × V) (q : List Key × Addr × Value) => p.1 = q.1 ∧ H q.2.1 = some (.tup (p.1.map kV)) ∧ RelV p.2 q.2.2) kvs xs ∧
      ∃ o es ep, h.get? a = some o ∧ o.ExactDict ∧ o.data = .dict es ep ∧ es.toList = xs.map (entryOfKey (tupleKind (mixKind P w))) ∧ (xs.map (·.1)).Nodup
  | .set S n => h.SetOf (intKind P w) a S n
  | .ins C dx fs => H dx = some (.own a) ∧ fs.length ≤ 1000 ∧ dx ≠ a ∧ h.get? a = some (PySem.W.instObj C dx) ∧
      ∃ mA, h.Ns1 dx mA ∧ (∀ f, RelO (fs.lookup f) (mA f)) ∧ PySem.Within mA (fs.map (·.1))
  | .own _ => ∃ o, h.get? a = some o
  | .xd fs => ∃ mA, h.Ns1 a mA ∧ ∀ f, RelO (fs.lookup f) (mA f)
  | .rng lo hi => ∃ t u v, h.get? a = some { cls := .type "range", data := .fields #[.int lo t, .int hi u, .int 1 v] }
  | .frz o u => h.get? a = some o ∧ ObjOk H h a u
  | .tbl ps => h.get? a = some { cls := .none, data := .fields ps }
  | .met f x => h.get? a = some (PySem.W.methodObj (.ref f) (.ref x))
  | .ext φ => φ h ∧ (∃ o, h.get? a = some o) ∧ ∀ h1 h2 : Heap, φ h1 → (∀ o, h1.get? a = some o → h2.get? a = some o) → φ h2
/-- the abstract heap is held -/
def HOk (H : Hp) (h : Heap) : Prop := ∀ a o, H a = some o → ObjOk P w H h a o
end

section
variable {P : Program} {w : World} {H H' : Hp} {h h' : Heap} {a : Addr} {o : HO}
theorem ObjOk.lt (x : ObjOk P w H h a o) : a < h.objs.size := by
  cases o with
  | lst xs => obtain ⟨_, _, _, _, e⟩ := x; exact Heap.lt_size e
  | tup xs => obtain ⟨_, _, _, p⟩ := x; exact p.lt
  | dK kvs => obtain ⟨_, _, _, _, o, _, _, e, _⟩ := x; exact Heap.lt_size e
  | dT kvs => obtain ⟨_, _, _, _, o, _, _, e, _⟩ := x; exact Heap.lt_size e
  | set S n => obtain ⟨o, _, _, _, e, _⟩ := x; exact Heap.lt_size e
  | ins C dx fs => obtain ⟨_, _, _, e, _⟩ := x; exact Heap.lt_size e
  | own y => obtain ⟨_, e⟩ := x; exact Heap.lt_size e
  | xd fs => obtain ⟨_, ⟨_, _, _, e, _⟩, _⟩ := x; exact Heap.lt_size e
  | rng lo hi => obtain ⟨_, _, _, e⟩ := x; exact Heap.lt_size e
  | frz ob u => obtain ⟨e, _⟩ := x; exact Heap.lt_size e
  | tbl ps => exact Heap.lt_size (show h.get? a = some _ from x)
  | met f y => exact Heap.lt_size (show h.get? a = some _ from x)
  | ext φ => obtain ⟨_, ⟨_, e⟩, _⟩ := x; exact Heap.lt_size e
theorem Paired.mapP {α β : Type} {F G : α → β → Prop} : ∀ {l₁ : List α} {l₂ : List β}, Paired F l₁ l₂ → (∀ a b, F a b → G a b) → Paired G l₁ l₂
  | _, _, .nil, _ => .nil
  | _, _, .cons r t, f => .cons (f _ _ r) (Paired.mapP t f)
/-- what an object's description leans on: its own object, its own dict, the tuples -/
theorem ObjOk.stay (x : ObjOk P w H h a o) (k : ∀ b u, (b = a ∨ H b = some (.own a)) → h.get? b = some u → h'.get? b = some u)
    (ho : ∀ b, H b = some (.own a) → H' b = some (.own a)) (ht : ∀ b xs, H b = some (.tup xs) → H' b = some (.tup xs)) : ObjOk P w H' h' a o := by
  induction o with
  | lst xs => obtain ⟨z, its, n, r, e⟩ := x; exact ⟨z, its, n, r, k _ _ (.inl rfl) e⟩
  | tup xs => obtain ⟨z, its, r, ob, e, c⟩ := x; exact ⟨z, its, r, ob, k _ _ (.inl rfl) e, c⟩
  | dK kvs => obtain ⟨z, y, vs, r, ob, es, ep, e, c⟩ := x; exact ⟨z, y, vs, r, ob, es, ep, k _ _ (.inl rfl) e, c⟩
  | dT kvs =>
    obtain ⟨z, y, xs, r, ob, es, ep, e, c⟩ := x
    exact ⟨z, y, xs, Paired.mapP r fun p q z => ⟨z.1, ht _ _ z.2.1, z.2.2⟩, ob, es, ep, k _ _ (.inl rfl) e, c⟩
  | set S n => obtain ⟨ob, es, ep, t, e, c⟩ := x; exact ⟨ob, es, ep, t, k _ _ (.inl rfl) e, c⟩
  | ins C dx fs =>
    obtain ⟨d, z, ne, e, mA, ⟨od, es, ep, e2, c⟩, r⟩ := x
    exact ⟨ho _ d, z, ne, k _ _ (.inl rfl) e, mA, ⟨od, es, ep, k _ _ (.inr d) e2, c⟩, r⟩
  | own y => obtain ⟨ob, e⟩ := x; exact ⟨ob, k _ _ (.inl rfl) e⟩
  | xd fs => obtain ⟨mA, ⟨od, es, ep, e, c⟩, r⟩ := x; exact ⟨mA, ⟨od, es, ep, k _ _ (.inl rfl) e, c⟩, r⟩
  | rng lo hi => obtain ⟨t, u, v, e⟩ := x; exact ⟨t, u, v, k _ _ (.inl rfl) e⟩
  | frz ob u ih => obtain ⟨e, q⟩ := x; exact ⟨k _ _ (.inl rfl) e, ih q⟩
  | tbl ps =>
    have e : h.get? a = some { cls := .none, data := .fields ps } := x
    show h'.get? a = some { cls := .none, data := .fields ps }
    exact k a _ (.inl rfl) e
  | met f y =>
    have e : h.get? a = some (PySem.W.methodObj (.ref f) (.ref y)) := x
    show h'.get? a = some (PySem.W.methodObj (.ref f) (.ref y))
    exact k a _ (.inl rfl) e
  | ext φ => obtain ⟨p, ⟨o, e⟩, st⟩ := x; exact ⟨st _ _ p fun o q => k _ _ (.inl rfl) q, ⟨o, k _ _ (.inl rfl) e⟩, st⟩
theorem HOk.lt (x : HOk P w H h) (e : H a = some o) : a < h.objs.size := (x a o e).lt
theorem HOk.fresh (x : HOk P w H h) (e : h.objs.size ≤ a) : H a = none := by
  cases q : H a with
  | none => rfl
  | some u => exact absurd (Nat.lt_of_lt_of_le (x.lt q) e) (Nat.lt_irrefl _)
/-- every object of the heap is kept -/
theorem HOk.kept (x : HOk P w H h) (k : ∀ b u, h.get? b = some u → h'.get? b = some u) : HOk P w H h' := fun a o e =>
  (x a o e).stay (fun b u _ q => k b u q) (fun _ q => q) fun _ _ q => q
/-- a new object is laid and tracked -/
theorem HOk.laid (x : HOk P w H h) (k : ∀ b u, h.get? b = some u → h'.get? b = some u) (hp : h.objs.size ≤ a) (new : ObjOk P w (upd H a o) h' a o) : HOk P w (upd H a o) h' := fun b u e => by
  have hn := x.fresh hp
  by_cases hb : b = a
  · subst hb; rw [upd_same] at e; cases e; exact new
  · rw [upd_ne hb] at e
    exact (x b u e).stay (fun c v _ q => k c v q) (fun c q => by rw [upd_ne (ne_of_none q hn)]; exact q) fun c xs q => by rw [upd_ne (ne_of_none q hn)]; exact q
end

/-- what may be read as u: it is u, or a known u -/
def Rd (H : Hp) (a : Addr) (u : HO) : Prop := H a = some u ∨ ∃ o, H a = some (.frz o u)
theorem Rd.of {H : Hp} {a : Addr} {u : HO} (h : H a = some u) : Rd H a u := .inl h
theorem Rd.ok {P : Program} {w : World} {H : Hp} {h : Heap} {a : Addr} {u : HO} (r : Rd H a u) (x : HOk P w H h) : ObjOk P w H h a u := by
  rcases r with r | ⟨o, r⟩
  · exact x a u r
  · obtain ⟨_, q⟩ := x a _ r
    exact q
/-- what may be written -/
def Mut : Option HO → Prop
  | some (.lst _) => True
  | some (.dK _) => True
  | some (.dT _) => True
  | some (.set _ _) => True
  | some (.ins _ _ _) => True
  | some (.ext _) => True
  | _ => False
section
variable {P : Program} {w : World} {H : Hp} {h h' : Heap} {x e : Addr} {o' : HO}
/-- the object at e is changed: x itself, or the dict of the instance x -/
theorem HOk.write (ok : HOk P w H h) (mu : Mut (H x)) (he : e = x ∨ H e = some (.own x)) (k : ∀ b u, b ≠ e → h.get? b = some u → h'.get? b = some u) (heo : ∃ u, h'.get? e = some u)
    (new : ObjOk P w (upd H x o') h' x o') : HOk P w (upd H x o') h' := fun b u q => by
  have nown : ∀ c y, H c = some (.own y) → c ≠ x := fun c y r z => by subst z; rw [r] at mu; exact mu
  have ntup : ∀ c xs, H c = some (.tup xs) → c ≠ x := fun c xs r z => by subst z; rw [r] at mu; exact mu
  by_cases hb : b = x
  · subst hb; rw [upd_same] at q; cases q; exact new
  · rw [upd_ne hb] at q
    by_cases hbe : b = e
    · have q' : H b = some (.own x) := by
        rcases he with z | z
        · exact absurd (hbe.trans z) hb
        · rw [hbe]; exact z
      rw [q] at q'; cases q'
      obtain ⟨v, hv⟩ := heo
      exact ⟨v, by rw [hbe]; exact hv⟩
    · refine (ok b u q).stay (fun c v hc r => k c v ?_ r) (fun c r => by rw [upd_ne (nown c b r)]; exact r) fun c xs r => by rw [upd_ne (ntup c xs r)]; exact r
      rcases hc with rfl | hc
      · exact hbe
      · rintro rfl
        rcases he with z | z
        · exact nown c b hc z
        · rw [hc] at z; cases z; exact hb rfl
end

/-! ### kept unless tracked; of the frames at fs (the callers') the slots may change (an exception that passes writes there); of the records at ex (iterators) nothing is said -/
structure Un (fs ex : List Addr) (H H' : Hp) (h h' : Heap) : Prop where
  keep : ∀ b o, h.get? b = some o → H b = none → b ∉ fs → b ∉ ex → h'.get? b = some o
  slot : ∀ b o, h.get? b = some o → H b = none → b ∈ fs → b ∉ ex → ∃ sl, h'.get? b = some { o with slots := sl }
  free : ∀ b o, h.get? b = some o → H b = none → b ∉ ex → H' b = none
  there : ∀ b o, h.get? b = some o → b ∉ ex → ∃ o', h'.get? b = some o'
  tups : ∀ b xs, H b = some (.tup xs) → H' b = some (.tup xs)
  frzs : ∀ b o u, H b = some (.frz o u) → H' b = some (.frz o u)
  tbls : ∀ b ps, H b = some (.tbl ps) → ∃ more, H' b = some (.tbl (ps ++ more))
section
variable {fs fs' ex ex' : List Addr} {H H1 H2 : Hp} {h h1 h2 h' : Heap} {a x e : Addr} {o : HO}
theorem Un.any (u : Un fs ex H H1 h h1) {b : Addr} {ob : Obj} (q : h.get? b = some ob) (n : H b = none) (hx : b ∉ ex) : ∃ sl, h1.get? b = some { ob with slots := sl } := by
  by_cases hb : b ∈ fs
  · exact u.slot b ob q n hb hx
  · exact ⟨ob.slots, u.keep b ob q n hb hx⟩
theorem Un.trans (a : Un fs ex H H1 h h1) (b : Un fs ex H1 H2 h1 h2) : Un fs ex H H2 h h2 where
  keep := fun c ob q n hc hx => b.keep c ob (a.keep c ob q n hc hx) (a.free c ob q n hx) hc hx
  slot := fun c ob q n hc hx => by
    obtain ⟨sl, e1⟩ := a.slot c ob q n hc hx
    obtain ⟨sl', e2⟩ := b.slot c _ e1 (a.free c ob q n hx) hc hx
    exact ⟨sl', e2⟩
  free := fun c ob q n hx => by
    obtain ⟨o', e1⟩ := a.there c ob q hx
    exact b.free c o' e1 (a.free c ob q n hx) hx
  there := fun c ob q hx => by
    obtain ⟨o', e1⟩ := a.there c ob q hx
    exact b.there c o' e1 hx
  tups := fun c xs q => b.tups c xs (a.tups c xs q)
  frzs := fun c ob xs q => b.frzs c ob xs (a.frzs c ob xs q)
  tbls := fun c ps q => by
    obtain ⟨m1, e1⟩ := a.tbls c ps q
    obtain ⟨m2, e2⟩ := b.tbls c _ e1
    exact ⟨m1 ++ m2, by rw [e2, Array.append_assoc]⟩
theorem Un.kept (k : ∀ b u, h.get? b = some u → h'.get? b = some u) : Un fs ex H H h h' :=
  ⟨fun b ob q _ _ _ => k b ob q, fun b ob q _ _ _ => ⟨ob.slots, k b ob q⟩, fun _ _ _ n _ => n, fun b ob q _ => ⟨ob, k b ob q⟩, fun _ _ q => q, fun _ _ _ q => q, fun _ ps q => ⟨#[], by rw [q]; simp⟩⟩
theorem Un.refl : Un fs ex H H h h := Un.kept fun _ _ q => q
theorem Un.laid (k : ∀ b u, h.get? b = some u → h'.get? b = some u) (hp : h.objs.size ≤ a) (hn : H a = none) : Un fs ex H (upd H a o) h h' where
  keep := fun b u q _ _ _ => k b u q
  slot := fun b u q _ _ _ => ⟨u.slots, k b u q⟩
  free := fun b u q n _ => by rw [upd_ne (Nat.ne_of_lt (Nat.lt_of_lt_of_le (Heap.lt_size q) hp))]; exact n
  there := fun b u q _ => ⟨u, k b u q⟩
  tups := fun b xs q => by rw [upd_ne (ne_of_none q hn)]; exact q
  frzs := fun b u xs q => by rw [upd_ne (ne_of_none q hn)]; exact q
  tbls := fun b ps q => ⟨#[], by rw [upd_ne (ne_of_none q hn), q]; simp⟩
theorem Un.write (mu : Mut (H x)) (he : e = x ∨ H e = some (.own x)) (k : ∀ b u, b ≠ e → h.get? b = some u → h'.get? b = some u) (heo : ∃ u, h'.get? e = some u) : Un fs ex H (upd H x o) h h' := by
  have hx : ∀ b, H b = none → b ≠ x := fun b n z => by subst z; rw [n] at mu; exact mu
  have hb : ∀ b, H b = none → b ≠ e := fun b n z => by
    subst z
    rcases he with r | r
    · exact hx b n r
    · rw [n] at r; cases r
  have hm : ∀ b u, H b = some u → ¬ Mut (some u) → b ≠ x := fun b u q nm z => by subst z; rw [q] at mu; exact nm mu
  refine ⟨fun b u q n _ _ => k b u (hb b n) q, fun b u q n _ _ => ⟨u.slots, k b u (hb b n) q⟩, fun b u q n _ => by rw [upd_ne (hx b n)]; exact n, fun b u q _ => ?_,
    fun b xs q => by rw [upd_ne (hm b _ q fun z => z)]; exact q, fun b u xs q => by rw [upd_ne (hm b _ q fun z => z)]; exact q, fun b ps q => ⟨#[], by rw [upd_ne (hm b _ q fun z => z), q]; simp⟩⟩
  by_cases hbe : b = e
  · subst hbe; exact heo
  · exact ⟨u, k b u hbe q⟩
theorem Un.mono (u : Un fs ex H H1 h h1) (hs : ∀ b ∈ fs, b ∈ fs') (hx : ∀ b ∈ ex, b ∈ ex') : Un fs' ex' H H1 h h1 :=
  ⟨fun b ob q n hb he => u.keep b ob q n (fun z => hb (hs b z)) fun z => he (hx b z), fun _ _ q n _ he => u.any q n fun z => he (hx _ z), fun b ob q n he => u.free b ob q n fun z => he (hx b z), fun b ob q he => u.there b ob q fun z => he (hx b z), u.tups, u.frzs, u.tbls⟩
end

/-! ### the heap without what is tracked -/
def trk (h : Heap) (H : Hp) : List Addr := (List.range h.objs.size).filter fun a => (H a).isSome
def hidT (h : Heap) (H : Hp) : Heap := PySem.W.hideAll h (trk h H)
theorem hidT_size (h : Heap) (H : Hp) : (hidT h H).objs.size = h.objs.size := PySem.W.hideAll_size _ _
theorem hidT_get {h : Heap} {H : Hp} {b : Addr} {o : Obj} (e : h.get? b = some o) (n : H b = none) : (hidT h H).get? b = some o :=
  PySem.W.hideAll_get _ e fun hm => by
    have q : (H b).isSome = true := (List.mem_filter.mp hm).2
    rw [n] at q; simp at q
theorem of_hidT {h : Heap} {H : Hp} {b : Addr} {o : Obj} (e : (hidT h H).get? b = some o) : h.get? b = some o ∧ H b = none := by
  have e' : h.get? b = some o := PySem.W.of_hideAll (trk h H) e
  refine ⟨e', ?_⟩
  cases q : H b with
  | none => rfl
  | some x =>
    have hm : b ∈ trk h H := List.mem_filter.mpr ⟨List.mem_range.mpr (Heap.lt_size e'), by simp [q]⟩
    have z : (hidT h H).get? b = none := PySem.W.hideAll_none (trk h H) hm
    rw [z] at e; cases e

/-! ### OpenK's ledger, filled with every new object but one -/
def allNews (g h : Heap) (L : Addr) : List (Addr × Obj) := (List.range h.objs.size).filterMap fun a => if a = L ∨ (g.get? a).isSome = true then none else (h.get? a).map fun o => (a, o)
def rest (g h : Heap) (L d : Addr) : List (Addr × Obj) := (allNews g h L).filter fun p => decide (p.1 ≠ d)
end L2

namespace L2
open PySem PySem.Spec PyProof.Rows

/-- the module's facts, over the base: the heap at the law's entry without what is tracked there -/
structure Mod (K : PySem.W.Frag) (mg : Str → Option Value) (base : Heap) : Prop where
  kin : K.In base
  glob : base.Ns mainGlobals mg
  blt : ∃ mb, base.Ns builtinsNs mb ∧ ∀ x : Str, x ≠ "__name__" → mb x = bootBuiltins x
  nolimit : base.NoLimit

/-- the context: a def's body (or a comprehension's block) running. base: fixed through the whole law; s₀, H₀: the entry; outer: the frames whose slots others may change (a def's callers); stack: all frames that run;
   ex: iterators that were made ahead of the entry and are walked here (a comprehension's); fn: the names whose cells were made at the entry (a def: all; a comprehension's block: its own); calm: not within an except suite; pn: pins that every state bears; xe: what is wanted of an exception that leaves the code -/
structure Cx where
  prog : Program
  w : World
  K : PySem.W.Frag
  mg : Str → Option Value
  base : Heap
  A : Around
  N : List Str
  s_0 : Shared
  H_0 : Hp
  env : Env
  outer : List Env
  stack : List Env
  ex : List Addr
  fn : Str → Bool
  calm : Bool
  pn : List (Addr × Obj)
  xe : Value → Shared → Prop
/-- the callers' frames -/
def frs (l : List Env) : List Addr := l.filterMap (·.frame)
abbrev Cx.fs (X : Cx) : List Addr := frs X.outer

def Vis (sc : Scope) (x : Str) : Prop := sc.names.lookup x = some .local ∨ sc.names.lookup x = some .cell ∨ sc.names.lookup x = some .free
def Loc (sc : Scope) (x : Str) : Prop := sc.names.lookup x = some .local ∨ sc.names.lookup x = some .cell
def Look (env : Env) (h : Heap) (m : Str → Option Value) (x : Str) (u : Value) : Prop :=
  (env.kindOf x = some .local ∧ m x = some u) ∨ ((env.kindOf x = some .cell ∨ env.kindOf x = some .free) ∧ ∃ c, env.cells.lookup x = some c ∧ h.IsCell c (some u))

structure Cx.Ok (X : Cx) : Prop where
  mod : Mod X.K X.mg X.base
  kind : X.env.scope.kind = .function
  glob : X.env.globals = mainGlobals
  blt : X.env.builtins = builtinsNs
  above : X.s_0.heap.objs.size ≤ X.env.locals
  inj : ∀ x y c, X.env.cells.lookup x = some c → X.env.cells.lookup y = some c → x = y
  has : ∀ x, (X.env.kindOf x = some .cell ∨ X.env.kindOf x = some .free) → ∃ c, X.env.cells.lookup x = some c
  cab : ∀ x c, X.fn x = true → X.env.cells.lookup x = some c → X.s_0.heap.objs.size ≤ c
  hd : X.calm = true → X.A.handled = none
  frames : X.A.frames = some X.stack
  stk : X.stack = X.outer ∨ (X.stack = X.env :: X.outer ∧ X.env.frame = some X.env.locals)
  exf : ∀ b ∈ X.ex, b ≠ X.env.locals ∧ ∀ x c, X.env.cells.lookup x = some c → c ≠ b
  bs : ∀ b o, X.base.get? b = some o → X.s_0.heap.get? b = some o ∧ X.H_0 b = none
  bsz : X.base.objs.size ≤ X.s_0.heap.objs.size
  noex : ∀ b o, X.base.get? b = some o → b ∉ X.ex
  exfs : ∀ b ∈ X.ex, b ∉ X.fs
  funs : X.s_0.heap.FunFrames X.base X.outer
  frf : ∀ b ∈ X.fs, X.H_0 b = none

structure Inv (X : Cx) (pins : List (Addr × Obj)) (σ : List (Option V)) (H : Hp) (s : Shared) : Prop where
  ok : X.Ok
  os : s.os = X.s_0.os
  bare : AllBare s.gens
  base : Un X.fs X.ex X.H_0 H X.s_0.heap s.heap
  loc : ∃ m, s.heap.Ns X.env.locals m ∧ ∀ (i : Nat) (x : Str) (v : V), X.N[i]? = some x → σ[i]? = some (some v) → Vis X.env.scope x → ∃ u, RelV v u ∧ Look X.env s.heap m x u
  cell : ∀ x c, X.env.cells.lookup x = some c → ∃ v, s.heap.IsCell c v
  free : H X.env.locals = none
  freeC : ∀ x c, X.env.cells.lookup x = some c → H c = none
  pin : ∀ p ∈ X.pn ++ pins, s.heap.get? p.1 = some p.2 ∧ H p.1 = none ∧ p.1 ≠ X.env.locals ∧ p.1 ∉ X.fs ∧ ∀ v, p.2.data ≠ .cell v
  hok : HOk X.prog X.w H s.heap
  len : σ.length = X.N.length

section
variable {X : Cx} {pins : List (Addr × Obj)} {σ : List (Option V)} {H H' : Hp} {s : Shared} {h' : Heap}

theorem Cx.Ok.nofr (ok : X.Ok) {b : Addr} {o : Obj} (e : X.base.get? b = some o) : b ∉ X.fs := fun hb => by
  have := (ok.funs.mem hb).1
  rw [e] at this; cases this
theorem Inv.bs (I : Inv X pins σ H s) : ∀ b o, X.base.get? b = some o → s.heap.get? b = some o ∧ H b = none := fun b o e =>
  ⟨I.base.keep b o (I.ok.bs b o e).1 (I.ok.bs b o e).2 (I.ok.nofr e) (I.ok.noex b o e), I.base.free b o (I.ok.bs b o e).1 (I.ok.bs b o e).2 (I.ok.noex b o e)⟩
theorem Inv.bk (I : Inv X pins σ H s) : ∀ b o, X.base.get? b = some o → s.heap.get? b = some o := fun b o e => (I.bs b o e).1
theorem Inv.mod (I : Inv X pins σ H s) : Mod X.K X.mg X.base := I.ok.mod
theorem Inv.kIn (I : Inv X pins σ H s) : X.K.In s.heap := I.ok.mod.kin.keeps I.bk
theorem Inv.nolimit (I : Inv X pins σ H s) : s.heap.NoLimit := I.ok.mod.nolimit.keeps I.bk
theorem Inv.lt (I : Inv X pins σ H s) : X.env.locals < s.heap.objs.size := let ⟨_, hn, _⟩ := I.loc; hn.lt
theorem Inv.sz (I : Inv X pins σ H s) : X.s_0.heap.objs.size ≤ s.heap.objs.size := Nat.le_trans I.ok.above (Nat.le_of_lt I.lt)
theorem Inv.nofs (I : Inv X pins σ H s) {a : Addr} (h : s.heap.objs.size ≤ a) : a ∉ X.fs := fun hb => by
  obtain ⟨_, o, ho, _⟩ := I.ok.funs.mem hb
  exact absurd (Nat.lt_of_lt_of_le (Heap.lt_size ho) (Nat.le_trans I.sz h)) (Nat.lt_irrefl _)
theorem Inv.cne (I : Inv X pins σ H s) : ∀ x c, X.env.cells.lookup x = some c → c ≠ X.env.locals := fun x c e z => by
  obtain ⟨v, o, ho, hd⟩ := I.cell x c e
  obtain ⟨m, ⟨o', es, ep, ho', hd', _⟩, _⟩ := I.loc
  rw [z, ho'] at ho; cases ho; rw [hd'] at hd; cases hd
theorem Inv.funs (I : Inv X pins σ H s) : s.heap.FunFrames X.base X.outer := by
  have all : ∀ (l : List Env), (∀ b ∈ frs l, b ∈ X.fs) → X.s_0.heap.FunFrames X.base l → s.heap.FunFrames X.base l := by
    intro l
    induction l with
    | nil => intro _ _; trivial
    | cons env r ih =>
      intro hs hl
      obtain ⟨hk, ⟨L, o, hf, hn, ho, hd⟩, hr⟩ := hl
      have hL : L ∈ X.fs := hs L (by unfold frs; rw [List.filterMap_cons, hf]; exact List.mem_cons_self)
      obtain ⟨sl, e⟩ := I.base.slot L o ho (I.ok.frf L hL) hL fun z => I.ok.exfs L z hL
      exact ⟨hk, ⟨L, _, hf, hn, e, hd⟩, ih (fun b hb => hs b (by unfold frs; rw [List.filterMap_cons, hf]; exact List.mem_cons_of_mem _ hb)) hr⟩
  exact all X.outer (fun _ hb => hb) I.ok.funs

/-- the frames that run, for a call -/
theorem Inv.stack (I : Inv X pins σ H s) : s.heap.FunFrames X.base X.stack := by
  rcases I.ok.stk with e | ⟨e, hf⟩
  · rw [e]; exact I.funs
  · rw [e]
    obtain ⟨m, hn, _⟩ := I.loc
    refine .cons (by rw [I.ok.kind]; decide) hf hn ?_ I.funs
    exact Heap.get?_none_of_le (Nat.le_trans I.ok.bsz I.ok.above)
theorem Inv.stkSub (I : Inv X pins σ H s) : ∀ b ∈ frs X.stack, b ∈ X.env.locals :: X.fs := fun b hb => by
  rcases I.ok.stk with e | ⟨e, hf⟩
  · rw [e] at hb; exact List.mem_cons_of_mem _ hb
  · rw [e] at hb
    unfold frs at hb
    rw [List.filterMap_cons, hf] at hb
    exact hb
theorem Inv.stkFree (I : Inv X pins σ H s) : ∀ b ∈ frs X.stack, H b = none := fun b hb => by
  rcases List.mem_cons.mp (I.stkSub b hb) with e | hb
  · rw [e]; exact I.free
  · obtain ⟨_, o, ho, _⟩ := I.ok.funs.mem hb
    exact I.base.free b o ho (I.ok.frf b hb) fun z => I.ok.exfs b z hb

/-- THE STEP: the untracked objects but the frame and the records at ch are kept (the callers' frames up to slots), the frame's map is kept, the new abstract heap is held -/
theorem Inv.step {g' : Array GenState} {t' : Nat} {d' : Drawn} {ch : List Addr} (I : Inv X pins σ H s)
    (hch : ∀ b ∈ ch, (b ∈ X.ex ∨ X.s_0.heap.objs.size ≤ b) ∧ b ≠ X.env.locals ∧ (∀ x c, X.env.cells.lookup x = some c → c ≠ b) ∧ ∀ p ∈ X.pn ++ pins, p.1 ≠ b)
    (keep : ∀ b o, b ≠ X.env.locals → b ∉ X.fs → b ∉ ch → s.heap.get? b = some o → H b = none → h'.get? b = some o)
    (slot : ∀ b o, b ≠ X.env.locals → b ∈ X.fs → b ∉ ch → s.heap.get? b = some o → H b = none → ∃ sl, h'.get? b = some { o with slots := sl }) (free : ∀ b o, b ∉ ch → s.heap.get? b = some o → H b = none → H' b = none)
    (there : ∀ b o, b ∉ ch → s.heap.get? b = some o → ∃ o', h'.get? b = some o')
    (tups : ∀ b xs, H b = some (.tup xs) → H' b = some (.tup xs)) (frzs : ∀ b o u, H b = some (.frz o u) → H' b = some (.frz o u)) (tbls : ∀ b ps, H b = some (.tbl ps) → ∃ more, H' b = some (.tbl (ps ++ more)))
    (ns : ∀ m, s.heap.Ns X.env.locals m → h'.Ns X.env.locals m) (hok : HOk X.prog X.w H' h') (hg : AllBare g') :
    Inv X pins σ H' { s with heap := h', gens := g', drawn := d', toks := t' } := by
  have neL : ∀ b o, X.s_0.heap.get? b = some o → b ≠ X.env.locals := fun b o e => Nat.ne_of_lt (Nat.lt_of_lt_of_le (Heap.lt_size e) I.ok.above)
  have neC : ∀ b o, X.s_0.heap.get? b = some o → b ∉ X.ex → b ∉ ch := fun b o e hx hb => by
    rcases (hch b hb).1 with z | z
    · exact hx z
    · exact absurd (Nat.lt_of_lt_of_le (Heap.lt_size e) z) (Nat.lt_irrefl _)
  have cellK : ∀ x c, X.env.cells.lookup x = some c → ∀ v, s.heap.IsCell c v → h'.IsCell c v := fun x c e v ⟨o, ho, hd⟩ => by
    have nch : c ∉ ch := fun z => (hch c z).2.2.1 x c e rfl
    by_cases hc : c ∈ X.fs
    · obtain ⟨sl, q⟩ := slot c o (I.cne x c e) hc nch ho (I.freeC x c e)
      exact ⟨_, q, hd⟩
    · exact ⟨o, keep c o (I.cne x c e) hc nch ho (I.freeC x c e), hd⟩
  refine ⟨I.ok, I.os, hg, ⟨fun b o e n hb hx => ?_, fun b o e n hb hx => ?_, fun b o e n hx => ?_, fun b o e hx => ?_, fun b xs e => tups b xs (I.base.tups b xs e), fun b o xs e => frzs b o xs (I.base.frzs b o xs e), fun b ps e => ?_⟩, ?_, fun x c e => ?_, ?_, fun x c e => ?_, fun p hp => ?_, hok, I.len⟩
  · exact keep b o (neL b o e) hb (neC b o e hx) (I.base.keep b o e n hb hx) (I.base.free b o e n hx)
  · obtain ⟨sl, e1⟩ := I.base.slot b o e n hb hx
    obtain ⟨sl', e2⟩ := slot b _ (neL b o e) hb (neC b o e hx) e1 (I.base.free b o e n hx)
    exact ⟨sl', e2⟩
  · obtain ⟨o', e1⟩ := I.base.there b o e hx
    exact free b o' (neC b o e hx) e1 (I.base.free b o e n hx)
  · obtain ⟨o', e1⟩ := I.base.there b o e hx
    exact there b o' (neC b o e hx) e1
  · obtain ⟨m1, e1⟩ := I.base.tbls b ps e
    obtain ⟨m2, e2⟩ := tbls b _ e1
    exact ⟨m1 ++ m2, by rw [e2, Array.append_assoc]⟩
  · obtain ⟨m, hn, hl⟩ := I.loc
    refine ⟨m, ns m hn, fun i x v e1 e2 e3 => ?_⟩
    obtain ⟨u, r, l⟩ := hl i x v e1 e2 e3
    refine ⟨u, r, ?_⟩
    rcases l with l | ⟨k, c, e, z⟩
    · exact .inl l
    · exact .inr ⟨k, c, e, cellK x c e _ z⟩
  · obtain ⟨v, z⟩ := I.cell x c e
    exact ⟨v, cellK x c e v z⟩
  · obtain ⟨m, ⟨o, _, _, ho, _⟩, _⟩ := I.loc
    exact free _ o (fun z => (hch _ z).2.1 rfl) ho I.free
  · obtain ⟨v, o, ho, hd⟩ := I.cell x c e
    exact free c o (fun z => (hch c z).2.2.1 x c e rfl) ho (I.freeC x c e)
  · obtain ⟨e, n, ne, nf, d⟩ := I.pin p hp
    have nch : p.1 ∉ ch := fun z => (hch p.1 z).2.2.2 p hp rfl
    exact ⟨keep p.1 p.2 ne nf nch e n, free p.1 p.2 nch e n, ne, nf, d⟩
/-- .. where the frame's own object is kept too -/
theorem Inv.un {t' : Nat} (I : Inv X pins σ H s) (u : Un X.fs [] H H' s.heap h') (hok : HOk X.prog X.w H' h') : Inv X pins σ H' { s with heap := h', toks := t' } := by
  obtain ⟨m, ⟨o, es, ep, ho, r⟩, _⟩ := id I.loc
  obtain ⟨sl, hL⟩ := u.any ho I.free (by simp)
  exact I.step (g' := s.gens) (d' := s.drawn) (ch := []) (fun _ z => nomatch z) (fun b o _ hb _ e n => u.keep b o e n hb (by simp)) (fun b o _ hb _ e n => u.slot b o e n hb (by simp)) (fun b o _ e n => u.free b o e n (by simp)) (fun b o _ e => u.there b o e (by simp)) u.tups u.frzs u.tbls (fun m' hm => by
    obtain ⟨o', es', ep', ho', r'⟩ := hm
    rw [ho] at ho'; cases ho'
    exact ⟨_, es', ep', hL, r'⟩) hok I.bare
/-- behind a call (or a comprehension's block): the slots of this frame may have changed too, the records at ch may have turned -/
theorem Inv.call {g' : Array GenState} {t' : Nat} {d' : Drawn} {ch : List Addr} (I : Inv X pins σ H s) (u : Un (frs X.stack) ch H H' s.heap h') (hok : HOk X.prog X.w H' h') (hg : AllBare g')
    (hch : ∀ b ∈ ch, (b ∈ X.ex ∨ X.s_0.heap.objs.size ≤ b) ∧ b ≠ X.env.locals ∧ (∀ x c, X.env.cells.lookup x = some c → c ≠ b) ∧ ∀ p ∈ X.pn ++ pins, p.1 ≠ b) :
    Inv X pins σ H' { s with heap := h', gens := g', drawn := d', toks := t' } := by
  obtain ⟨m, ⟨o, es, ep, ho, r⟩, _⟩ := id I.loc
  obtain ⟨sl, hL⟩ := u.any ho I.free fun z => (hch _ z).2.1 rfl
  exact I.step (ch := ch) hch (fun b o hL hb hc e n => u.keep b o e n (fun z => (List.mem_cons.mp (I.stkSub b z)).elim hL hb) hc) (fun b o _ _ hc e n => u.any e n hc) (fun b o hc e n => u.free b o e n hc) (fun b o hc e => u.there b o e hc) u.tups u.frzs u.tbls (fun m' hm => by
    obtain ⟨o', es', ep', ho', r'⟩ := hm
    rw [ho] at ho'; cases ho'
    exact ⟨_, es', ep', hL, r'⟩) hok hg
/-- an untracked record of ours (an iterator) has turned -/
theorem Inv.turned {t' : Nat} {it : Addr} (I : Inv X pins σ H s) (k : ∀ b o, b ≠ it → s.heap.get? b = some o → h'.get? b = some o) (hn : H it = none) (hL : it ≠ X.env.locals)
    (h1 : it ∈ X.ex ∨ X.s_0.heap.objs.size ≤ it) (h2 : ∀ x c, X.env.cells.lookup x = some c → c ≠ it) (h3 : ∀ p ∈ X.pn ++ pins, p.1 ≠ it) : Inv X pins σ H { s with heap := h', toks := t' } := by
  have nit : ∀ b u, H b = some u → b ≠ it := fun b u e z => by rw [z, hn] at e; cases e
  refine I.step (g' := s.gens) (d' := s.drawn) (ch := [it]) (fun b hb => ?_) (fun b o _ _ hc e _ => k b o (fun z => hc (by simp [z])) e) (fun b o _ _ hc e _ => ⟨o.slots, k b o (fun z => hc (by simp [z])) e⟩) (fun _ _ _ _ n => n)
    (fun b o hc e => ⟨o, k b o (fun z => hc (by simp [z])) e⟩) (fun _ _ e => e) (fun _ _ _ e => e) (fun b ps e => ⟨#[], by rw [e]; simp⟩) (fun m hm => ?_) (fun b u e => ?_) I.bare
  · have e : b = it := by simpa using hb
    subst e
    exact ⟨h1, hL, h2, h3⟩
  · obtain ⟨o, es, ep, ho, r⟩ := hm
    exact ⟨o, es, ep, k _ o (Ne.symm hL) ho, r⟩
  · refine (I.hok b u e).stay (fun c v hc q => k c v ?_ q) (fun _ q => q) fun _ _ q => q
    rcases hc with z | z
    · rw [z]; exact nit b u e
    · exact nit c _ z
theorem Inv.tok (I : Inv X pins σ H s) (t : Nat) : Inv X pins σ H { s with toks := t } := I.un (h' := s.heap) (t' := t) Un.refl I.hok
/-- all objects kept -/
theorem Inv.kept {t' : Nat} (I : Inv X pins σ H s) (k : ∀ b u, s.heap.get? b = some u → h'.get? b = some u) : Inv X pins σ H { s with heap := h', toks := t' } := I.un (Un.kept k) (I.hok.kept k)
/-- a new object laid and tracked -/
theorem Inv.laid {a : Addr} {o : HO} {t' : Nat} (I : Inv X pins σ H s) (k : ∀ b u, s.heap.get? b = some u → h'.get? b = some u) (hp : s.heap.objs.size ≤ a) (new : ObjOk X.prog X.w (upd H a o) h' a o) :
    Inv X pins σ (upd H a o) { s with heap := h', toks := t' } := I.un (Un.laid k hp (I.hok.fresh hp)) (I.hok.laid k hp new)
/-- an object written -/
theorem Inv.write {x e : Addr} {o : HO} {t' : Nat} (I : Inv X pins σ H s) (mu : Mut (H x)) (he : e = x ∨ H e = some (.own x)) (k : ∀ b u, b ≠ e → s.heap.get? b = some u → h'.get? b = some u) (heo : ∃ u, h'.get? e = some u)
    (new : ObjOk X.prog X.w (upd H x o) h' x o) : Inv X pins σ (upd H x o) { s with heap := h', toks := t' } := I.un (Un.write mu he k heo) (I.hok.write mu he k heo new)
/-- forgetting slots, pins -/
theorem Inv.weak {σ' : List (Option V)} (I : Inv X pins σ H s) (hl : σ'.length = σ.length) (w : ∀ (i : Nat) v, σ'[i]? = some (some v) → σ[i]? = some (some v)) : Inv X pins σ' H s :=
  ⟨I.ok, I.os, I.bare, I.base, let ⟨m, hn, hl'⟩ := I.loc; ⟨m, hn, fun i x v e1 e2 e3 => hl' i x v e1 (w i v e2) e3⟩, I.cell, I.free, I.freeC, I.pin, I.hok, hl.trans I.len⟩
theorem Inv.pins_of {pins' : List (Addr × Obj)} (I : Inv X pins σ H s) (h : ∀ p ∈ pins', s.heap.get? p.1 = some p.2 ∧ H p.1 = none ∧ p.1 ≠ X.env.locals ∧ p.1 ∉ X.fs ∧ ∀ v, p.2.data ≠ .cell v) : Inv X pins' σ H s :=
  ⟨I.ok, I.os, I.bare, I.base, I.loc, I.cell, I.free, I.freeC, fun p hp => (List.mem_append.mp hp).elim (fun z => I.pin p (List.mem_append_left _ z)) (h p), I.hok, I.len⟩

theorem nodup_ix {N : List Str} (hN : N.Nodup) {i j : Nat} {x : Str} (a : N[i]? = some x) (b : N[j]? = some x) : i = j := by
  obtain ⟨h1, e1⟩ := List.getElem?_eq_some_iff.mp a
  obtain ⟨h2, e2⟩ := List.getElem?_eq_some_iff.mp b
  exact (List.getElem_inj hN).mp (e1.trans e2.symm)

/-- a name is stored; what changed -/
theorem store_ok2 {M : Model} {A : Around} {E : Value → Shared → Prop} {i : Nat} {x : Str} {v : V} {u : Value} {Q : Unit → Shared → Prop} (I : Inv X pins σ H s) (hN : X.N.Nodup) (hi : X.N[i]? = some x) (hx : Loc X.env.scope x) (r : RelV v u)
    (h : ∀ s', Inv X pins (σ.set i (some v)) H s' → (∃ a, Heap.SameBut a s.heap s'.heap ∧ (a = X.env.locals ∨ X.env.cells.lookup x = some a)) → Q () s') (hf : X.fn x = true ∨ X.env.scope.names.lookup x = some .local := by first | exact .inl rfl | exact .inr rfl | assumption) : wpAny M A (storeName X.env x u) Q E s := by
  obtain ⟨m, hn, hl⟩ := id I.loc
  have hcls : (X.env.scope.kind == .class || (X.env.scope.kind == .module && X.env.locals != X.env.globals)) = false := by rw [I.ok.kind]; rfl
  have hiσ : i < σ.length := by rw [I.len]; exact (List.getElem?_eq_some_iff.mp hi).1
  have cne := I.cne
  have tracked : ∀ {a : Addr} {h' : Heap}, (∃ o, s.heap.get? a = some o ∧ H a = none) → Heap.SameBut a s.heap h' → HOk X.prog X.w H h' := fun {a h'} ha hs b ob e => by
    obtain ⟨_, _, hfree⟩ := ha
    refine (I.hok b ob e).stay (fun c w' hc q => (hs.2 c ?_).trans q) (fun _ q => q) fun _ _ q => q
    rintro rfl
    rcases hc with rfl | hc
    · rw [hfree] at e; cases e
    · rw [hfree] at hc; cases hc
  rcases hx with hk | hk
  · refine wpAny_storeName_local hk hn (fun h' hn' hs => ?_) hcls
    obtain ⟨oL, _, _, hoL, _⟩ := id hn
    refine h _ ⟨I.ok, I.os, I.bare, ⟨fun b o e n hb hx => ?_, fun b o e n hb hx => ?_, I.base.free, fun b o e hx => ?_, I.base.tups, I.base.frzs, I.base.tbls⟩, ⟨_, hn', fun j y v' e1 e2 e3 => ?_⟩, fun y c e => ?_, I.free, I.freeC, fun p hp => ?_, tracked ⟨oL, hoL, I.free⟩ hs, by simpa using I.len⟩ ⟨_, hs, .inl rfl⟩
    · exact (hs.2 b (Nat.ne_of_lt (Nat.lt_of_lt_of_le (Heap.lt_size e) I.ok.above))).trans (I.base.keep b o e n hb hx)
    · obtain ⟨sl, e1⟩ := I.base.slot b o e n hb hx
      exact ⟨sl, (hs.2 b (Nat.ne_of_lt (Nat.lt_of_lt_of_le (Heap.lt_size e) I.ok.above))).trans e1⟩
    · obtain ⟨o', e1⟩ := I.base.there b o e hx
      exact ⟨o', (hs.2 b (Nat.ne_of_lt (Nat.lt_of_lt_of_le (Heap.lt_size e) I.ok.above))).trans e1⟩
    · by_cases hj : j = i
      · subst hj
        rw [hi] at e1; cases e1
        rw [List.getElem?_set_self hiσ] at e2
        cases e2
        exact ⟨u, r, .inl ⟨hk, by simp⟩⟩
      · rw [List.getElem?_set_ne (Ne.symm hj)] at e2
        obtain ⟨u', r', q⟩ := hl j y v' e1 e2 e3
        refine ⟨u', r', ?_⟩
        rcases q with ⟨k, e⟩ | ⟨k, c, e, z⟩
        · refine .inl ⟨k, ?_⟩
          have : y ≠ x := fun e => hj (nodup_ix hN e1 (e ▸ hi))
          simp [this, e]
        · exact .inr ⟨k, c, e, z.sameBut hs (cne y c e)⟩
    · obtain ⟨w', z⟩ := I.cell y c e
      exact ⟨w', z.sameBut hs (cne y c e)⟩
    · obtain ⟨e, n, ne, nf, d⟩ := I.pin p hp
      exact ⟨(hs.2 p.1 ne).trans e, n, ne, nf, d⟩
  · have hfn : X.fn x = true := by
      rcases hf with z | z
      · exact z
      · rw [z] at hk; cases hk
    obtain ⟨c, hc⟩ := I.ok.has x (.inl hk)
    obtain ⟨w', z⟩ := I.cell x c hc
    refine wpAny_storeName_cell I.ok.kind hk hc z (fun h' hc' hs => ?_)
    obtain ⟨oc, hoc, hocd⟩ := id z
    refine h { s with heap := h' } ⟨I.ok, I.os, I.bare, ⟨fun b o e n hb hx => ?_, fun b o e n hb hx => ?_, I.base.free, fun b o e hx => ?_, I.base.tups, I.base.frzs, I.base.tbls⟩, ⟨m, hn.sameBut hs (Ne.symm (cne x c hc)), fun j y v' e1 e2 e3 => ?_⟩, fun y c' e => ?_, I.free, I.freeC, fun p hp => ?_, tracked ⟨oc, hoc, I.freeC x c hc⟩ hs, by simpa using I.len⟩ ⟨c, hs, .inr hc⟩
    · exact (hs.2 b (Nat.ne_of_lt (Nat.lt_of_lt_of_le (Heap.lt_size e) (I.ok.cab x c hfn hc)))).trans (I.base.keep b o e n hb hx)
    · obtain ⟨sl, e1⟩ := I.base.slot b o e n hb hx
      exact ⟨sl, (hs.2 b (Nat.ne_of_lt (Nat.lt_of_lt_of_le (Heap.lt_size e) (I.ok.cab x c hfn hc)))).trans e1⟩
    · obtain ⟨o', e1⟩ := I.base.there b o e hx
      exact ⟨o', (hs.2 b (Nat.ne_of_lt (Nat.lt_of_lt_of_le (Heap.lt_size e) (I.ok.cab x c hfn hc)))).trans e1⟩
    · by_cases hj : j = i
      · subst hj
        rw [hi] at e1; cases e1
        rw [List.getElem?_set_self hiσ] at e2
        cases e2
        exact ⟨u, r, .inr ⟨.inl hk, c, hc, hc'⟩⟩
      · rw [List.getElem?_set_ne (Ne.symm hj)] at e2
        obtain ⟨u', r', q⟩ := hl j y v' e1 e2 e3
        refine ⟨u', r', ?_⟩
        rcases q with q | ⟨k, c', e, z'⟩
        · exact .inl q
        · refine .inr ⟨k, c', e, z'.sameBut hs ?_⟩
          rintro rfl
          exact hj (nodup_ix hN e1 (I.ok.inj _ _ _ e hc ▸ hi))
    · by_cases hcc : c' = c
      · subst hcc; exact ⟨_, hc'⟩
      · obtain ⟨w2, z2⟩ := I.cell y c' e
        exact ⟨w2, z2.sameBut hs hcc⟩
    · obtain ⟨e, n, ne, nf, d⟩ := I.pin p hp
      refine ⟨(hs.2 p.1 ?_).trans e, n, ne, nf, d⟩
      intro q
      rw [q, hoc] at e
      have q' : oc = p.2 := Option.some.inj e
      exact d w' (by rw [← q']; exact hocd)
theorem store_ok {M : Model} {A : Around} {E : Value → Shared → Prop} {i : Nat} {x : Str} {v : V} {u : Value} {Q : Unit → Shared → Prop} (I : Inv X pins σ H s) (hN : X.N.Nodup) (hi : X.N[i]? = some x) (hx : Loc X.env.scope x) (r : RelV v u)
    (h : ∀ s', Inv X pins (σ.set i (some v)) H s' → Q () s') (hf : X.fn x = true ∨ X.env.scope.names.lookup x = some .local := by first | exact .inl rfl | exact .inr rfl | assumption) : wpAny M A (storeName X.env x u) Q E s :=
  store_ok2 I hN hi hx r (fun s' I' _ => h s' I') hf
/-- behind a call or a block, the state as it is -/
theorem Inv.call' {s' : Shared} {ch : List Addr} (I : Inv X pins σ H s) (ho : s'.os = s.os) (u : Un (frs X.stack) ch H H' s.heap s'.heap) (hok : HOk X.prog X.w H' s'.heap) (hg : AllBare s'.gens)
    (hch : ∀ b ∈ ch, (b ∈ X.ex ∨ X.s_0.heap.objs.size ≤ b) ∧ b ≠ X.env.locals ∧ (∀ x c, X.env.cells.lookup x = some c → c ≠ b) ∧ ∀ p ∈ X.pn ++ pins, p.1 ≠ b) : Inv X pins σ H' s' := by
  obtain ⟨h', g', d', t', o'⟩ := s'
  have e : o' = s.os := ho
  subst e
  exact I.call (g' := g') (t' := t') (d' := d') u hok hg hch
end

/-! ### the judgements -/
/-- an exception: its class, its own dict's address (where it has one), the abstract heap behind it -/
abbrev XK := Value → Option Addr → Hp → Prop
abbrev St := List (Option V)
abbrev VK := V → Hp → Prop
/-- an expression's reading; a test's; an argument list's -/
abbrev TE := St → Hp → VK → Prop
abbrev TT := St → Hp → (Bool → Hp → Prop) → Prop
abbrev TA := St → Hp → (List V → Hp → Prop) → Prop
/-- what is wanted behind a statement -/
structure Ends where
  nx : St → Hp → Prop
  rt : VK
  bk : St → Hp → Prop := fun _ _ => False
  ct : St → Hp → Prop := fun _ _ => False
abbrev TS := Ends → St → Hp → Prop

def EP (X : Cx) (pins : List (Addr × Obj)) (σ : St) (Q : VK) (u : Value) (s' : Shared) : Prop := ∃ v H', Inv X pins σ H' s' ∧ RelV v u ∧ Q v H'
def TP (X : Cx) (pins : List (Addr × Obj)) (σ : St) (Q : Bool → Hp → Prop) (b : Bool) (s' : Shared) : Prop := ∃ H', Inv X pins σ H' s' ∧ Q b H'
def AP (X : Cx) (pins : List (Addr × Obj)) (σ : St) (Q : List V → Hp → Prop) (us : List Value) (s' : Shared) : Prop := ∃ vs H', Inv X pins σ H' s' ∧ Vals vs us ∧ Q vs H'
def SP (X : Cx) (pins : List (Addr × Obj)) (D : Ends) (f : Flow) (s' : Shared) : Prop :=
  match f with
  | .next => ∃ σ' H', Inv X pins σ' H' s' ∧ D.nx σ' H'
  | .brk => ∃ σ' H', Inv X pins σ' H' s' ∧ D.bk σ' H'
  | .cont => ∃ σ' H', Inv X pins σ' H' s' ∧ D.ct σ' H'
  | .ret u => ∃ v σ' H', Inv X pins σ' H' s' ∧ RelV v u ∧ D.rt v H'

def PE (X : Cx) (e : Expr) (t : TE) : Prop :=
  ∀ (pins : List (Addr × Obj)) (s : Shared) (σ : St) (H : Hp) (Q : VK), Inv X pins σ H s → t σ H Q → wpAny (model X.prog X.w) X.A (eval e X.env) (EP X pins σ Q) X.xe s
def PT (X : Cx) (e : Expr) (t : TT) : Prop :=
  ∀ (pins : List (Addr × Obj)) (s : Shared) (σ : St) (H : Hp) (Q : Bool → Hp → Prop), Inv X pins σ H s → t σ H Q → wpAny (model X.prog X.w) X.A (isTrue e X.env (eval e X.env)) (TP X pins σ Q) X.xe s
/-- a test whatever its 'whole' is (and, or) -/
def PW (X : Cx) (e : Expr) (t : TT) : Prop :=
  ∀ (whole : Sem Value) (pins : List (Addr × Obj)) (s : Shared) (σ : St) (H : Hp) (Q : Bool → Hp → Prop), Inv X pins σ H s → t σ H Q → wpAny (model X.prog X.w) X.A (isTrue e X.env whole) (TP X pins σ Q) X.xe s
theorem PW.pt {X : Cx} {e : Expr} {t : TT} (h : PW X e t) : PT X e t := h _
/-- an argument list (no star), from the left -/
def PA (X : Cx) (es : List Expr) (t : TA) : Prop :=
  ∀ (pos : Pos) (pins : List (Addr × Obj)) (s : Shared) (σ : St) (H : Hp) (Q : List V → Hp → Prop), Inv X pins σ H s → t σ H Q → wpAny (model X.prog X.w) X.A (spliced (backTo pos (starEach es X.env))) (AP X pins σ Q) X.xe s
def PS (X : Cx) (st : Stmt) (t : TS) : Prop :=
  ∀ (pins : List (Addr × Obj)) (s : Shared) (σ : St) (H : Hp) (D : Ends), Inv X pins σ H s → t D σ H → wpAny (model X.prog X.w) X.A (exec st X.env) (SP X pins D) X.xe s
def PSs (X : Cx) (st : List Stmt) (t : TS) : Prop :=
  ∀ (pins : List (Addr × Obj)) (s : Shared) (σ : St) (H : Hp) (D : Ends), Inv X pins σ H s → t D σ H → wpAny (model X.prog X.w) X.A (execs st X.env) (SP X pins D) X.xe s
/-- weaken the end -/
theorem thn {α : Type} {t : Sem α} {Q Q' : α → Shared → Prop} {M : Model} {A : Around} {E : Value → Shared → Prop} {s : Shared} (h : wpAny M A t Q E s) (hQ : ∀ a s, Q a s → Q' a s) : wpAny M A t Q' E s := wpAny_mono h hQ fun _ _ x => x
end L2

namespace L2
open PySem PySem.Spec PyProof.Rows
section
variable {X : Cx}


/-! ### names and constants -/
def tVar (i : Nat) : TE := fun σ H Q => ∃ v, σ[i]? = some (some v) ∧ Q v H
def tC (v : V) : TE := fun _ H Q => Q v H
theorem pe_var {i : Nat} {x : Str} {pos : Pos} (hN : X.N[i]? = some x) (hv : Vis X.env.scope x) (hd : (x == ("__debug__" : Str)) = false := by decide) (hcd : (x == ("__classdict__" : Str)) = false := by decide) : PE X (.Name x pos) (tVar i) := by
  intro pins s σ H Q I h
  obtain ⟨v, e, h⟩ := h
  obtain ⟨m, hn, hl⟩ := I.loc
  obtain ⟨u, r, l⟩ := hl i x v hN e hv
  have fin : EP X pins σ Q u s := ⟨v, H, I, r, h⟩
  rcases l with ⟨hk, hm⟩ | ⟨hk, c, hc, hcell⟩
  · exact wpAny_Name (wpAny_loadName_local I.ok.kind hk hn hm fin) hd
  · rcases hk with hk | hk
    · exact wpAny_Name (wpAny_loadName_cell I.ok.kind hk hc hcell fin) hd
    · exact wpAny_Name (wpAny_loadName_free I.ok.kind hk hc hcell fin hcd) hd
theorem pe_int {i j pos} : PE X (.Constant (.int i) j pos) (tC (.int i)) := fun _ _ _ H _ I h => wpAny_Constant_int ⟨.int i, H, I.tok _, ⟨_, rfl⟩, h⟩
theorem pe_bl {b j pos} : PE X (.Constant (.bool b) j pos) (tC (.bl b)) := fun _ _ _ H _ I h => Constant_bool ⟨.bl b, H, I, rfl, h⟩

/-- a global name of the def -/
def Gl (X : Cx) (x : Str) : Prop := X.env.kindOf x = some .globalImplicit
theorem ld_glob {E : Value → Shared → Prop} {pins : List (Addr × Obj)} {s : Shared} {σ : St} {H : Hp} {x : Str} {u : Value} {pos : Pos} {Q : Value → Shared → Prop} (I : Inv X pins σ H s) (hg : Gl X x) (hm : X.mg x = some u) (h : Q u s)
    (hd : (x == ("__debug__" : Str)) = false := by decide) : wpAny (model X.prog X.w) X.A (eval (.Name x pos) X.env) Q E s :=
  Calls.Name_function_global I.ok.kind hg (Calls.loadGlobal_global (by rw [I.ok.glob]; exact I.mod.glob.keeps I.bk) hm h) hd
theorem ld_blt {E : Value → Shared → Prop} {pins : List (Addr × Obj)} {s : Shared} {σ : St} {H : Hp} {x : Str} {u : Value} {pos : Pos} {Q : Value → Shared → Prop} (I : Inv X pins σ H s) (hg : Gl X x) (hm : X.mg x = none) (hv : bootBuiltins x = some u) (h : Q u s)
    (hn : x ≠ "__name__" := by decide) (hd : (x == ("__debug__" : Str)) = false := by decide) : wpAny (model X.prog X.w) X.A (eval (.Name x pos) X.env) Q E s := by
  obtain ⟨mb, h1, h2⟩ := I.mod.blt
  exact Calls.Name_function_global I.ok.kind hg (Calls.loadGlobal_builtin (by rw [I.ok.glob]; exact I.mod.glob.keeps I.bk) hm (by rw [I.ok.blt]; exact h1.keeps I.bk) ((h2 x hn).trans hv) h) hd
/-- a module's constant, a class, a function, as a value -/
theorem pe_glob {x : Str} {v : V} {u : Value} {pos : Pos} (hg : Gl X x) (hm : X.mg x = some u) (r : RelV v u) (hd : (x == ("__debug__" : Str)) = false := by decide) : PE X (.Name x pos) (tC v) :=
  fun _ _ _ H _ I h => ld_glob I hg hm ⟨v, H, I, r, h⟩ hd

/-! ### arithmetic -/
variable {a b : Expr} {ta tb : TE} {pos : Pos}

/-! ### comparisons -/
/-- a comparison as a value, as a test -/
def tB (t : TE) : TT := fun σ H Q => t σ H fun x H1 => ∃ c, x = .bl c ∧ Q c H1
/-- an expression whose value is a bool, as a test -/
theorem pt_val {e : Expr} {t : TE} (h : PE X e t) (he : ∀ whole, isTrue e X.env whole = (do let v ← whole; standAt e.pos; holding [v] (truthy v)) := by intro _; rfl) : PT X e (tB t) := by
  intro pins s σ H Q I hw
  refine isTrue_plain (thn (h pins s σ H _ I hw) fun v s1 ⟨x, H1, I1, r1, q1⟩ => ?_) (he _)
  obtain ⟨d, rfl, q⟩ := q1
  cases r1
  exact wpAny_truthy_bool ⟨H1, I1, q⟩

/-! ### and, or, not -/
variable {tA tB' : TT} {rest : List Expr}
def tAnd (t u : TT) : TT := fun σ H Q => t σ H fun c H1 => if c = true then u σ H1 Q else Q false H1
def tOr (t u : TT) : TT := fun σ H Q => t σ H fun c H1 => if c = true then Q true H1 else u σ H1 Q
def tNot (t : TT) : TT := fun σ H Q => t σ H fun c H1 => Q (!c) H1
theorem pw_and1 (ha : PT X a tA) : PW X (.BoolOp .And [a] pos) tA := by
  intro wh pins s σ H Q I h
  refine isTrue_and (thn (ha pins s σ H Q I h) fun c s1 e => ?_)
  cases c with
  | true => exact isTrue_and_nil e
  | false => exact e
theorem pw_or1 (ha : PT X a tA) : PW X (.BoolOp .Or [a] pos) tA := by
  intro wh pins s σ H Q I h
  refine isTrue_or (thn (ha pins s σ H Q I h) fun c s1 e => ?_)
  cases c with
  | false => exact isTrue_or_nil e
  | true => exact e
theorem pw_and (ha : PT X a tA) (hb : PW X (.BoolOp .And (b :: rest) pos) tB') : PW X (.BoolOp .And (a :: b :: rest) pos) (tAnd tA tB') := by
  intro wh pins s σ H Q I h
  refine isTrue_and (thn (ha pins s σ H _ I h) fun c s1 ⟨H1, I1, q1⟩ => ?_)
  cases c with
  | true => exact hb wh pins s1 σ H1 Q I1 q1
  | false => exact ⟨H1, I1, q1⟩
theorem pw_or (ha : PT X a tA) (hb : PW X (.BoolOp .Or (b :: rest) pos) tB') : PW X (.BoolOp .Or (a :: b :: rest) pos) (tOr tA tB') := by
  intro wh pins s σ H Q I h
  refine isTrue_or (thn (ha pins s σ H _ I h) fun c s1 ⟨H1, I1, q1⟩ => ?_)
  cases c with
  | true => exact ⟨H1, I1, q1⟩
  | false => exact hb wh pins s1 σ H1 Q I1 q1
theorem pt_not (ha : PT X a tA) : PT X (.UnaryOp .Not a pos) (tNot tA) := by
  intro pins s σ H Q I h
  exact isTrue_not (ha pins s σ H (fun c H1 => Q (!c) H1) I h)
/-- .. as values (bools) -/
def tAndV (ta tb : TE) : TE := fun σ H Q => ta σ H fun x H1 => ∃ c, x = .bl c ∧ if c = true then tb σ H1 Q else Q (.bl false) H1
theorem pe_one {op} {t : TE} (h : PE X a t) : PE X (.BoolOp op [a] pos) t := fun pins s σ H Q I hw => BoolOp_one (h pins s σ H Q I hw)
theorem pe_and (ha : PE X a ta) (hb : PE X (.BoolOp .And (b :: rest) pos) tb) : PE X (.BoolOp .And (a :: b :: rest) pos) (tAndV ta tb) := by
  intro pins s σ H Q I h
  refine BoolOp_and (thn (ha pins s σ H _ I h) fun v s1 ⟨x, H1, I1, r1, q1⟩ => ?_)
  obtain ⟨c, rfl, q1⟩ := q1
  cases r1
  refine wpAny_truthy_bool ?_
  cases c with
  | true => exact hb pins s1 σ H1 Q I1 q1
  | false => exact ⟨.bl false, H1, I1, rfl, q1⟩
end
end L2

namespace L2
open PySem PySem.Spec PyProof.Rows

/-! ### a list, a tuple that is read: tracked, frozen, or an object of the module -/
def SqL (K : PySem.W.Frag) (H : Hp) (a : Addr) (xs : List V) : Prop :=
  Rd H a (.lst xs) ∨
    ∃ (o : Obj) (its : Array Value) (n : Nat), K.lookup a = some o ∧ o.cls = .type "list" ∧ o.dict = none ∧ o.data = .seq its n ∧ its.size ≤ sizeLine ∧ Vals xs its.toList
def SqT (K : PySem.W.Frag) (H : Hp) (a : Addr) (xs : List V) : Prop :=
  Rd H a (.tup xs) ∨
    ∃ (o : Obj) (its : Array Value) (n : Nat), K.lookup a = some o ∧ o.cls = .type "tuple" ∧ o.data = .seq its n ∧ its.size ≤ sizeLine ∧ Vals xs its.toList
def absV : Value → Option V
  | .none => some .non
  | .bool b => some (.bl b)
  | .int i _ => some (.int i)
  | .str x _ => some (.str x)
  | .bytes b _ => some (.byt b)
  | .float b _ => some (.flt b)
  | .ref a => some (.ref a)
  | .type n => some (.ty n)
  | _ => none
theorem RelV.abs {x : V} {u : Value} (r : RelV x u) : absV u = some x := by
  cases x with
  | non => cases r; rfl
  | bl _ => cases r; rfl
  | int _ => obtain ⟨t, rfl⟩ := r; rfl
  | str _ => obtain ⟨t, rfl⟩ := r; rfl
  | byt _ => obtain ⟨t, rfl⟩ := r; rfl
  | flt _ => obtain ⟨t, rfl⟩ := r; rfl
  | ref _ => cases r; rfl
  | ty _ => cases r; rfl
theorem RelV.inj {x y : V} {u : Value} (r : RelV x u) (q : RelV y u) : x = y := Option.some.inj (r.abs.symm.trans q.abs)
theorem Vals.inj : ∀ {xs ys : List V} {us : List Value}, Vals xs us → Vals ys us → xs = ys
  | _, _, _, .nil, .nil => rfl
  | _, _, _, .cons r t, .cons r' t' => by rw [r.inj r', Vals.inj t t']
section
variable {X : Cx} {pins : List (Addr × Obj)} {σ : St} {H : Hp} {s : Shared} {a : Addr} {xs ys : List V}
theorem SqL.of {K : PySem.W.Frag} (h : H a = some (.lst xs)) : SqL K H a xs := .inl (.inl h)
theorem SqT.of {K : PySem.W.Frag} (h : H a = some (.tup xs)) : SqT K H a xs := .inl (.inl h)
theorem Inv.list (I : Inv X pins σ H s) (h : SqL X.K H a xs) : ∃ its : List Value, Vals xs its ∧ PlainL s.heap a its.toArray ∧ xs.length ≤ sizeLine := by
  rcases h with h | ⟨o, its, n, hk, hc, hd, hs, hz, r⟩
  · obtain ⟨z, its, n, r, e⟩ := h.ok I.hok
    exact ⟨its, r, ⟨_, n, e, rfl, rfl, rfl⟩, z⟩
  · refine ⟨its.toList, r, ⟨o, n, I.kIn a o hk, hc, hd, by simpa using hs⟩, ?_⟩
    have e := r.length
    simp only [Array.length_toList] at e
    omega
theorem Inv.tuple (I : Inv X pins σ H s) (h : SqT X.K H a xs) : ∃ its : List Value, Vals xs its ∧ IsTup s.heap a its.toArray ∧ xs.length ≤ sizeLine := by
  rcases h with h | ⟨o, its, n, hk, hc, hs, hz, r⟩
  · obtain ⟨z, its, r, p⟩ := h.ok I.hok
    exact ⟨its, r, p, z⟩
  · refine ⟨its.toList, r, ⟨o, I.kIn a o hk, hc, n, by simpa using hs⟩, ?_⟩
    have e := r.length
    simp only [Array.length_toList] at e
    omega
theorem Inv.list_inj (I : Inv X pins σ H s) (h : SqL X.K H a xs) (h' : SqL X.K H a ys) : xs = ys := by
  obtain ⟨its, r, ⟨o, n, e, _, _, d⟩, _⟩ := I.list h
  obtain ⟨its', r', ⟨o', n', e', _, _, d'⟩, _⟩ := I.list h'
  rw [e] at e'; cases e'
  rw [d] at d'
  injection d' with d1 _
  have : its = its' := by simpa using congrArg Array.toList d1
  subst this
  exact r.inj r'
end

/-! ### another wish about exceptions -/
abbrev Cx.wish (X : Cx) (E : Value → Shared → Prop) : Cx := { X with xe := E }
/-- no exception leaves -/
abbrev Cx.nox (X : Cx) : Cx := X.wish fun _ _ => False
theorem Cx.Ok.wish {X : Cx} (ok : X.Ok) (E : Value → Shared → Prop) : (X.wish E).Ok :=
  ⟨ok.mod, ok.kind, ok.glob, ok.blt, ok.above, ok.inj, ok.has, ok.cab, ok.hd, ok.frames, ok.stk, ok.exf, ok.bs, ok.bsz, ok.noex, ok.exfs, ok.funs, ok.frf⟩
theorem Cx.Ok.unwish {X : Cx} {E : Value → Shared → Prop} (ok : (X.wish E).Ok) : X.Ok :=
  ⟨ok.mod, ok.kind, ok.glob, ok.blt, ok.above, ok.inj, ok.has, ok.cab, ok.hd, ok.frames, ok.stk, ok.exf, ok.bs, ok.bsz, ok.noex, ok.exfs, ok.funs, ok.frf⟩
section
variable {X : Cx} {pins : List (Addr × Obj)} {σ : St} {H : Hp} {s : Shared} {E : Value → Shared → Prop}
theorem Inv.wish (I : Inv X pins σ H s) (E : Value → Shared → Prop) : Inv (X.wish E) pins σ H s := ⟨I.ok.wish E, I.os, I.bare, I.base, I.loc, I.cell, I.free, I.freeC, I.pin, I.hok, I.len⟩
theorem Inv.unwish (I : Inv (X.wish E) pins σ H s) : Inv X pins σ H s := ⟨I.ok.unwish, I.os, I.bare, I.base, I.loc, I.cell, I.free, I.freeC, I.pin, I.hok, I.len⟩
theorem SP.unwish {D : Ends} {f : Flow} {s' : Shared} (h : SP (X.wish E) pins D f s') : SP X pins D f s' := by
  cases f with
  | next => obtain ⟨σ', H', I, q⟩ := h; exact ⟨σ', H', I.unwish, q⟩
  | brk => obtain ⟨σ', H', I, q⟩ := h; exact ⟨σ', H', I.unwish, q⟩
  | cont => obtain ⟨σ', H', I, q⟩ := h; exact ⟨σ', H', I.unwish, q⟩
  | ret u => obtain ⟨v, σ', H', I, r, q⟩ := h; exact ⟨v, σ', H', I.unwish, r, q⟩
theorem PE.nox {e : Expr} {t : TE} (h : PE X.nox e t) : PE X e t := fun pins s σ H Q I hw =>
  wpAny_mono (h pins s σ H Q (I.wish _) hw) (fun _ _ ⟨v, H', I', r, q⟩ => ⟨v, H', I'.unwish, r, q⟩) fun _ _ z => False.elim z
theorem PT.nox {e : Expr} {t : TT} (h : PT X.nox e t) : PT X e t := fun pins s σ H Q I hw =>
  wpAny_mono (h pins s σ H Q (I.wish _) hw) (fun _ _ ⟨H', I', q⟩ => ⟨H', I'.unwish, q⟩) fun _ _ z => False.elim z
theorem PSs.nox {st : List Stmt} {t : TS} (h : PSs X.nox st t) : PSs X st t := fun pins s σ H D I hw =>
  wpAny_mono (h pins s σ H D (I.wish _) hw) (fun _ _ q => q.unwish) fun _ _ z => False.elim z
end

/-! ### blocks and small statements -/
section
variable {X : Cx} {st : Stmt} {rest : List Stmt} {t u : TS} {e : Expr} {te : TE} {pos : Pos}
def tNext : TS := fun D σ H => D.nx σ H
def tSeq (t u : TS) : TS := fun D σ H => t { D with nx := u D } σ H
theorem pss_nil : PSs X [] tNext := fun _ _ σ H _ I h => wpAny_execs_nil ⟨σ, H, I, h⟩
theorem pss_cons (h1 : PS X st t) (h2 : PSs X rest u) : PSs X (st :: rest) (tSeq t u) := by
  intro pins s σ H D I h
  refine wpAny_execs_cons (thn (h1 pins s σ H { D with nx := u D } I h) fun f s1 q => ?_)
  cases f with
  | next =>
    obtain ⟨σ', H', I', q⟩ := q
    exact h2 pins s1 σ' H' D I' q
  | ret v => exact q
  | brk => exact q
  | cont => exact q
theorem pss_one (h1 : PS X st t) : PSs X [st] t := by
  intro pins s σ H D I h
  refine wpAny_execs_cons (thn (h1 pins s σ H D I h) fun f s1 q => ?_)
  cases f with
  | next => exact wpAny_execs_nil q
  | ret v => exact q
  | brk => exact q
  | cont => exact q
/-- in a def's body nothing is shown -/
theorem Inv.quiet {pins : List (Addr × Obj)} {σ : St} {H : Hp} {s : Shared} (I : Inv X pins σ H s) : interactive X.env = false := by simp [interactive, I.ok.kind]
/-- an expression whose value is dropped -/
def tDrop (te : TE) : TS := fun D σ H => te σ H fun _ H1 => D.nx σ H1
theorem ps_expr (he : PE X e te) (hs : swapsWith e none pos.line X.env = pure false := by rfl) : PS X (.Expr e pos) (tDrop te) := by
  intro pins s σ H D I h
  exact wpAny_Expr_any (thn (he pins s σ H _ I h) fun v s1 ⟨x, H1, I1, r1, q1⟩ => ⟨σ, H1, I1, q1⟩) I.quiet hs
def tRet (te : TE) : TS := fun D σ H => te σ H D.rt
theorem ps_ret (he : PE X e te) : PS X (.Return (some e) pos) (tRet te) := by
  intro pins s σ H D I h
  exact wpAny_Return_some (thn (he pins s σ H _ I h) fun v s1 ⟨x, H1, I1, r1, q1⟩ => ⟨x, σ, H1, I1, r1, q1⟩)
def tIfS (c : TT) (t u : TS) : TS := fun D σ H => c σ H fun b H1 => if b = true then t D σ H1 else u D σ H1
theorem ps_if {c : Expr} {a b : List Stmt} {tc : TT} (hc : PT X c tc) (ha : PSs X a t) (hb : PSs X b u) : PS X (.If c a b pos) (tIfS tc t u) := by
  intro pins s σ H D I h
  refine wpAny_If (thn (hc pins s σ H _ I h) fun d s1 ⟨H1, I1, q1⟩ => ?_)
  cases d with
  | true => exact ha pins s1 σ H1 D I1 q1
  | false => exact hb pins s1 σ H1 D I1 q1
end

/-! ### targets -/
abbrev TG := V → St → Hp → (St → Hp → Prop) → Prop
def PG (X : Cx) (target : Expr) (t : TG) : Prop :=
  ∀ (pins : List (Addr × Obj)) (s : Shared) (σ : St) (H : Hp) (v : V) (u : Value) (Q : St → Hp → Prop), Inv X pins σ H s → RelV v u → t v σ H Q →
    wpAny (model X.prog X.w) X.A (assign target X.env u) (fun _ s' => ∃ σ' H', Inv X pins σ' H' s' ∧ Q σ' H') X.xe s
section
variable {X : Cx} {pos : Pos}
def gName (i : Nat) : TG := fun v σ H Q => Q (σ.set i (some v)) H
theorem pg_name {i : Nat} {x : Str} (hN : X.N.Nodup) (hi : X.N[i]? = some x) (hx : Loc X.env.scope x) (hf : X.fn x = true ∨ X.env.scope.names.lookup x = some .local := by first | exact .inl rfl | exact .inr rfl | assumption) : PG X (.Name x pos) (gName i) := by
  intro pins s σ H v u Q I r h
  exact wpAny_assign_Name (store_ok I hN hi hx r (fun s' I' => ⟨_, H, I', h⟩) hf)
/-- target = value -/
def tAsg (te : TE) (g : TG) : TS := fun D σ H => te σ H fun x H1 => g x σ H1 D.nx
/-- name = value -/
theorem ps_set {i : Nat} {x : Str} {e : Expr} {te : TE} {pos' : Pos} (hN : X.N.Nodup) (hi : X.N[i]? = some x) (hx : Loc X.env.scope x) (he : PE X e te) (hs : swapsWith e (some (.Name x pos')) pos.line X.env = pure false := by rfl) (hf : X.fn x = true ∨ X.env.scope.names.lookup x = some .local := by first | exact .inl rfl | exact .inr rfl | assumption) :
    PS X (.Assign [.Name x pos'] e pos) (tAsg te (gName i)) := by
  intro pins s σ H D I h
  refine wpAny_Assign_Name (thn (he pins s σ H _ I h) fun v s1 ⟨y, H1, I1, r1, q1⟩ => ?_) hs
  exact store_ok I1 hN hi hx r1 (fun s2 I2 => ⟨_, H1, I2, q1⟩) hf
/-- o[i], by values -/
def PGet (X : Cx) (t : V → V → Hp → VK → Prop) : Prop :=
  ∀ (pins : List (Addr × Obj)) (s : Shared) (σ : St) (H : Hp) (o i : V) (ov iv : Value) (Q : VK), Inv X pins σ H s → RelV o ov → RelV i iv → t o i H Q →
    wpAny (model X.prog X.w) X.A (getItem ov iv) (EP X pins σ Q) X.xe s
end

/-! ### while -/
section
variable {X : Cx} {pos : Pos}
end

/-! ### what a loop or a comprehension walks -/
/-- at turn i: it yields x (the heap may grow), or it stops -/
structure It where
  go : Nat → Hp → Prop
  yld : Nat → Hp → V → Hp → Prop
  stop : Nat → Hp → Prop
/-- the iterator's own objects may turn: they are not the frame's, not pinned, younger than the entry (or a comprehension's own) -/
def FpOk (X : Cx) (pins : List (Addr × Obj)) (H : Hp) (b : Addr) : Prop :=
  H b = none ∧ b ≠ X.env.locals ∧ b ∉ X.fs ∧ (b ∈ X.ex ∨ X.s_0.heap.objs.size ≤ b) ∧ (∀ x c, X.env.cells.lookup x = some c → c ≠ b) ∧ ∀ p ∈ X.pn ++ pins, p.1 ≠ b
theorem Inv.fpOk {X : Cx} {pins : List (Addr × Obj)} {σ : St} {H H' : Hp} {s : Shared} {b : Addr} (I : Inv X pins σ H s) (hb : s.heap.objs.size ≤ b) (hn : H' b = none) : FpOk X pins H' b := by
  refine ⟨hn, Nat.ne_of_gt (Nat.lt_of_lt_of_le I.lt hb), I.nofs hb, .inr (Nat.le_trans I.sz hb), fun x c e z => ?_, fun p hp z => ?_⟩
  · obtain ⟨v, q⟩ := I.cell x c e
    exact absurd (Nat.lt_of_lt_of_le q.lt (by rw [z]; exact hb)) (Nat.lt_irrefl _)
  · exact absurd (Nat.lt_of_lt_of_le (Heap.lt_size (I.pin p hp).1) (by rw [z]; exact hb)) (Nat.lt_irrefl _)
structure Turn (P : Program) (w : World) (K : PySem.W.Frag) (tg : Expr) (J : It) (fp : List Addr) (it : Addr) (tn : Nat → Heap → Prop) : Prop where
  mem : it ∈ fp
  obj : ∀ i h, tn i h → ∀ b ∈ fp, ∃ o, h.get? b = some o ∧ ∀ v, o.data ≠ .cell v
  keep : ∀ i h h', tn i h → (∀ b ∈ fp, ∀ o, h.get? b = some o → h'.get? b = some o) → tn i h'
  item : ∀ (X : Cx), X.prog = P → X.w = w → X.K = K → X.calm = true → ∀ (i : Nat) (pins : List (Addr × Obj)) (s : Shared) (σ : St) (H : Hp) (E : Value → Shared → Prop), Inv X pins σ H s → (∀ b ∈ fp, FpOk X pins H b) → tn i s.heap → J.go i H →
    wpAny (model P w) X.A (pyNext (.ref it)) (fun r s1 => ∃ u, r = some u ∧
      wpAny (model P w) X.A (letOwnedTupleGo tg (.ref it) u) (fun _ s2 => ∃ x H', Inv X pins σ H' s2 ∧ RelV x u ∧ J.yld i H x H' ∧ tn (i + 1) s2.heap ∧ ∀ b ∈ fp, H' b = none) E s1) E s
  done : ∀ (X : Cx), X.prog = P → X.w = w → X.K = K → X.calm = true → ∀ (i : Nat) (pins : List (Addr × Obj)) (s : Shared) (σ : St) (H : Hp) (E : Value → Shared → Prop), Inv X pins σ H s → (∀ b ∈ fp, FpOk X pins H b) → tn i s.heap → J.stop i H →
    wpAny (model P w) X.A (pyNext (.ref it)) (fun r s1 => r = none ∧ Inv X pins σ H s1) E s
  self : ∀ (A : Around) (i : Nat) (s : Shared) (Q : Value → Shared → Prop) (E : Value → Shared → Prop), tn i s.heap → Q (.ref it) s → wpAny (model P w) A (pyIter (.ref it)) Q E s
abbrev TI := St → Hp → (It → Hp → Prop) → Prop
/-- an iterator has come -/
def PIE (X : Cx) (pins : List (Addr × Obj)) (σ : St) (tg : Expr) (R : It → Hp → Prop) (itv : Value) (s2 : Shared) : Prop :=
  ∃ (it : Addr) (fp : List Addr) (tn : Nat → Heap → Prop) (J : It) (H' : Hp), itv = .ref it ∧ Inv X pins σ H' s2 ∧ Turn X.prog X.w X.K tg J fp it tn ∧ tn 0 s2.heap ∧ (∀ b ∈ fp, FpOk X pins H' b) ∧ R J H'
def PI (X : Cx) (tg iter : Expr) (wi : TI) : Prop :=
  ∀ (pins : List (Addr × Obj)) (s : Shared) (σ : St) (H : Hp) (R : It → Hp → Prop), Inv X pins σ H s → wi σ H R →
    wpAny (model X.prog X.w) X.A (eval iter X.env) (fun v s1 => wpAny (model X.prog X.w) X.A (pyIter v) (PIE X pins σ tg R) X.xe s1) X.xe s

/-- the step ahead of the store is nothing for an iterator that keeps no tuple -/
theorem go_of {M : Model} {A : Around} {E : Value → Shared → Prop} {s : Shared} {tg : Expr} {it : Addr} {u : Value} {o : Obj} {n : String} {vs : Array Value} {Q : Unit → Shared → Prop} (ho : s.heap.get? it = some o) (hc : o.cls = .type n) (hd : o.data = .fields vs)
    (hn : ["enumerate", "zip", "dict_itemiterator", "dict_reverseitemiterator", "odict_iterator", "itertools.zip_longest", "itertools.pairwise"].contains n = false) (hQ : Q () s) : wpAny M A (letOwnedTupleGo tg (.ref it) u) Q E s := by
  unfold letOwnedTupleGo
  cases tg <;> first
    | exact wpAny_pure hQ
    | (cases u <;> first
        | exact wpAny_pure hQ
        | (refine wpAny_bind (wpAny_load ho ?_)
           rw [hc, hd]
           show wpAny M A (if (["enumerate", "zip", "dict_itemiterator", "dict_reverseitemiterator", "odict_iterator", "itertools.zip_longest", "itertools.pairwise"].contains n && vs[0]? == some (rawInt _)) = true then _ else _) Q E s
           rw [if_neg (by intro h; rw [hn, Bool.false_and] at h; cases h)]
           exact wpAny_pure hQ))

/-- the list at a, as it stands at each turn (a loop may append to it) -/
def Itl (K : PySem.W.Frag) (a : Addr) : It :=
  ⟨fun i H => ∃ xs x, SqL K H a xs ∧ xs[i]? = some x, fun i H x H' => H' = H ∧ ∀ xs, SqL K H a xs → xs[i]? = some x, fun i H => ∃ xs, SqL K H a xs ∧ xs.length ≤ i⟩
/-- lo, lo + 1, .. (n of them) -/
def Itr (lo : Int) (n : Nat) : It := ⟨fun i _ => i < n, fun i H x H' => H' = H ∧ x = .int (lo + i), fun i _ => n ≤ i⟩
theorem turn_list {P : Program} {w : World} {K : PySem.W.Frag} {tg : Expr} (a it : Addr) : Turn P w K tg (Itl K a) [it] it (fun i h => h.IsListIter it a i) where
  mem := by simp
  obj := fun i h st b hb => by
    have e : b = it := by simpa using hb
    subst e
    obtain ⟨o, e, c, d⟩ := st
    exact ⟨o, e, fun v z => by rw [d] at z; cases z⟩
  keep := fun i h h' st k => st.at fun o e => k it (by simp) o e
  item := by
    intro X hP hw hK hc i pins s σ H E I hf st hg
    subst hP hw hK
    obtain ⟨xs, x, hq, hx⟩ := hg
    obtain ⟨its, rv, p, hz⟩ := I.list hq
    obtain ⟨u, hu, ru⟩ := rv.get hx
    obtain ⟨f0, f1, f2, f3, f4, f5⟩ := hf it (by simp)
    refine wpAny_pyNext_list_item st p.isList (x := u) (by simpa using hu) fun h' st' sb => ?_
    have I1 : Inv X pins σ H { s with heap := h' } := I.turned (t' := s.toks) (fun b o hb e => (sb.2 b hb).trans e) f0 f1 f3 f4 f5
    obtain ⟨o, e, c, d⟩ := id st'
    exact ⟨u, rfl, go_of (s := { s with heap := h' }) e c d (by decide) ⟨x, H, I1, ru, ⟨rfl, fun ys hy => by rw [I.list_inj hy hq]; exact hx⟩, st', fun b hb => (hf b hb).1⟩⟩
  done := by
    intro X hP hw hK hc i pins s σ H E I hf st hg
    subst hP hw hK
    obtain ⟨xs, hq, hx⟩ := hg
    obtain ⟨its, rv, p, hz⟩ := I.list hq
    obtain ⟨f0, f1, f2, f3, f4, f5⟩ := hf it (by simp)
    have hl := rv.length
    exact wpAny_pyNext_list_end (I.ok.hd hc) st p.isList (by simp; omega) fun h' eb => ⟨rfl, I.turned (t' := s.toks) (fun b o hb e => eb b o hb e) f0 f1 f3 f4 f5⟩
  self := fun _ _ _ _ _ st h => wpAny_pyIter_listiter st h
theorem turn_range {P : Program} {w : World} {K : PySem.W.Frag} {tg : Expr} (it : Addr) (lo : Int) (n : Nat) : Turn P w K tg (Itr lo n) [it] it (fun i h => IsRangeIter h it (lo + (i : Nat) * 1) ((n : Int) - (i : Nat)) 1) where
  mem := by simp
  obj := fun i h st b hb => by
    have e : b = it := by simpa using hb
    subst e
    exact ⟨_, st, fun v z => by
      have z' : Data.fields _ = Data.cell v := z
      cases z'⟩
  keep := fun i h h' st k => k it (by simp) _ st
  item := by
    intro X hP hw hK hc i pins s σ H E I hf st hg
    subst hP hw hK
    obtain ⟨f0, f1, f2, f3, f4, f5⟩ := hf it (by simp)
    have W := Walks.range (prog := X.prog) (w := X.w) (I.ok.hd hc) it lo 1 n
    refine W.item i s _ _ hg st fun v h' tk hv st' kk => ?_
    obtain ⟨t, rfl⟩ := hv
    have I1 : Inv X pins σ H { s with heap := h', toks := tk } := I.turned (fun b o hb e => kk b o (by simpa using hb) e) f0 f1 f3 f4 f5
    refine ⟨_, rfl, go_of (s := { s with heap := h', toks := tk }) (n := "range_iterator") st' rfl rfl (by decide) ⟨.int (lo + i), H, I1, ⟨t, ?_⟩, ⟨rfl, rfl⟩, st', fun b hb => (hf b hb).1⟩⟩
    rw [Int.mul_one]
  done := by
    intro X hP hw hK hc i pins s σ H E I hf st hg
    subst hP hw hK
    obtain ⟨f0, f1, f2, f3, f4, f5⟩ := hf it (by simp)
    exact wpAny_pyNext_range_end (I.ok.hd hc) st (by have : n ≤ i := hg; omega) fun h' eb => ⟨rfl, I.turned (t' := s.toks) (fun b o hb e => eb b o hb e) f0 f1 f3 f4 f5⟩
  self := fun _ _ _ _ _ st h => wpAny_pyIter_rangeiter st h
end L2

namespace L2
open PySem PySem.Spec PyProof.Rows
section
variable {X : Cx} {tg : Expr}
def iList (K : PySem.W.Frag) (tl : TE) : TI := fun σ H R => tl σ H fun x H1 => ∃ a, x = .ref a ∧ (∃ xs, SqL K H1 a xs) ∧ R (Itl K a) H1
theorem pi_list {l : Expr} {tl : TE} (hl : PE X l tl) : PI X tg l (iList X.K tl) := by
  intro pins s σ H R I h
  refine thn (hl pins s σ H _ I h) fun v s1 ⟨x, H1, I1, r1, q1⟩ => ?_
  obtain ⟨a, e, ⟨xs, hq⟩, q⟩ := q1
  subst e
  cases r1
  obtain ⟨its, rv, p, hz⟩ := I1.list hq
  refine wpAny_pyIter_list p.isList ?_
  refine ⟨s1.heap.objs.size, [s1.heap.objs.size], _, _, H1, rfl, I1.kept (t' := s1.toks) fun b o e => Heap.get?_push_of_some _ e, turn_list a _, ⟨_, Heap.get?_push_size _ rfl, rfl, rfl⟩, fun b hb => ?_, q⟩
  have e : b = s1.heap.objs.size := by simpa using hb
  subst e
  exact I1.fpOk (Nat.le_refl _) (I1.hok.fresh (Nat.le_refl _))
/-- a range object just made, walked -/
theorem range_it {pins : List (Addr × Obj)} {σ : St} {H : Hp} {s : Shared} {R : It → Hp → Prop} {E : Value → Shared → Prop} {lo hi : Int} {t u v : Tok} {tk : Nat} (I : Inv X pins σ H s) (h1 : -(2 ^ 62) ≤ lo) (h2 : lo < 2 ^ 62) (h3 : -(2 ^ 62) ≤ hi) (h4 : hi < 2 ^ 62)
    (q : R (Itr lo (hi - lo).toNat) H) : wpAny (model X.prog X.w) X.A (pyIter (.ref s.heap.objs.size)) (PIE X pins σ tg R) E { s with heap := s.heap.push { cls := .type "range", data := .fields #[.int lo t, .int hi u, .int 1 v] }, toks := tk } := by
  refine wpAny_pyIter_range (IsRange.new ..) (small_one h1 h2 h3 h4) ?_
  have I1 : Inv X pins σ H { s with heap := s.heap.push { cls := .type "range", data := .fields #[.int lo t, .int hi u, .int 1 v] }, toks := tk } := I.kept fun b o e => Heap.get?_push_of_some _ e
  refine ⟨(s.heap.push { cls := .type "range", data := .fields #[.int lo t, .int hi u, .int 1 v] }).objs.size, [(s.heap.push { cls := .type "range", data := .fields #[.int lo t, .int hi u, .int 1 v] }).objs.size], _, _, H, rfl,
    I1.kept (t' := tk) fun b o e => Heap.get?_push_of_some _ e, turn_range _ lo (hi - lo).toNat, ?_, fun b hb => ?_, q⟩
  · have e1 : lo + ((0 : Nat) : Int) * 1 = lo := by simp
    have e2 : (((hi - lo).toNat : Nat) : Int) - ((0 : Nat) : Int) = Builtin.Range.rangeSize lo hi 1 := by rw [rangeSize_one]; split <;> omega
    show IsRangeIter _ _ (lo + ((0 : Nat) : Int) * 1) ((((hi - lo).toNat : Nat) : Int) - ((0 : Nat) : Int)) 1
    rw [e1, e2]
    exact Heap.get?_push_size _ rfl
  · have e : b = (s.heap.push { cls := .type "range", data := .fields #[.int lo t, .int hi u, .int 1 v] }).objs.size := by simpa using hb
    subst e
    exact I1.fpOk (Nat.le_refl _) (I1.hok.fresh (Nat.le_refl _))
def iRng1 (ta : TA) : TI := fun σ H R => ta σ H fun vs H1 => ∃ j : Int, vs = [.int j] ∧ -(2 ^ 62) ≤ j ∧ j < 2 ^ 62 ∧ R (Itr 0 j.toNat) H1
theorem pi_range1 {a : Expr} {ta : TA} {p pos : Pos} (hg : Gl X "range") (hm : X.mg "range" = none) (ha : PA X [a] ta) (hs : starEach [a] X.env = [(false, eval a X.env)] := by rfl) : PI X tg (.Call (.Name "range" p) [a] [] pos) (iRng1 ta) := by
  intro pins s σ H R I h
  refine Call_ (ld_blt I hg hm boot_range (PyProof.Rows.callWith_type1 (thn (ha pos pins s σ H _ I h) fun us s1 ⟨vs, H1, I1, r1, q1⟩ => ?_) hs rfl))
  obtain ⟨j, e, q1, q2, q⟩ := q1
  subst e
  cases r1 with
  | cons r rr =>
    cases rr
    obtain ⟨t, rfl⟩ := r
    exact call_range_1 (range_it I1 (by omega) (by omega) q1 q2 (by simpa using q))

/-! ### for -/
/-- W: the invariant by the turn and a measure; N: what the body is to reach -/
def tFor (wi : TI) (g : TG) (tb : TS) : TS := fun D σ H => wi σ H fun J H1 => ∃ W : Nat → Nat → St → Hp → Prop, (∃ m, W 0 m σ H1) ∧ ∀ i m σ H, W i m σ H →
  (J.stop i H ∧ D.nx σ H) ∨ (J.go i H ∧ ∃ N : St → Hp → Prop, (∀ σ' H', N σ' H' → ∃ m', m' < m ∧ W (i + 1) m' σ' H') ∧ ∀ x H', J.yld i H x H' → g x σ H' fun σ2 H2 => tb { D with nx := N, ct := N, bk := D.nx } σ2 H2)
/-- the records at fp as they stand -/
def pinsAt (fp : List Addr) (h : Heap) : List (Addr × Obj) := fp.filterMap fun b => (h.get? b).map fun o => (b, o)
theorem mem_pinsAt {fp : List Addr} {h : Heap} {b : Addr} {o : Obj} (hb : b ∈ fp) (e : h.get? b = some o) : (b, o) ∈ pinsAt fp h := List.mem_filterMap.mpr ⟨b, hb, by rw [e]; rfl⟩
theorem of_pinsAt {fp : List Addr} {h : Heap} {p : Addr × Obj} (hp : p ∈ pinsAt fp h) : p.1 ∈ fp ∧ h.get? p.1 = some p.2 := by
  obtain ⟨b, hb, e⟩ := List.mem_filterMap.mp hp
  cases q : h.get? b with
  | none => rw [q] at e; cases e
  | some o =>
    rw [q] at e
    have e' : (b, o) = p := Option.some.inj e
    subst e'
    exact ⟨hb, q⟩
theorem Inv.pinned {pins : List (Addr × Obj)} {σ : St} {H : Hp} {s : Shared} {fp : List Addr} (I : Inv X pins σ H s) (hf : ∀ b ∈ fp, FpOk X pins H b) (ho : ∀ b ∈ fp, ∃ o, s.heap.get? b = some o ∧ ∀ v, o.data ≠ .cell v) : Inv X (pins ++ pinsAt fp s.heap) σ H s :=
  I.pins_of fun p hp => (List.mem_append.mp hp).elim (fun z => I.pin p (List.mem_append_right _ z)) fun z => by
    obtain ⟨hb, e⟩ := of_pinsAt z
    obtain ⟨f0, f1, f2, _⟩ := hf p.1 hb
    obtain ⟨o, e', d⟩ := ho p.1 hb
    rw [e] at e'; cases e'
    exact ⟨e, f0, f1, f2, d⟩
theorem Inv.unpinned {pins pl : List (Addr × Obj)} {σ : St} {H : Hp} {s : Shared} (I : Inv X (pins ++ pl) σ H s) : Inv X pins σ H s := I.pins_of fun p hp => I.pin p (List.mem_append_right _ (List.mem_append_left _ hp))
theorem ps_for {iter : Expr} {body : List Stmt} {wi : TI} {g : TG} {tb : TS} {pos : Pos} (hp : PassesOwn (model X.prog X.w) X.A X.env X.xe) (hc : X.calm = true) (hi : PI X tg iter wi) (hg : PG X tg g) (hb : PSs X body tb)
    (hs : ∀ x, foldedSetIterable iter X.env x = pure x := by intro _; rfl) : PS X (.For tg iter body [] pos) (tFor wi g tb) := by
  intro pins s σ H D I h
  refine wpAny_For (thn (hi pins s σ H _ I h) fun v s1 h1 => thn h1 fun itv s2 h2 => ?_) hs
  obtain ⟨it, fp, tn, J, H2, e, I2, T, st2, f2, W, ⟨m0, w0⟩, turn⟩ := h2
  subst e
  -- what stays true of the iterator's objects through the loop
  have stat : ∀ {H' : Hp}, (∀ b ∈ fp, H' b = none) → ∀ b ∈ fp, FpOk X pins H' b := fun hn b hb => ⟨hn b hb, (f2 b hb).2⟩
  refine codeAny_forLoop_any (fun n s' => ∃ i σ' H', Inv X pins σ' H' s' ∧ tn i s'.heap ∧ (∀ b ∈ fp, H' b = none) ∧ W i n σ' H') ?_ m0 ⟨0, σ, H2, I2, st2, fun b hb => (f2 b hb).1, w0⟩
  rintro n s3 ⟨i, σ3, H3, I3, st3, fr3, w3⟩
  rcases turn i n σ3 H3 w3 with ⟨stop, qn⟩ | ⟨go, N, hN, step⟩
  · refine wpAny_passesOwn hp (thn (T.done X rfl rfl rfl hc i pins s3 σ3 H3 X.xe I3 (stat fr3) st3 stop) fun r s4 ⟨hr, I4⟩ => ?_)
    subst hr
    exact wpAny_execs_nil ⟨σ3, H3, I4, qn⟩
  · refine wpAny_passesOwn hp (thn (T.item X rfl rfl rfl hc i pins s3 σ3 H3 X.xe I3 (stat fr3) st3 go) fun r s4 ⟨u, hr, h4⟩ => ?_)
    subst hr
    refine wpAny_passesOwn hp (thn h4 fun _ s5 ⟨x, H5, I5, r5, y5, st5, fr5⟩ => ?_)
    have I5' := I5.pinned (stat fr5) (T.obj _ _ st5)
    refine wpAny_passesOwn hp (thn (hg _ s5 σ3 H5 x u _ I5' r5 (step x H5 y5)) fun _ s6 ⟨σ6, H6, I6, q6⟩ => ?_)
    refine wpAny_passesOwn hp (thn (hb _ s6 σ6 H6 _ I6 q6) fun f s7 q7 => ?_)
    have again : ∀ {σ7 : St} {H7 : Hp}, Inv X (pins ++ pinsAt fp s5.heap) σ7 H7 s7 → N σ7 H7 → ∃ m, m < n ∧ ∃ i σ' H', Inv X pins σ' H' s7 ∧ tn i s7.heap ∧ (∀ b ∈ fp, H' b = none) ∧ W i m σ' H' := fun {σ7 H7} I7 n7 => by
      obtain ⟨m', hm, w7⟩ := hN σ7 H7 n7
      refine ⟨m', hm, i + 1, σ7, H7, I7.unpinned, T.keep _ _ _ st5 fun b hb o e => (I7.pin (b, o) (List.mem_append_right _ (List.mem_append_right _ (mem_pinsAt hb e)))).1, fun b hb => ?_, w7⟩
      obtain ⟨o, e, d⟩ := T.obj _ _ st5 b hb
      exact (I7.pin (b, o) (List.mem_append_right _ (List.mem_append_right _ (mem_pinsAt hb e)))).2.1
    cases f with
    | next => obtain ⟨σ7, H7, I7, n7⟩ := q7; exact again I7 n7
    | cont => obtain ⟨σ7, H7, I7, n7⟩ := q7; exact again I7 n7
    | brk => obtain ⟨σ7, H7, I7, q7⟩ := q7; exact ⟨σ7, H7, I7.unpinned, q7⟩
    | ret v => obtain ⟨x7, σ7, H7, I7, r7, q7⟩ := q7; exact ⟨x7, σ7, H7, I7.unpinned, r7, q7⟩
end

/-! ### the forms one uses -/
/-- over a list that the body leaves as it is -/
theorem for_list {K : PySem.W.Frag} {a : Addr} {xs : List V} {g : TG} {tb : TS} {D : Ends} {σ : St} {H : Hp} (Pv : Nat → St → Hp → Prop) (h0 : Pv 0 σ H) (hl : ∀ i σ H, i ≤ xs.length → Pv i σ H → SqL K H a xs)
    (hs : ∀ i x σ H, xs[i]? = some x → Pv i σ H → g x σ H fun σ2 H2 => tb { D with nx := Pv (i + 1), ct := Pv (i + 1), bk := D.nx } σ2 H2) (hd : ∀ σ H, Pv xs.length σ H → D.nx σ H) :
    ∃ W : Nat → Nat → St → Hp → Prop, (∃ m, W 0 m σ H) ∧ ∀ i m σ H, W i m σ H →
      ((Itl K a).stop i H ∧ D.nx σ H) ∨ ((Itl K a).go i H ∧ ∃ N : St → Hp → Prop, (∀ σ' H', N σ' H' → ∃ m', m' < m ∧ W (i + 1) m' σ' H') ∧ ∀ x H', (Itl K a).yld i H x H' → g x σ H' fun σ2 H2 => tb { D with nx := N, ct := N, bk := D.nx } σ2 H2) := by
  refine ⟨fun i m σ H => m = xs.length - i ∧ i ≤ xs.length ∧ Pv i σ H, ⟨xs.length, by simp, Nat.zero_le _, h0⟩, ?_⟩
  rintro i m σ H ⟨rfl, hi, p⟩
  have q := hl i σ H hi p
  by_cases hlt : i < xs.length
  · refine .inr ⟨⟨xs, xs[i], q, by simp [hlt]⟩, Pv (i + 1), fun σ' H' p' => ⟨xs.length - (i + 1), by omega, rfl, hlt, p'⟩, fun x H' y => ?_⟩
    obtain ⟨e, y⟩ := y
    subst e
    exact hs i x σ _ (y xs q) p
  · have e : i = xs.length := by omega
    subst e
    exact .inl ⟨⟨xs, q, Nat.le_refl _⟩, hd σ H p⟩
end L2

namespace L2
open PySem PySem.Spec PyProof.Rows

abbrev R2 := V → V → Hp → VK → Prop
/-- a two-place operation on values: f is binaryOp op, inplaceOp op or compareOp op -/
def OpR (X : Cx) (f : Value → Value → Sem Value) (r : R2) : Prop :=
  ∀ (pins : List (Addr × Obj)) (s : Shared) (σ : St) (H : Hp) (x y : V) (v u : Value) (Q : VK), Inv X pins σ H s → RelV x v → RelV y u → r x y H Q →
    wpAny (model X.prog X.w) X.A (f v u) (EP X pins σ Q) X.xe s
/-- a one-place operation -/
def UnR (X : Cx) (f : Value → Sem Value) (r : V → Hp → VK → Prop) : Prop :=
  ∀ (pins : List (Addr × Obj)) (s : Shared) (σ : St) (H : Hp) (x : V) (v : Value) (Q : VK), Inv X pins σ H s → RelV x v → r x H Q →
    wpAny (model X.prog X.w) X.A (f v) (EP X pins σ Q) X.xe s
/-- a call of a value that is known (a builtin, a type) with values -/
def CallR (X : Cx) (f : Value) (r : List V → Hp → VK → Prop) : Prop :=
  ∀ (pins : List (Addr × Obj)) (s : Shared) (σ : St) (H : Hp) (xs : List V) (us : List Value) (Q : VK), Inv X pins σ H s → Vals xs us → r xs H Q →
    wpAny (model X.prog X.w) X.A (call f us) (EP X pins σ Q) X.xe s

def tOp (r : R2) (ta tb : TE) : TE := fun σ H Q => ta σ H fun x H1 => tb σ H1 fun y H2 => r x y H2 Q
def tUn (r : V → Hp → VK → Prop) (ta : TE) : TE := fun σ H Q => ta σ H fun x H1 => r x H1 Q
/-- ints in, under C, and a value out -/
def rI (C : Int → Int → Prop) (g : Int → Int → V) : R2 := fun x y H Q => ∃ i j, x = .int i ∧ y = .int j ∧ C i j ∧ Q (g i j) H
def rI0 (g : Int → Int → V) : R2 := fun x y H Q => ∃ i j, x = .int i ∧ y = .int j ∧ Q (g i j) H
def rU (g : Int → V) : V → Hp → VK → Prop := fun x H Q => ∃ i, x = .int i ∧ Q (g i) H

section
variable {X : Cx} {a b c : Expr} {ta tb tc : TE} {pos : Pos}

theorem binT (ha : PE X a ta) (hb : PE X b tb) {pins : List (Addr × Obj)} {s : Shared} {σ : St} {H : Hp} {R : V → V → Hp → Prop} (I : Inv X pins σ H s)
    (h : ta σ H fun x H1 => tb σ H1 fun y H2 => R x y H2) {Q : Value → Shared → Prop} {f : Value → Value → Sem Value}
    (hf : ∀ v u s2 x y H2, Inv X pins σ H2 s2 → RelV x v → RelV y u → R x y H2 → wpAny (model X.prog X.w) X.A (f v u) Q X.xe s2) :
    wpAny (model X.prog X.w) X.A (eval a X.env) (fun v s₁ => wpAny (model X.prog X.w) X.A (eval b X.env) (fun u s₂ => wpAny (model X.prog X.w) X.A (f v u) Q X.xe s₂) X.xe s₁) X.xe s := by
  refine thn (ha pins s σ H _ I h) fun v s1 ⟨x, H1, I1, r1, q1⟩ => ?_
  refine thn (hb pins s1 σ H1 _ I1 q1) fun u s2 ⟨y, H2, I2, r2, q2⟩ => ?_
  exact hf v u s2 x y H2 I2 r1 r2 q2

theorem pe_op {op : Operator} {r : R2} (ho : OpR X (binaryOp op) r) (ha : PE X a ta) (hb : PE X b tb) : PE X (.BinOp a op b pos) (tOp r ta tb) := by
  intro pins s σ H Q I h
  exact wpAny_BinOp (binT ha hb I h fun v u s2 x y H2 I2 rx ry q => ho pins s2 σ H2 x y v u Q I2 rx ry q)
theorem pe_un {op : UnaryOp} {r : V → Hp → VK → Prop} (ho : UnR X (unaryOp op) r) (ha : PE X a ta) : PE X (.UnaryOp op a pos) (tUn r ta) := by
  intro pins s σ H Q I h
  exact UnaryOp_ (thn (ha pins s σ H _ I h) fun v s1 ⟨x, H1, I1, r1, q1⟩ => ho pins s1 σ H1 x v Q I1 r1 q1)

/-! ### ints -/
theorem opI {f : Value → Value → Sem Value} {C : Int → Int → Prop} {g : Int → Int → Int}
    (rule : ∀ (i j : Int) (t u : Tok) (s : Shared) (Q : Value → Shared → Prop) (E : Value → Shared → Prop), C i j → Q (.int (g i j) s.toks) { s with toks := s.toks + 1 } → wpAny (model X.prog X.w) X.A (f (.int i t) (.int j u)) Q E s) :
    OpR X f (rI C fun i j => .int (g i j)) := by
  intro pins s σ H x y v u Q I rx ry h
  obtain ⟨i, j, rfl, rfl, hc, q⟩ := h
  obtain ⟨t, rfl⟩ := rx
  obtain ⟨t', rfl⟩ := ry
  exact rule i j t t' s _ _ hc ⟨.int (g i j), H, I.tok _, ⟨_, rfl⟩, q⟩
theorem opI0 {f : Value → Value → Sem Value} {g : Int → Int → Int}
    (rule : ∀ (i j : Int) (t u : Tok) (s : Shared) (Q : Value → Shared → Prop) (E : Value → Shared → Prop), Q (.int (g i j) s.toks) { s with toks := s.toks + 1 } → wpAny (model X.prog X.w) X.A (f (.int i t) (.int j u)) Q E s) :
    OpR X f (rI0 fun i j => .int (g i j)) := by
  intro pins s σ H x y v u Q I rx ry h
  obtain ⟨i, j, rfl, rfl, q⟩ := h
  obtain ⟨t, rfl⟩ := rx
  obtain ⟨t', rfl⟩ := ry
  exact rule i j t t' s _ _ ⟨.int (g i j), H, I.tok _, ⟨_, rfl⟩, q⟩
theorem opB0 {f : Value → Value → Sem Value} {g : Int → Int → Bool}
    (rule : ∀ (i j : Int) (t u : Tok) (s : Shared) (Q : Value → Shared → Prop) (E : Value → Shared → Prop), Q (.bool (g i j)) s → wpAny (model X.prog X.w) X.A (f (.int i t) (.int j u)) Q E s) :
    OpR X f (rI0 fun i j => .bl (g i j)) := by
  intro pins s σ H x y v u Q I rx ry h
  obtain ⟨i, j, rfl, rfl, q⟩ := h
  obtain ⟨t, rfl⟩ := rx
  obtain ⟨t', rfl⟩ := ry
  exact rule i j t t' s _ _ ⟨.bl (g i j), H, I, rfl, q⟩

def CMul (i j : Int) : Prop := (-(2 ^ 64) < i ∧ i < 2 ^ 64) ∨ (-(2 ^ 64) < j ∧ j < 2 ^ 64)
theorem CMul.ok {i j : Int} (h : CMul i j) : IntMulOk i j := by
  rcases h with ⟨h1, h2⟩ | ⟨h1, h2⟩
  · exact .of_left (intBits_le_64 h1 h2)
  · exact .of_right (intBits_le_64 h1 h2)

theorem op_add : OpR X (binaryOp .Add) (rI0 fun i j => .int (i + j)) := opI0 fun _ _ _ _ _ _ _ q => add_int q
theorem op_mul : OpR X (binaryOp .Mult) (rI CMul fun i j => .int (i * j)) := opI fun _ _ _ _ _ _ _ hc q => mul_int q hc.ok
/-- % by a positive divisor of any size -/
theorem op_mod : OpR X (binaryOp .Mod) (rI (fun _ j => 0 < j) fun i j => .int (i % j)) := opI fun i j _ _ _ _ _ hc q => by
  have h1 : (0 : Int) < j := hc
  exact mod_int' (by omega) (by rw [Int.fmod_eq_emod_of_nonneg i (by omega)]; exact q)


theorem unI {f : Value → Sem Value} {g : Int → Int}
    (rule : ∀ (i : Int) (t : Tok) (s : Shared) (Q : Value → Shared → Prop) (E : Value → Shared → Prop), Q (.int (g i) s.toks) { s with toks := s.toks + 1 } → wpAny (model X.prog X.w) X.A (f (.int i t)) Q E s) :
    UnR X f (rU fun i => .int (g i)) := by
  intro pins s σ H x v Q I rx h
  obtain ⟨i, rfl, q⟩ := h
  obtain ⟨t, rfl⟩ := rx
  exact rule i t s _ _ ⟨.int (g i), H, I.tok _, ⟨_, rfl⟩, q⟩
theorem un_neg : UnR X (unaryOp .USub) (rU fun i => .int (-i)) := unI fun _ _ _ _ _ q => neg_int q

/-! ### bools among ints: n += (a < b) -/
end

/-! ### comparisons -/
/-- the scalars that == tells apart as data does -/
def scal : V → V → Bool
  | .non, .non => true | .non, .int _ => true | .int _, .non => true | .non, .bl _ => true | .bl _, .non => true | .non, .str _ => true | .str _, .non => true
  | .int _, .int _ => true | .bl _, .bl _ => true | .str _, .str _ => true | .byt _, .byt _ => true
  | .int _, .str _ => true | .str _, .int _ => true | .bl _, .str _ => true | .str _, .bl _ => true
  | _, _ => false
def rEq : R2 := fun x y H Q => scal x y = true ∧ Q (.bl (decide (x = y))) H
def rNe : R2 := fun x y H Q => scal x y = true ∧ Q (.bl (!decide (x = y))) H

theorem dec_int {i j : Int} : decide (V.int i = V.int j) = (i == j) := by
  rw [Bool.eq_iff_iff]
  simp
theorem dec_bl {i j : Bool} : decide (V.bl i = V.bl j) = (i == j) := by
  rw [Bool.eq_iff_iff]
  simp
theorem dec_str {i j : Str} : decide (V.str i = V.str j) = (i == j) := by
  rw [Bool.eq_iff_iff]
  simp
theorem dec_byt {i j : Array UInt8} : decide (V.byt i = V.byt j) = (i.toList == j.toList) := by
  rw [Bool.eq_iff_iff]
  cases i
  cases j
  simp

section
variable {X : Cx} {a b c : Expr} {ta tb tc : TE} {pos : Pos}
theorem fin_bl {pins : List (Addr × Obj)} {σ : St} {H : Hp} {s : Shared} {Q : VK} {k k' : Bool} (I : Inv X pins σ H s) (q : Q (.bl k) H) (e : k = k') : EP X pins σ Q (.bool k') s := by
  subst e
  exact ⟨.bl k, H, I, rfl, q⟩
theorem op_eq : OpR X (compareOp .Eq) rEq := by
  intro pins s σ H x y v u Q I rx ry h
  obtain ⟨hs, q⟩ := h
  cases x with
  | non =>
    cases rx
    cases y with
    | non => cases ry; exact PySem.EqNone.eq_none_none (fin_bl I q (by simp))
    | bl j => cases ry; exact PySem.EqNone.eq_none_bool (fin_bl I q (by simp))
    | int j => obtain ⟨t', rfl⟩ := ry; exact PySem.EqNone.eq_none_int (fin_bl I q (by simp))
    | str j => obtain ⟨t', rfl⟩ := ry; exact PySem.EqNone.eq_none_str (fin_bl I q (by simp))
    | _ => exact absurd (show false = true from hs) Bool.false_ne_true
  | bl i =>
    cases rx
    cases y with
    | non => cases ry; exact PySem.EqNone.eq_bool_none (fin_bl I q (by simp))
    | bl j => cases ry; exact eq_bool (fin_bl I q dec_bl)
    | str j => obtain ⟨t', rfl⟩ := ry; exact PySem.EqMixed.eq_bool_str (fin_bl I q (by simp))
    | _ => exact absurd (show false = true from hs) Bool.false_ne_true
  | int i =>
    obtain ⟨t, rfl⟩ := rx
    cases y with
    | non => cases ry; exact PySem.EqNone.eq_int_none (fin_bl I q (by simp))
    | int j => obtain ⟨t', rfl⟩ := ry; exact eq_int (fin_bl I q dec_int)
    | str j => obtain ⟨t', rfl⟩ := ry; exact PySem.EqMixed.eq_int_str (fin_bl I q (by simp))
    | _ => exact absurd (show false = true from hs) Bool.false_ne_true
  | str i =>
    obtain ⟨t, rfl⟩ := rx
    cases y with
    | non => cases ry; exact PySem.EqNone.eq_str_none (fin_bl I q (by simp))
    | bl j => cases ry; exact PySem.EqMixed.eq_str_bool (fin_bl I q (by simp))
    | int j => obtain ⟨t', rfl⟩ := ry; exact PySem.EqMixed.eq_str_int (fin_bl I q (by simp))
    | str j => obtain ⟨t', rfl⟩ := ry; exact eq_str (fin_bl I q dec_str)
    | _ => exact absurd (show false = true from hs) Bool.false_ne_true
  | byt i =>
    obtain ⟨t, rfl⟩ := rx
    cases y with
    | byt j => obtain ⟨t', rfl⟩ := ry; exact PySem.W.eq_bytes (fin_bl I q dec_byt)
    | _ => exact absurd (show false = true from hs) Bool.false_ne_true
  | _ => cases y <;> exact absurd (show false = true from hs) Bool.false_ne_true
theorem op_ne : OpR X (compareOp .NotEq) rNe := by
  intro pins s σ H x y v u Q I rx ry h
  obtain ⟨hs, q⟩ := h
  cases x with
  | non =>
    cases rx
    cases y with
    | non => cases ry; exact PySem.EqNone.ne_none_none (fin_bl I q (by simp))
    | bl j => cases ry; exact PySem.EqNone.ne_none_bool (fin_bl I q (by simp))
    | int j => obtain ⟨t', rfl⟩ := ry; exact PySem.EqNone.ne_none_int (fin_bl I q (by simp))
    | str j => obtain ⟨t', rfl⟩ := ry; exact PySem.EqNone.ne_none_str (fin_bl I q (by simp))
    | _ => exact absurd (show false = true from hs) Bool.false_ne_true
  | bl i =>
    cases rx
    cases y with
    | non => cases ry; exact PySem.EqNone.ne_bool_none (fin_bl I q (by simp))
    | bl j => cases ry; exact ne_bool (fin_bl I q (congrArg not dec_bl))
    | str j => obtain ⟨t', rfl⟩ := ry; exact PySem.EqMixed.ne_bool_str (fin_bl I q (by simp))
    | _ => exact absurd (show false = true from hs) Bool.false_ne_true
  | int i =>
    obtain ⟨t, rfl⟩ := rx
    cases y with
    | non => cases ry; exact PySem.EqNone.ne_int_none (fin_bl I q (by simp))
    | int j => obtain ⟨t', rfl⟩ := ry; exact ne_int (fin_bl I q (congrArg not dec_int))
    | str j => obtain ⟨t', rfl⟩ := ry; exact PySem.EqMixed.ne_int_str (fin_bl I q (by simp))
    | _ => exact absurd (show false = true from hs) Bool.false_ne_true
  | str i =>
    obtain ⟨t, rfl⟩ := rx
    cases y with
    | non => cases ry; exact PySem.EqNone.ne_str_none (fin_bl I q (by simp))
    | bl j => cases ry; exact PySem.EqMixed.ne_str_bool (fin_bl I q (by simp))
    | int j => obtain ⟨t', rfl⟩ := ry; exact PySem.EqMixed.ne_str_int (fin_bl I q (by simp))
    | str j => obtain ⟨t', rfl⟩ := ry; exact ne_str (fin_bl I q (congrArg not dec_str))
    | _ => exact absurd (show false = true from hs) Bool.false_ne_true
  | byt i =>
    obtain ⟨t, rfl⟩ := rx
    cases y with
    | byt j => obtain ⟨t', rfl⟩ := ry; exact PySem.W.ne_bytes (fin_bl I q (congrArg not dec_byt))
    | _ => exact absurd (show false = true from hs) Bool.false_ne_true
  | _ => cases y <;> exact absurd (show false = true from hs) Bool.false_ne_true

theorem op_le : OpR X (compareOp .LtE) (rI0 fun i j => .bl (decide (i ≤ j))) := opB0 fun _ _ _ _ _ _ _ q => le_int q
theorem op_gt : OpR X (compareOp .Gt) (rI0 fun i j => .bl (decide (j < i))) := opB0 fun _ _ _ _ _ _ _ q => gt_int q
theorem op_ge : OpR X (compareOp .GtE) (rI0 fun i j => .bl (decide (j ≤ i))) := opB0 fun _ _ _ _ _ _ _ q => ge_int q



/-- two rules for one operation: by cases -/
theorem OpR.or {f : Value → Value → Sem Value} {r r' : R2} (h : OpR X f r) (h' : OpR X f r') : OpR X f (fun x y H Q => r x y H Q ∨ r' x y H Q) := by
  intro pins s σ H x y v u Q I rx ry q
  rcases q with q | q
  · exact h pins s σ H x y v u Q I rx ry q
  · exact h' pins s σ H x y v u Q I rx ry q

theorem nomark (b : Expr) {op : CmpOp} (h : op ≠ .In := by decide) (h2 : op ≠ .NotIn := by decide) : behindInMarks op b = false := by
  have e1 : (op == CmpOp.In) = false := by cases op <;> first | rfl | exact absurd rfl h
  have e2 : (op == CmpOp.NotIn) = false := by cases op <;> first | rfl | exact absurd rfl h2
  cases b <;> simp [behindInMarks, e1, e2]
/-- a comparison as a value; hm: nomark b, or (for in, not in) by with_unfolding_all rfl -/
theorem pe_cmpR {op : CmpOp} {r : R2} (ho : OpR X (compareOp op) r) (ha : PE X a ta) (hb : PE X b tb) (hm : behindInMarks op b = false) : PE X (.Compare a [op] [b] pos) (tOp r ta tb) := by
  intro pins s σ H Q I h
  exact wpAny_Compare1 (binT ha hb I h fun v u s2 x y H2 I2 rx ry q => ho pins s2 σ H2 x y v u Q I2 rx ry q) hm
/-- a reading of a value as a test -/
def tTest (t : TE) : TT := fun σ H Q => t σ H fun x H' => ∃ k, x = .bl k ∧ Q k H'
theorem pt_cmpR {op : CmpOp} {r : R2} (ho : OpR X (compareOp op) r) (ha : PE X a ta) (hb : PE X b tb) (hm : behindInMarks op b = false) : PT X (.Compare a [op] [b] pos) (tTest (tOp r ta tb)) := by
  intro pins s σ H Q I h
  refine wpAny_isTrue_Compare1 (thn (ha pins s σ H _ I h) fun v s1 ⟨x, H1, I1, r1, q1⟩ => thn (hb pins s1 σ H1 _ I1 q1) fun u s2 ⟨y, H2, I2, r2, q2⟩ =>
    thn (ho pins s2 σ H2 x y v u _ I2 r1 r2 q2) fun c s3 ⟨z, H3, I3, r3, k, e, q3⟩ => ?_) hm
  subst e
  cases r3
  exact wpAny_truthy_bool ⟨H3, I3, q3⟩
/-- a op1 b op2 c -/
def tChain (r r' : R2) (ta tb tc : TE) : TE := fun σ H Q => ta σ H fun x H1 => tb σ H1 fun y H2 => r x y H2 fun z H3 => ∃ k, z = .bl k ∧
  (if k = true then tc σ H3 fun w' H4 => r' y w' H4 Q else Q (.bl false) H3)
theorem pe_chain {op op' : CmpOp} {r r' : R2} (ho : OpR X (compareOp op) r) (ho' : OpR X (compareOp op') r') (ha : PE X a ta) (hb : PE X b tb) (hc : PE X c tc)
    (hm : lastMarks [op, op'] [b, c] = false := by with_unfolding_all rfl) : PE X (.Compare a [op, op'] [b, c] pos) (tChain r r' ta tb tc) := by
  intro pins s σ H Q I h
  refine Compare_chain (thn (ha pins s σ H _ I h) fun v s1 ⟨x, H1, I1, r1, q1⟩ => chain_link (thn (hb pins s1 σ H1 _ I1 q1) fun u s2 ⟨y, H2, I2, r2, q2⟩ =>
    thn (ho pins s2 σ H2 x y v u _ I2 r1 r2 q2) fun d s3 ⟨z, H3, I3, r3, k, e, q3⟩ => ?_)) hm
  subst e
  cases r3
  refine wpAny_truthy_bool ?_
  cases k with
  | false => exact ite_ff ⟨.bl false, H3, I3, rfl, q3⟩
  | true => exact ite_tt (chain_last (thn (hc pins s3 σ H3 _ I3 q3) fun w' s4 ⟨z', H4, I4, r4, q4⟩ => ho' pins s4 σ H4 y z' u w' Q I4 r2 r4 q4))

/-! ### truth -/
theorem line63 : (sizeLine : Nat) < 2 ^ 63 := by rw [sizeLine_eq]; decide

/-! ### strs and bytes -/


/-! ### scalar builtins, by CallR -/
theorem vals1 {x : V} {us : List Value} (r : Vals [x] us) : ∃ u, us = [u] ∧ RelV x u := by
  cases r with
  | cons r1 r2 => cases r2; exact ⟨_, rfl, r1⟩
end
end L2

namespace L2
open PySem PySem.Spec PyProof.Rows

/-! ### an instance, its attributes a map -/
structure ObjM (h : Heap) (x dx C : Addr) (mA : Str → Option Value) : Prop where
  obj : h.get? x = some (PySem.W.instObj C dx)
  ns : h.Ns1 dx mA
  ne : dx ≠ x

theorem lookIn_ns {h : Heap} {dx : Addr} {mA : Str → Option Value} (n : h.Ns1 dx mA) : ∃ od, h.get? dx = some od ∧ ∀ name, PySem.W.lookIn name od = some (mA name) := by
  obtain ⟨o, es, ep, ho, hd, hk, _, hm⟩ := n
  refine ⟨o, ho, fun name => ?_⟩
  have e := hm name
  unfold nsFind findBy at e
  rw [← Array.find?_toList] at e
  unfold PySem.W.lookIn
  rw [hd]
  dsimp only
  split
  · rename_i y q
    rw [q] at e
    exact congrArg some e
  · rename_i q
    rw [q] at e
    have a : es.toList.any (·.refKey) = false := by
      rw [List.any_eq_false]
      intro y hy
      obtain ⟨z, t, hkey⟩ := hk y (Array.mem_toList_iff.mp hy)
      simp [DictEntry.refKey, hkey]
    have a' : ¬ es.toList.any (·.refKey) = true := by rw [a]; exact Bool.false_ne_true
    rw [if_neg a']
    exact congrArg some e

theorem ObjM.look {h : Heap} {x dx C : Addr} {mA : Str → Option Value} (I : ObjM h x dx C mA) : ∃ od, PySem.W.InstAt h x (PySem.W.instObj C dx) C (some od) ∧ ∀ name, PySem.W.lookIn name od = some (mA name) :=
  let ⟨od, ho, hl⟩ := lookIn_ns I.ns
  ⟨od, ⟨I.obj, rfl, rfl, ho⟩, hl⟩

section
variable {prog : Program} {w : World} {A : Around} {E : Value → Shared → Prop} {s : Shared} {K : PySem.W.Frag} {x dx C f : Addr} {mA : Str → Option Value} {name : Str} {v : Value}





end

/-! ### the attributes as a list of pairs -/


section
variable {P : Program} {w : World} {H H' : Hp} {h h' : Heap} {a C dx : Addr} {fs fs' : List (Str × V)}
end

/-! ### what of the text a class must have -/
structure Cls (K : PySem.W.Frag) (C : Addr) : Prop where
  pg : PySem.W.plainGet K C Str.empty = true
  hd : PySem.W.hasDictIn K C = true
  po : PySem.W.plainOver K C = true
  sa : PySem.W.findIn K (.ref C) "__setattr__" = some (some (.builtin "object.__setattr__"))
theorem Cls.get {K : PySem.W.Frag} {C : Addr} (c : Cls K C) (f : Str) : PySem.W.plainGet K C f = true := c.pg
/-- a constant of the class -/
structure Con (K : PySem.W.Frag) (C : Addr) (f : Str) (v : V) (u : Value) : Prop where
  at_ : PySem.W.findIn K (.ref C) f = some (some u)
  rel : RelV v u
  get : PySem.W.specialIn K u "__get__" = some none
  cp : PySem.W.copiedNames.contains f = false
/-- a method: a plain def of the class or of one above it -/
structure Meth (K : PySem.W.Frag) (C : Addr) (m : Str) (f : Addr) : Prop where
  at_ : PySem.W.findIn K (.ref C) m = some (some (.ref f))
  fn : PySem.W.isFn K (.ref f) = true
  kp : PySem.W.keepIn K (.ref f) = true

section
variable {X : Cx} {pins : List (Addr × Obj)} {σ : St} {H : Hp} {s : Shared} {a C dx : Addr} {fs : List (Str × V)} {f : Str} {v : V} {A : Around} {E : Value → Shared → Prop}





/-- a new instance, tracked, without attributes -/
theorem Inv.made (I : Inv X pins σ H s) : Inv X pins σ (upd (upd H s.heap.objs.size (.own (s.heap.objs.size + 1))) (s.heap.objs.size + 1) (.ins C s.heap.objs.size []))
    { s with heap := (s.heap.push PySem.W.emptyDict).push (PySem.W.instObj C s.heap.objs.size) } := by
  have e1 : (s.heap.push PySem.W.emptyDict).get? s.heap.objs.size = some PySem.W.emptyDict := Heap.get?_push_size s.heap rfl
  have e2 : ((s.heap.push PySem.W.emptyDict).push (PySem.W.instObj C s.heap.objs.size)).get? (s.heap.objs.size + 1) = some (PySem.W.instObj C s.heap.objs.size) := by
    have := Heap.get?_push_size (s.heap.push PySem.W.emptyDict) (o := PySem.W.instObj C s.heap.objs.size) rfl
    rwa [Heap.size_push] at this
  have e3 : (s.heap.push PySem.W.emptyDict).Ns s.heap.objs.size (fun _ => none) := ⟨PySem.W.emptyDict, #[], _, e1, rfl, (fun e he => absurd he (by simp)), fun _ => rfl⟩
  have I1 := I.laid (a := s.heap.objs.size) (o := .own (s.heap.objs.size + 1)) (h' := s.heap.push PySem.W.emptyDict) (t' := s.toks) (fun b u q => Heap.get?_push_of_some _ q) (Nat.le_refl _) ⟨_, e1⟩
  refine I1.laid (a := s.heap.objs.size + 1) (o := .ins C s.heap.objs.size []) (t' := s.toks) (fun b u q => Heap.get?_push_of_some _ q) (Nat.le_of_eq (Heap.size_push _ _)) ?_
  have ne : s.heap.objs.size ≠ s.heap.objs.size + 1 := Nat.ne_of_lt (Nat.lt_succ_self _)
  refine ⟨by rw [upd_ne ne, upd_same], Nat.zero_le _, ne, e2, fun _ => none, (Heap.Ns1.of_empty e3).at fun o q => Heap.get?_push_of_some _ q, fun _ => True.intro, fun y hy => absurd rfl hy⟩

end

/-! ### readings and rules -/

section
variable {X : Cx} {o e value : Expr} {f : Str} {pos pos' tpos : Pos} {ta tv : TE}

end

/-! ### isinstance -/
section
variable {X : Cx} {pins : List (Addr × Obj)} {σ : St} {H : Hp} {s : Shared} {A : Around} {E : Value → Shared → Prop} {Q : Value → Shared → Prop} {c : Value} {b : Bool}
/-- the type of a value, as the fragment's deciders take it; for an instance its class -/
inductive TyOf (K : PySem.W.Frag) (H : Hp) : V → Value → Prop where
  | non : TyOf K H .non (.type "NoneType")
  | bl (x : Bool) : TyOf K H (.bl x) (.type "bool")
  | int (i : Int) : TyOf K H (.int i) (.type "int")
  | str (x : Str) : TyOf K H (.str x) (.type "str")
  | flt (x : UInt64) : TyOf K H (.flt x) (.type "float")
  | lst {a : Addr} {xs : List V} (e : H a = some (.lst xs)) : TyOf K H (.ref a) (.type "list")
  | frz {a : Addr} {o : Obj} {xs : List V} (e : H a = some (.frz o (.lst xs))) : TyOf K H (.ref a) (.type "list")
  | tup {a : Addr} {xs : List V} (e : H a = some (.tup xs)) : TyOf K H (.ref a) (.type "tuple")
  | dK {a : Addr} {kvs : List (Key × V)} (e : H a = some (.dK kvs)) : TyOf K H (.ref a) (.type "dict")
  | dT {a : Addr} {kvs : List (List Key × V)} (e : H a = some (.dT kvs)) : TyOf K H (.ref a) (.type "dict")
  | ins {a C dx : Addr} {fs : List (Str × V)} (e : H a = some (.ins C dx fs)) (cl : Cls K C) (ha : PySem.W.findIn K (.ref C) "__class__" = some (some (.builtin "object.__class__")))
      (hn : PySem.W.specialIn K (.builtin "object.__class__") "__get__" = some (some (.builtin "getset_descriptor.__get__"))) (htk : PySem.W.takesIn K (.builtin "object.__class__") = some true)
      (hm : PySem.W.mroIn K C (.type "object") = some true) : TyOf K H (.ref a) (.ref C)
end
end L2

namespace L2
open PySem PySem.Spec PyProof.Rows

/-! ### room -/
structure Room (k : Nat) (A : Around) : Prop where
  hd : A.handled = none
  dp : A.depth + 3 * k + 5 < recursionLimit
  un : A.units + 16 * k + 200 < cLine
theorem Room.mono {j k : Nat} {A : Around} (r : Room k A) (h : j ≤ k) : Room j A := ⟨r.hd, by have := r.dp; omega, by have := r.un; omega⟩
theorem Room.deeper {k : Nat} {A : Around} (r : Room (k + 1) A) (env : Env) : Room k (A.deeper env) :=
  ⟨r.hd, by have := r.dp; show A.depth + 1 + 3 * k + 5 < _; omega, by have := r.un; show A.units + 3 + 16 * k + 200 < _; omega⟩
theorem Room.in1 {k : Nat} {A : Around} (r : Room (k + 1) A) : Room k A.in1 :=
  ⟨r.hd, by have := r.dp; show A.depth + 3 * k + 5 < _; omega, by have := r.un; show A.units + 1 + 16 * k + 200 < _; omega⟩
theorem Room.depth {k : Nat} {A : Around} (r : Room k A) : A.depth < recursionLimit := by have := r.dp; omega
theorem Room.units {k : Nat} {A : Around} (r : Room k A) : A.units + 64 < cLine := by have := r.un; omega

/-! ### argument lists and displays -/
def tNil : TA := fun _ H Q => Q [] H
def tCons (ta : TE) (tr : TA) : TA := fun σ H Q => ta σ H fun x H1 => tr σ H1 fun xs H2 => Q (x :: xs) H2
section
variable {X : Cx} {e : Expr} {es : List Expr} {te : TE} {t : TA} {pos : Pos}
theorem pa_nil : PA X [] tNil := fun _ _ _ _ H Q I h => Calls.spliced_nil ⟨[], H, I, .nil, h⟩
theorem pa_cons (ha : PE X e te) (hr : PA X es t) (hs : starEach (e :: es) X.env = (false, eval e X.env) :: starEach es X.env := by rfl) : PA X (e :: es) (tCons te t) := by
  intro pos pins s σ H Q I h
  rw [hs]
  show wpAny _ _ (spliced ((false, eval e X.env) :: backTo pos (starEach es X.env))) _ _ s
  refine Calls.spliced_cons (thn (ha pins s σ H _ I h) fun u s1 ⟨x, H1, I1, r1, q1⟩ => ?_)
  exact thn (hr pos pins s1 σ H1 _ I1 q1) fun us s2 ⟨xs, H2, I2, r2, q2⟩ => ⟨x :: xs, H2, I2, .cons r1 r2, q2⟩

def tLst (t : TA) : TE := fun σ H Q => t σ H fun xs H1 => xs.length ≤ sizeLine ∧ ∀ p, H1 p = none → Q (.ref p) (upd H1 p (.lst xs))
theorem pe_lst (h : PA X es t) : PE X (.List es pos) (tLst t) := by
  intro pins s σ H Q I hq
  refine wpAny_List_spliced (thn (h pos pins s σ H _ I hq) fun us s1 ⟨xs, H1, I1, r, z, q⟩ => ⟨by rw [← r.length]; exact z, ?_⟩)
  have hf : H1 s1.heap.objs.size = none := I1.hok.fresh (Nat.le_refl _)
  refine ⟨.ref s1.heap.objs.size, upd H1 s1.heap.objs.size (.lst xs), I1.laid (t' := s1.toks) (fun b u e => Heap.get?_push_of_some _ e) (Nat.le_refl _) ?_, rfl, q _ hf⟩
  exact ⟨z, us, 0, r, Heap.get?_push_size _ rfl⟩
end

/-! ### what a def promises -/
/-- a def's promise: the bound arguments in the parameters' order, the heap, the wanted end, the wanted exception -/
abbrev Sp := List V → Hp → VK → XK → Prop
/-- how an exception lies behind a call (file 08 gives it): the callers' frames, abstract heap and state ahead of the call, the wish, the exception, the state -/
abbrev CXT := List Env → Hp → Shared → XK → Value → Shared → Prop

/-- the state at a call -/
structure Env0 (P : Program) (w : World) (K : PySem.W.Frag) (mg : Str → Option Value) (base : Heap) (A : Around) (outer : List Env) (s : Shared) (H : Hp) : Prop where
  frames : A.frames = some outer
  mod : Mod K mg base
  bs : ∀ b o, base.get? b = some o → s.heap.get? b = some o ∧ H b = none
  bsz : base.objs.size ≤ s.heap.objs.size
  funs : s.heap.FunFrames base outer
  frf : ∀ b ∈ frs outer, H b = none
  hok : HOk P w H s.heap
  bare : AllBare s.gens
/-- a call's end -/
def CE (outer : List Env) (P : Program) (w : World) (H : Hp) (s : Shared) (Q : VK) (u : Value) (s' : Shared) : Prop :=
  ∃ v H', s'.os = s.os ∧ AllBare s'.gens ∧ Un (frs outer) [] H H' s.heap s'.heap ∧ HOk P w H' s'.heap ∧ RelV v u ∧ Q v H'
def CR (CX : CXT) (outer : List Env) (P : Program) (w : World) (H : Hp) (s : Shared) (Q : VK) (E : XK) (r : Result) (s' : Shared) : Prop :=
  match r with
  | .ok (.ret u) => CE outer P w H s Q u s'
  | .ok _ => False
  | .error e => CX outer H s E e s'
structure FnOk (P : Program) (w : World) (K : PySem.W.Frag) (mg : Str → Option Value) (base : Heap) (CX : CXT) (k : Nat) (f : Addr) (fd : FuncData) (ps : List Str) (sp : Sp) : Prop where
  len : ∀ vs H Q E, sp vs H Q E → vs.length = ps.length
  run : ∀ (A : Around) (outer : List Env) (s : Shared) (H : Hp) (args : Args) (us : List Value) (vs : List V) (Q : VK) (E : XK), Room k A → Env0 P w K mg base A outer s H → BindsTo s fd args (ps.zip us) → Vals vs us → sp vs H Q E →
    codeAny (model P w) A (.call (.ref f) args) (CR CX outer P w H s Q E) s
theorem FnOk.mono {P : Program} {w : World} {K : PySem.W.Frag} {mg : Str → Option Value} {base : Heap} {CX : CXT} {j k : Nat} {f : Addr} {fd : FuncData} {ps : List Str} {sp : Sp} (F : FnOk P w K mg base CX j f fd ps sp) (h : j ≤ k) :
    FnOk P w K mg base CX k f fd ps sp := ⟨F.len, fun A outer s H args us vs Q E hr => F.run A outer s H args us vs Q E (hr.mono h)⟩
/-- a weaker promise -/
theorem FnOk.imp {P : Program} {w : World} {K : PySem.W.Frag} {mg : Str → Option Value} {base : Heap} {CX : CXT} {k : Nat} {f : Addr} {fd : FuncData} {ps : List Str} {sp sp' : Sp} (F : FnOk P w K mg base CX k f fd ps sp)
    (h : ∀ vs H Q E, sp' vs H Q E → sp vs H Q E) : FnOk P w K mg base CX k f fd ps sp' :=
  ⟨fun vs H Q E q => F.len vs H Q E (h _ _ _ _ q), fun A outer s H args us vs Q E hr he hb hv hs => F.run A outer s H args us vs Q E hr he hb hv (h _ _ _ _ hs)⟩

theorem Env0.in1 {P : Program} {w : World} {K : PySem.W.Frag} {mg : Str → Option Value} {base : Heap} {A : Around} {outer : List Env} {s : Shared} {H : Hp} (e : Env0 P w K mg base A outer s H) :
    Env0 P w K mg base A.in1 outer s H := ⟨e.frames, e.mod, e.bs, e.bsz, e.funs, e.frf, e.hok, e.bare⟩

section
variable {X : Cx} {pins : List (Addr × Obj)} {σ : St} {H : Hp} {s s' : Shared}
/-- from a body: what a callee wants -/
theorem Inv.env0 (I : Inv X pins σ H s) : Env0 X.prog X.w X.K X.mg X.base X.A X.stack s H :=
  ⟨I.ok.frames, I.ok.mod, I.bs, Nat.le_trans I.ok.bsz I.sz, I.stack, I.stkFree, I.hok, I.bare⟩
/-- behind a call -/
theorem Inv.after {Q : VK} {u : Value} (I : Inv X pins σ H s) (h : CE X.stack X.prog X.w H s Q u s') : EP X pins σ Q u s' := by
  obtain ⟨v, H', os, bare, un, hok, r, q⟩ := h
  obtain ⟨hh, g, d, t, os'⟩ := s'
  obtain rfl : os' = s.os := os
  exact ⟨v, H', I.call (h' := hh) (g' := g) (d' := d) (t' := t) (ch := []) un hok bare (fun b z => absurd z (by simp)), r, q⟩
end

/-! ### calls -/
/-- f(..): the written arguments, then the defaults dvs; E: what is wanted of an exception -/
def tCall (sp : Sp) (dvs : List V) (E : XK) (t : TA) : TE := fun σ H Q => t σ H fun vs H1 => sp (vs ++ dvs) H1 Q E

/-- how the parameters are bound: us the positional arguments, kw the keywords' values by name, ds the defaults that fill up -/
def Binds (K : PySem.W.Frag) (fd : FuncData) (ps : List Str) (ds : List Value) : Prop :=
  ∀ (s : Shared) (us : List Value), K.In s.heap → (us ++ ds).length = ps.length → BindsTo s fd ⟨us, []⟩ (ps.zip (us ++ ds))
/-- every parameter is given -/
theorem Binds.all {K : PySem.W.Frag} {fd : FuncData} {ps : List Str} (h : ∀ us : List Value, us.length = ps.length → bindArgs fd ⟨us, []⟩ = pure (ps.zip us)) : Binds K fd ps [] := fun s us _ hl => by
  rw [List.append_nil] at hl ⊢
  exact .of_eq (h us hl)

/-- an exception of a callee reaches what this body wants of exceptions -/
def Passes (CX : CXT) (X : Cx) (E : XK) : Prop := ∀ (pins : List (Addr × Obj)) (σ : St) (H : Hp) (s : Shared) (e : Value) (s' : Shared), Inv X pins σ H s → CX X.stack H s E e s' → X.xe e s'

section
variable {X : Cx} {CX : CXT} {k : Nat} {f C : Addr} {fd : FuncData} {ps : List Str} {sp : Sp} {dvs : List V} {ds : List Value} {E : XK} {x m : Str} {p pos apos : Pos} {e o : Expr} {es : List Expr} {ta : TE} {t : TA}

/-- the callee runs -/
theorem run_fn {pins : List (Addr × Obj)} {σ : St} {H : Hp} {s : Shared} {Q : VK} {us : List Value} {vs : List V} (F : FnOk X.prog X.w X.K X.mg X.base CX k f fd ps sp) (hr : Room k X.A) (hb : Binds X.K fd ps ds) (hd : Vals dvs ds) (hx : Passes CX X E)
    (I : Inv X pins σ H s) (r : Vals vs us) (h : sp (vs ++ dvs) H Q E) : wpAny (model X.prog X.w) X.A (call (.ref f) us) (EP X pins σ Q) X.xe s := by
  have r2 : Vals (vs ++ dvs) (us ++ ds) := r.append hd
  have hl : (us ++ ds).length = ps.length := by rw [← r2.length]; exact F.len _ _ _ _ h
  refine wpAny_call (codeAny_mono (F.run X.A X.stack s H ⟨us, []⟩ (us ++ ds) (vs ++ dvs) Q E hr I.env0 (hb s us I.kIn hl) r2 h) fun r s' hq => ?_)
  cases r with
  | error e => exact hx pins σ H s e s' I hq
  | ok fl =>
    cases fl with
    | ret u => exact I.after hq
    | next => exact False.elim hq
    | brk => exact False.elim hq
    | cont => exact False.elim hq

theorem pe_call (F : FnOk X.prog X.w X.K X.mg X.base CX k f fd ps sp) (hr : Room k X.A) (hg : Gl X x) (hm : X.mg x = some (.ref f)) (hk : PySem.W.keepIn X.K (.ref f) = true) (hb : Binds X.K fd ps ds) (hd : Vals dvs ds) (hx : Passes CX X E)
    (ha : PA X (e :: es) t) (hdb : (x == ("__debug__" : Str)) = false := by decide) (he : starEach (e :: es) X.env = (false, eval e X.env) :: starEach es X.env := by rfl) (hpl : (backTo pos (starEach es X.env)).any (·.1) = false := by rfl) :
    PE X (.Call (.Name x p) (e :: es) [] pos) (tCall sp dvs E t) := by
  intro pins s σ H Q I h
  refine wpAny_Call_Name_kw (ld_glob I hg hm ?_ hdb)
  refine PySem.W.callWith_K (h₀ := X.base) I.ok.mod.kin hk (thn (ha pos pins s σ H _ I h) fun us s1 ⟨vs, H1, I1, r, q⟩ => ⟨I1.kIn, ?_⟩) he hpl
  exact run_fn F hr hb hd hx I1 r q


/-- what a class must have to be made -/
structure Mk (K : PySem.W.Frag) (C f : Addr) : Prop where
  makes : PySem.W.makesIn K C = true
  init : PySem.W.findIn K (.ref C) "__init__" = some (some (.ref f))
  fn : PySem.W.isFn K (.ref f) = true
  kp : PySem.W.keepIn K (.ref C) = true

end

/-! ### keywords -/
section
variable {X : Cx} {CX : CXT} {k : Nat} {f C : Addr} {fd : FuncData} {ps ks : List Str} {sp : Sp} {E : XK} {x m : Str} {p pos apos kpos : Pos} {e o : Expr} {es : List Expr} {kws : List Keyword} {te ta : TE} {t tk : TA} {nm : Option Str}

/-- how a call with keywords binds: g puts the positional values us and the keywords' values ws (names ks) in the parameters' order, defaults among them -/
structure KBinds (K : PySem.W.Frag) (fd : FuncData) (ps ks : List Str) (g : List Value → List Value → List Value) (gV : List V → List V → List V) : Prop where
  to : ∀ (s : Shared) (us ws : List Value), K.In s.heap → (g us ws).length = ps.length → BindsTo s fd ⟨us, ks.zip ws⟩ (ps.zip (g us ws))
  rel : ∀ {vs : List V} {us : List Value} {zs : List V} {ws : List Value}, Vals vs us → Vals zs ws → Vals (gV vs zs) (g us ws)
variable {g : List Value → List Value → List Value} {gV : List V → List V → List V}
end

/-! ### a def's body keeps its promise -/
/-- names: the parameters first -/
structure FnScope (N P : List Str) (sc : Scope) : Prop where
  kind : sc.kind = .function
  co : sc.isCoroutine = false
  gen : sc.isGenerator = false
  nd : N.Nodup
  pre : N.take P.length = P
  par : ∀ x ∈ P, sc.names.lookup x = some .local ∨ sc.names.lookup x = some .cell
  nofree : ∀ y ∈ sc.names, y.2 ≠ .free

theorem bindL_out {kindOf : Str → Option NameKind} {x : Str} : ∀ {binds : List (Str × Value)} {m : Str → Option Value}, (∀ v, (x, v) ∉ binds) → bindL kindOf binds m x = m x
  | [], _, _ => rfl
  | (n, v) :: r, m, h => by
    unfold bindL
    rw [bindL_out fun w hw => h w (List.mem_cons_of_mem _ hw)]
    split
    · have : x ≠ n := by rintro rfl; exact h v List.mem_cons_self
      simp [this]
    · rfl
theorem bindC_out {kindOf : Str → Option NameKind} {x : Str} : ∀ {binds : List (Str × Value)} {m : Str → Option Value}, (∀ v, (x, v) ∉ binds) → bindC kindOf binds m x = m x
  | [], _, _ => rfl
  | (n, v) :: r, m, h => by
    unfold bindC
    rw [bindC_out fun w hw => h w (List.mem_cons_of_mem _ hw)]
    split
    · rfl
    · have : x ≠ n := by rintro rfl; exact h v List.mem_cons_self
      simp [this]
theorem bindL_get {kindOf : Str → Option NameKind} {x : Str} {v : Value} : ∀ {P : List Str} {vs : List Value} {i : Nat} {m : Str → Option Value}, P.Nodup → P[i]? = some x → vs[i]? = some v → kindOf x = some .local →
    bindL kindOf (P.zip vs) m x = some v
  | [], _, _, _, _, h, _, _ => by simp at h
  | _ :: _, [], _, _, _, _, h, _ => by simp at h
  | p :: P, w :: vs, 0, m, nd, h1, h2, hk => by
    simp at h1 h2; subst h1; subst h2
    show bindL kindOf ((p, w) :: P.zip vs) m p = _
    unfold bindL
    rw [bindL_out fun v hv => (List.nodup_cons.mp nd).1 (List.of_mem_zip hv).1, if_pos hk]
    simp
  | p :: P, w :: vs, i + 1, m, nd, h1, h2, hk => by
    show bindL kindOf ((p, w) :: P.zip vs) m x = _
    unfold bindL
    exact bindL_get (i := i) (List.nodup_cons.mp nd).2 (by simpa using h1) (by simpa using h2) hk
theorem bindC_get {kindOf : Str → Option NameKind} {x : Str} {v : Value} : ∀ {P : List Str} {vs : List Value} {i : Nat} {m : Str → Option Value}, P.Nodup → P[i]? = some x → vs[i]? = some v → kindOf x ≠ some .local →
    bindC kindOf (P.zip vs) m x = some v
  | [], _, _, _, _, h, _, _ => by simp at h
  | _ :: _, [], _, _, _, _, h, _ => by simp at h
  | p :: P, w :: vs, 0, m, nd, h1, h2, hk => by
    simp at h1 h2; subst h1; subst h2
    show bindC kindOf ((p, w) :: P.zip vs) m p = _
    unfold bindC
    rw [bindC_out fun v hv => (List.nodup_cons.mp nd).1 (List.of_mem_zip hv).1, if_neg hk]
    simp
  | p :: P, w :: vs, i + 1, m, nd, h1, h2, hk => by
    show bindC kindOf ((p, w) :: P.zip vs) m x = _
    unfold bindC
    exact bindC_get (i := i) (List.nodup_cons.mp nd).2 (by simpa using h1) (by simpa using h2) hk

/-- the names' values at the entry -/
def start (N : List Str) (vs : List V) : St := vs.map some ++ List.replicate (N.length - vs.length) none

/-- the context of a def's body, at its entry; an exception leaves the frame, then lies as CX says -/
def cxOf (CX : CXT) (P : Program) (w : World) (K : PySem.W.Frag) (mg : Str → Option Value) (base : Heap) (N : List Str) (qual : Str) (scope : Scope) (f : Addr) (cd : Value) (A : Around) (outer : List Env) (s : Shared) (H : Hp) (E : XK) : Cx where
  prog := P
  w := w
  K := K
  mg := mg
  base := base
  A := A.deeper (envOfC qual scope s.heap.objs.size f cd)
  N := N
  s_0 := s
  H_0 := H
  env := envOfC qual scope s.heap.objs.size f cd
  outer := outer
  stack := envOfC qual scope s.heap.objs.size f cd :: outer
  ex := []
  calm := true
  fn := fun _ => true
  pn := []
  xe := fun e s' => wpAny (model P w) (A.deeper (envOfC qual scope s.heap.objs.size f cd)) (leaving (envOfC qual scope s.heap.objs.size f cd) e) (fun _ s'' => CX outer H s E e s'') (fun e' s'' => CX outer H s E e' s'') s'

theorem cell_has {sc : Scope} {n : Nat} {x : Str} (h : sc.names.lookup x = some .cell) : ∃ c, (cellsFrom n sc.names []).lookup x = some c := by
  have q := PySem.W.cellsFrom_some sc.names n [] (.inl h)
  exact Option.isSome_iff_exists.mp q

theorem inv_start {CX : CXT} {P : Program} {w : World} {K : PySem.W.Frag} {mg : Str → Option Value} {base : Heap} {N ps : List Str} {qual : Str} {scope : Scope} {f : Addr} {cd : Value} {A : Around} {outer : List Env} {s s1 : Shared} {H : Hp} {E : XK} {us : List Value} {vs : List V}
    (S : FnScope N ps scope) (hd : A.handled = none) (e0 : Env0 P w K mg base A outer s H) (hl : vs.length = ps.length) (r : Vals vs us)
    (x : InCallC s s.heap.objs.size (bindL (envOfC qual scope s.heap.objs.size f cd).kindOf (ps.zip us) fun _ => none) (cellsFrom (s.heap.objs.size + 1) scope.names []) (bindC (envOfC qual scope s.heap.objs.size f cd).kindOf (ps.zip us) fun _ => none) s1) :
    Inv (cxOf CX P w K mg base N qual scope f cd A outer s H E) [] (start N vs) H s1 := by
  have hpl : ps.length ≤ N.length := by have := congrArg List.length S.pre; rw [List.length_take] at this; omega
  obtain ⟨h1, tk, rfl, hk⟩ := x.done
  have noA : ∀ b : Addr, b ∉ (cxOf CX P w K mg base N qual scope f cd A outer s H E).ex := fun b z => absurd (show b ∈ ([] : List Addr) from z) (by simp)
  refine ⟨⟨e0.mod, S.kind, rfl, rfl, Nat.le_refl _, fun y z c h1 h2 => ?_, fun y hy => ?_, fun y c _ h => ?_, fun _ => hd, Around.frames_deeper e0.frames, .inr ⟨rfl, rfl⟩, fun b z => absurd z (noA b), e0.bs, e0.bsz, fun b _ _ => noA b, fun b z => absurd z (noA b), e0.funs, e0.frf⟩,
    rfl, e0.bare, Un.kept hk, ⟨_, x.toInCall.ns, fun i y v h1 h2 h3 => ?_⟩, fun y c h => ⟨_, x.cell y c h⟩, e0.hok.fresh (Nat.le_refl _), fun y c h => ?_, fun p hp => absurd (show p ∈ ([] : List (Addr × Obj)) from hp) (by simp), e0.hok.kept hk, ?_⟩
  · exact name_of_addr x.apart (PySem.mem_of_lookup h1) (PySem.mem_of_lookup h2)
  · have hy : scope.names.lookup y = some .cell ∨ scope.names.lookup y = some .free := hy
    rcases hy with hy | hy
    · exact cell_has hy
    · exact absurd rfl (S.nofree _ (PySem.mem_of_lookup hy))
  · exact Nat.le_of_lt (x.above y c (PySem.mem_of_lookup h))
  · have hi : i < vs.length := by
      unfold start at h2
      by_cases hi : i < vs.length
      · exact hi
      · rw [List.getElem?_append_right (by simpa using hi)] at h2
        rw [List.getElem?_replicate] at h2
        split at h2 <;> cases h2
    have ha : vs[i]? = some v := by
      unfold start at h2
      rw [List.getElem?_append_left (by simpa using hi), List.getElem?_map] at h2
      cases e : vs[i]? with
      | none => rw [e] at h2; cases h2
      | some a => rw [e] at h2; cases h2; rfl
    obtain ⟨u, hu, rv⟩ := r.get ha
    have hp : ps[i]? = some y := by
      rw [← S.pre, List.getElem?_take_of_lt (by omega)]; exact h1
    have ndP : ps.Nodup := by rw [← S.pre]; exact S.nd.sublist (List.take_sublist _ _)
    refine ⟨u, rv, ?_⟩
    rcases S.par y (List.mem_of_getElem? hp) with k | k
    · exact .inl ⟨k, bindL_get ndP hp hu k⟩
    · obtain ⟨c, e⟩ := cell_has (n := s.heap.objs.size + 1) k
      refine .inr ⟨.inl k, c, e, ?_⟩
      have q := x.cell y c e
      rw [bindC_get ndP hp hu (by show scope.names.lookup y ≠ _; rw [k]; decide)] at q
      exact q
  · exact e0.hok.fresh (Nat.le_of_lt (x.above y c (PySem.mem_of_lookup h)))
  · unfold start
    show _ = N.length
    rw [List.length_append, List.length_map, List.length_replicate]
    omega

/-- THE RULE: a def (or a method) of the text, by its body. The body's reading t is chosen for each entry; it is run at the parameters' values -/
theorem fn_of {CX : CXT} {P : Program} {w : World} {K : PySem.W.Frag} {mg : Str → Option Value} {base : Heap} {k : Nat} {f : Addr} {name qual : Str} {params : Arguments} {body : List Stmt} {scope : Scope} {dV kV doc pm cdv ct oc : Value} {an od : Option Addr}
    {osl : Array (Option Value)} {N ps : List Str} {sp : Sp} (lk : K.lookup f = some ⟨oc, od, .func (PySem.W.fnOf name qual params body scope dV kV doc pm an cdv ct), osl⟩) (hcd : PySem.W.codeIn K cdv qual = true) (S : FnScope N ps scope)
    (len : ∀ vs H Q E, sp vs H Q E → vs.length = ps.length)
    (hbody : ∀ (A : Around) (outer : List Env) (s : Shared) (H : Hp) (vs : List V) (Q : VK) (E : XK), Room k (A.deeper (envOfC qual scope s.heap.objs.size f cdv)) → sp vs H Q E →
      ∃ t, PSs (cxOf CX P w K mg base N qual scope f cdv A outer s H E) body t ∧ t { nx := fun _ H' => Q .non H', rt := Q } (start N vs) H) :
    FnOk P w K mg base CX (k + 1) f (PySem.W.fnOf name qual params body scope dV kV doc pm an cdv ct) ps sp := by
  refine ⟨len, fun A outer s H args us vs Q E hr e0 hb r hsp => ?_⟩
  have hl := len _ _ _ _ hsp
  have KX : K.In s.heap := e0.mod.kin.keeps fun b o e => (e0.bs b o e).1
  have lim : s.heap.NoLimit := e0.mod.nolimit.keeps fun b o e => (e0.bs b o e).1
  have hkind : ∀ y ∈ ps.zip us, scope.names.lookup y.1 = some .local ∨ (scope.names.lookup y.1 = some .cell ∧ ((cellsFrom (s.heap.objs.size + 1) scope.names []).lookup y.1).isSome = true) := fun ⟨n, v⟩ hy => by
    rcases S.par n (List.of_mem_zip hy).1 with q | q
    · exact .inl q
    · exact .inr ⟨q, PySem.W.cellsFrom_some _ _ _ (.inl q)⟩
  refine codeAny_call_function hr.depth (KX _ _ lk) rfl S.co S.gen rfl (PySem.W.codeRec_of KX hcd) (hb _ _ _ _ ?_)
  refine wpAny_newFunctionEnv_cells S.kind hkind fun env he s1 x => ?_
  subst he
  refine ⟨lim.keeps x.toInCall.keep, codeAny_func ?_⟩
  obtain ⟨t, ht, hq⟩ := hbody A outer s H vs Q E (hr.deeper _) hsp
  have I : Inv (cxOf CX P w K mg base N qual scope f cdv A outer s H E) [] (start N vs) H s1 := inv_start S hr.hd e0 hl r x
  refine wpAny_mono (ht [] s1 (start N vs) H _ I hq) (fun fl s' hs => ?_) fun e s' hs => hs
  have fin : ∀ {σ' : St} {H' : Hp} {v : V} {u : Value}, Inv (cxOf CX P w K mg base N qual scope f cdv A outer s H E) [] σ' H' s' → RelV v u → Q v H' → CE outer P w H s Q u s' :=
    fun {σ' H' v u} J rv q => ⟨v, H', J.os, J.bare, J.base, J.hok, rv, q⟩
  cases fl with
  | ret u =>
    obtain ⟨v, σ', H', J, rv, q⟩ := hs
    exact fin J rv q
  | next =>
    obtain ⟨σ', H', J, q⟩ := hs
    exact fin (v := V.non) (u := Value.none) J rfl q
  | brk =>
    obtain ⟨_, _, _, q⟩ := hs
    exact False.elim q
  | cont =>
    obtain ⟨_, _, _, q⟩ := hs
    exact False.elim q
end L2

namespace L2
open PySem PySem.Spec PyProof.Rows
section
variable {X : Cx} {x : Str} {p pos : Pos} {e : Expr} {es : List Expr} {t : TA} {id T : String} {r : List V → Hp → VK → Prop}

def tCB (r : List V → Hp → VK → Prop) (t : TA) : TE := fun σ H Q => t σ H fun vs H1 => r vs H1 Q
/-- f(e, ..), f a built-in function -/
theorem pe_callB (hc : CallR X (.builtin id) r) (hg : Gl X x) (hm : X.mg x = none) (hv : bootBuiltins x = some (.builtin id)) (ha : PA X (e :: es) t) (hn : x ≠ "__name__" := by decide) (hdb : (x == ("__debug__" : Str)) = false := by decide)
    (he : starEach (e :: es) X.env = (false, eval e X.env) :: starEach es X.env := by rfl) (hpl : (backTo pos (starEach es X.env)).any (·.1) = false := by rfl) : PE X (.Call (.Name x p) (e :: es) [] pos) (tCB r t) := by
  intro pins s σ H Q I h
  refine wpAny_Call_Name_kw (ld_blt I hg hm hv ?_ hn hdb)
  exact PyProof.Rows.callWith_builtin1 (thn (ha pos pins s σ H _ I h) fun us s1 ⟨vs, H1, I1, r1, q1⟩ => hc pins s1 σ H1 vs us Q I1 r1 q1) he hpl
/-- T(e, ..), T a built-in type -/
theorem pe_callTy (hc : CallR X (.type T) r) (hg : Gl X x) (hm : X.mg x = none) (hv : bootBuiltins x = some (.type T)) (ha : PA X (e :: es) t) (hn : x ≠ "__name__" := by decide) (hdb : (x == ("__debug__" : Str)) = false := by decide)
    (he : starEach (e :: es) X.env = (false, eval e X.env) :: starEach es X.env := by rfl) (hpl : (backTo pos (starEach es X.env)).any (·.1) = false := by rfl) : PE X (.Call (.Name x p) (e :: es) [] pos) (tCB r t) := by
  intro pins s σ H Q I h
  refine wpAny_Call_Name_kw (ld_blt I hg hm hv ?_ hn hdb)
  exact PyProof.Rows.callWith_type1 (thn (ha pos pins s σ H _ I h) fun us s1 ⟨vs, H1, I1, r1, q1⟩ => hc pins s1 σ H1 vs us Q I1 r1 q1) he hpl
end
end L2

namespace HT
open PySem PyProof.Rows

/-- t < u of tuples of ints -/
def lexLt : List Int → List Int → Bool
  | [], [] => false
  | [], _ :: _ => true
  | _ :: _, [] => false
  | x :: xs, y :: ys => if x = y then lexLt xs ys else decide (x < y)


section
open PySem.SeqAt
open PySem.AutoSeq1 (wpAny_loadPart')
open PySem.MeetsSeq PySem.MeetsSeq2 PySem.MeetsSeq3

end

section
variable {prog : Program} {w : World} {A : Around} {E : Value → Shared → Prop} {s : Shared}



/-! ### t[a:b], not the whole -/
/-- a slice's bound as a place among n (d where it is left out) -/
def sIx (n d : Nat) : Option Int → Nat
  | none => d
  | some v => if v < 0 then (v + (n : Int)).toNat else min v.toNat n
theorem sIx_nat (n d k : Nat) : sIx n d (some (k : Int)) = min k n := by
  show (if (k : Int) < 0 then ((k : Int) + (n : Int)).toNat else min (k : Int).toNat n) = min k n
  rw [if_neg (by omega), Int.toNat_natCast]

end
end HT

namespace L2
open PySem PySem.Spec PyProof.Rows

/-! ### the parts of a slice -/
abbrev TO := St → Hp → (Option Int → Hp → Prop) → Prop
/-- a slice's part (left out, or an int) -/
def PO (X : Cx) (e : Option Expr) (t : TO) : Prop :=
  ∀ (pins : List (Addr × Obj)) (s : Shared) (σ : St) (H : Hp) (Q : Option Int → Hp → Prop), Inv X pins σ H s → t σ H Q →
    wpAny (model X.prog X.w) X.A (evalPart e X.env) (fun u s' => ∃ o H', Inv X pins σ H' s' ∧ IsPart u o ∧ Q o H') X.xe s
def tPart (t : TE) : TO := fun σ H Q => t σ H fun x H1 => ∃ i, x = .int i ∧ Q (some i) H1


section
variable {X : Cx} {e : Expr} {te : TE} {lo hi : Option Expr} {tl th : TO} {pos p2 : Pos}

theorem po_some (h : PE X e te) : PO X (some e) (tPart te) := by
  intro pins s σ H Q I hw
  rw [evalPart_some]
  refine thn (h pins s σ H _ I hw) fun u s1 ⟨x, H1, I1, r1, q1⟩ => ?_
  obtain ⟨i, rfl, q⟩ := q1
  obtain ⟨t, rfl⟩ := r1
  exact ⟨some i, H1, I1, .int i t, q⟩

/-- what a slice of a value is, by values: the slice object stands at sl -/
def SlR (X : Cx) (r : V → Option Int → Option Int → Hp → VK → Prop) : Prop :=
  ∀ (pins : List (Addr × Obj)) (s : Shared) (σ : St) (H : Hp) (x : V) (v vl vu : Value) (lo hi : Option Int) (sl : Addr) (Q : VK), Inv X pins σ H s → RelV x v → s.heap.IsSliceOf sl vl vu .none → IsPart vl lo → IsPart vu hi → r x lo hi H Q →
    ∃ T id, typeLookup (.type T) "__getitem__" = pure (some (.builtin id)) ∧ s.TypeIs v T ∧ wpAny (model X.prog X.w) X.A (getItem v (.ref sl)) (EP X pins σ Q) X.xe s
theorem SlR.or {r r' : V → Option Int → Option Int → Hp → VK → Prop} (h : SlR X r) (h' : SlR X r') : SlR X (fun x lo hi H Q => r x lo hi H Q ∨ r' x lo hi H Q) := by
  intro pins s σ H x v vl vu lo hi sl Q I rx hs pl pu q
  rcases q with q | q
  · exact h pins s σ H x v vl vu lo hi sl Q I rx hs pl pu q
  · exact h' pins s σ H x v vl vu lo hi sl Q I rx hs pl pu q
def tSl (r : V → Option Int → Option Int → Hp → VK → Prop) (te : TE) (tl th : TO) : TE := fun σ H Q => te σ H fun x H1 => tl σ H1 fun l H2 => th σ H2 fun u H3 => r x l u H3 Q
/-- a[lo:hi], any a -/
theorem pe_slice {r : V → Option Int → Option Int → Hp → VK → Prop} (hr : SlR X r) (he : PE X e te) (hl : PO X lo tl) (hu : PO X hi th) : PE X (.Subscript e (.Slice lo hi none p2) pos) (tSl r te tl th) := by
  intro pins s σ H Q I h
  refine Subscript_ (thn (he pins s σ H _ I h) fun v s1 ⟨x, H1, I1, r1, q1⟩ => ?_)
  refine wpAny_Slice (thn (hl pins s1 σ H1 _ I1 q1) fun vl s2 ⟨l, H2, I2, pl, q2⟩ => thn (hu pins s2 σ H2 _ I2 q2) fun vu s3 ⟨u, H3, I3, pu, q3⟩ => ?_)
  rw [evalPart_none]
  refine wpAny_pure ?_
  have I4 : Inv X pins σ H3 { s3 with heap := s3.heap.push { cls := .type "slice", data := .fields #[vl, vu, .none] } } := I3.kept (t' := s3.toks) fun b ob q => Heap.get?_push_of_some _ q
  obtain ⟨T, id, hT, ht, hg⟩ := hr pins { s3 with heap := s3.heap.push { cls := .type "slice", data := .fields #[vl, vu, .none] } } σ H3 x v vl vu l u s3.heap.objs.size Q I4 r1 (Heap.IsSliceOf.new ..) pl pu q3
  show wpAny (model X.prog X.w) X.A (subscriptTail e (.Slice lo hi none p2) v (.ref s3.heap.objs.size)) (EP X pins σ Q) X.xe { s3 with heap := s3.heap.push { cls := .type "slice", data := .fields #[vl, vu, .none] } }
  exact tail_any (ops := [.ref s3.heap.objs.size, v]) ht hT hg (by with_unfolding_all rfl)

/-- the items of xs[lo:hi] -/
def cutV (xs : List V) (lo hi : Option Int) : List V := (xs.drop (HT.sIx xs.length 0 lo)).take (HT.sIx xs.length xs.length hi - HT.sIx xs.length 0 lo)
theorem cutV_length (xs : List V) (lo hi : Option Int) : (cutV xs lo hi).length ≤ xs.length := by
  unfold cutV
  rw [List.length_take, List.length_drop]
  omega

/-! ### t < u, t + u -/
end
end L2

namespace L2
open PySem PySem.Spec PyProof.Rows

/-! ### places -/
/-- the place that an index of any sign means -/
def ixN (n : Nat) (i : Int) : Option Nat := if 0 ≤ i then (if i < n then some i.toNat else none) else if -(n : Int) ≤ i then some (i + n).toNat else none
def atI {α : Type} (xs : List α) (i : Int) : Option α := (ixN xs.length i).bind fun j => xs[j]?
theorem ixN_seq {n : Nat} {i : Int} {j : Nat} (h : ixN n i = some j) : seqIndex? i n = some j ∧ j < n ∧ -(n : Int) ≤ i ∧ i < n := by
  unfold ixN at h
  by_cases h0 : 0 ≤ i
  · rw [if_pos h0] at h
    by_cases h1 : i < n
    · rw [if_pos h1] at h
      have e : i.toNat = j := Option.some.inj h
      exact ⟨by rw [seqIndex_of h0 h1, e], by omega, by omega, h1⟩
    · rw [if_neg h1] at h; cases h
  · rw [if_neg h0] at h
    by_cases h1 : -(n : Int) ≤ i
    · rw [if_pos h1] at h
      have e : (i + n).toNat = j := Option.some.inj h
      exact ⟨by rw [seqIndex_neg (by omega) h1, e], by omega, h1, by omega⟩
    · rw [if_neg h1] at h; cases h
theorem atI_get {α : Type} {xs : List α} {i : Int} {v : α} (h : atI xs i = some v) : ∃ j, seqIndex? i xs.length = some j ∧ xs[j]? = some v ∧ j < xs.length ∧ -(xs.length : Int) ≤ i ∧ i < xs.length := by
  unfold atI at h
  cases e : ixN xs.length i with
  | none => rw [e] at h; cases h
  | some j =>
    rw [e] at h
    obtain ⟨h1, h2, h3, h4⟩ := ixN_seq e
    exact ⟨j, h1, h, h2, h3, h4⟩
theorem atI_nat {α : Type} {xs : List α} {j : Nat} {v : α} (h : xs[j]? = some v) : atI xs (j : Int) = some v := by
  have hj : j < xs.length := (List.getElem?_eq_some_iff.mp h).1
  have e : ixN xs.length (j : Int) = some j := by
    unfold ixN
    rw [if_pos (by omega), if_pos (by omega)]; simp
  unfold atI; rw [e]; exact h

/-! ### what may be subscripted -/
/-- what stands as an index of a plain subscript -/
def PlainIx (b : Expr) : Prop := ∀ o i, subscripted b false o i = operate [o, i] (getItem o i)
/-- a subscript by values -/
def IxR (X : Cx) (r : R2) : Prop :=
  ∀ (value slice : Expr) (pins : List (Addr × Obj)) (s : Shared) (σ : St) (H : Hp) (x y : V) (v u : Value) (Q : VK), Inv X pins σ H s → RelV x v → RelV y u → r x y H Q →
    subscripted slice false v u = operate [v, u] (getItem v u) → wpAny (model X.prog X.w) X.A (subscriptTail value slice v u) (EP X pins σ Q) X.xe s
/-- a call of a builtin's method by values: the receiver, the arguments -/
def MtR (X : Cx) (id : String) (r : V → List V → Hp → VK → Prop) : Prop :=
  ∀ (pins : List (Addr × Obj)) (s : Shared) (σ : St) (H : Hp) (x : V) (xs : List V) (v : Value) (us : List Value) (Q : VK), Inv X pins σ H s → RelV x v → Vals xs us → r x xs H Q →
    wpAny (model X.prog X.w) X.A (call (.builtin id) (v :: us)) (EP X pins σ Q) X.xe s
section
variable {X : Cx} {a b : Expr} {ta tb : TE} {pos : Pos}
theorem IxR.or {r r' : R2} (h : IxR X r) (h' : IxR X r') : IxR X (fun x y H Q => r x y H Q ∨ r' x y H Q) := by
  intro value slice pins s σ H x y v u Q I rx ry q hs
  rcases q with q | q
  · exact h value slice pins s σ H x y v u Q I rx ry q hs
  · exact h' value slice pins s σ H x y v u Q I rx ry q hs
theorem MtR.or {id : String} {r r' : V → List V → Hp → VK → Prop} (h : MtR X id r) (h' : MtR X id r') : MtR X id (fun x xs H Q => r x xs H Q ∨ r' x xs H Q) := by
  intro pins s σ H x xs v us Q I rx rs q
  rcases q with q | q
  · exact h pins s σ H x xs v us Q I rx rs q
  · exact h' pins s σ H x xs v us Q I rx rs q
/-- a[b] -/
theorem pe_ix {r : R2} (hr : IxR X r) (ha : PE X a ta) (hb : PE X b tb) (hs : PlainIx b) : PE X (.Subscript a b pos) (tOp r ta tb) := by
  intro pins s σ H Q I h
  exact Subscript_ (binT ha hb I h fun v u s2 x y H2 I2 rx ry q => hr a b pins s2 σ H2 x y v u Q I2 rx ry q (hs _ _))

def rIxL (K : PySem.W.Frag) : R2 := fun x y H Q => ∃ p xs i v, x = .ref p ∧ y = .int i ∧ SqL K H p xs ∧ atI xs i = some v ∧ Q v H
theorem ix_list : IxR X (rIxL X.K) := by
  intro value slice pins s σ H x y v u Q I rx ry h hs
  obtain ⟨p, xs, i, z, rfl, rfl, hq, he, q⟩ := h
  cases rx
  obtain ⟨t, rfl⟩ := ry
  obtain ⟨its, r, pl, hz⟩ := I.list hq
  obtain ⟨j, h1, h2, h3, h4, h5⟩ := atI_get he
  obtain ⟨w, ew, rw'⟩ := r.get h2
  have hl := r.length
  have hn := line63
  have fin : EP X pins σ Q w s := ⟨z, H, I, rw', q⟩
  by_cases h0 : 0 ≤ i
  · have hj : i.toNat = j := by
      rw [seqIndex_of h0 h5] at h1
      exact Option.some.inj h1
    exact item_listR pl.isList h0 (by omega) (by rw [hj]; simpa using ew) fin hs
  · have hj : (i + (its.toArray.size : Int)).toNat = j := by
      rw [seqIndex_neg (by omega) h4] at h1
      rw [List.size_toArray, ← hl]
      exact Option.some.inj h1
    exact subscriptTail_builtinR (x := w) pl.isList.typeIs slot_list_getitem.lookup
      (wpAny_getItem_list_neg (Q := fun r s' => r = w ∧ EP X pins σ Q r s') pl.isList (by omega) (by rw [List.size_toArray] <;> omega) (by omega) (by rw [hj]; simpa using ew) ⟨rfl, fin⟩) hs

/-! ### xs[i] = v, any sign -/
theorem Inv.lst {pins : List (Addr × Obj)} {σ : St} {H : Hp} {s : Shared} {p : Addr} {xs : List V} (I : Inv X pins σ H s) (h : H p = some (.lst xs)) :
    ∃ (its : List Value) (n : Nat), Vals xs its ∧ s.heap.get? p = some { cls := .type "list", data := .seq its.toArray n } ∧ xs.length ≤ sizeLine := by
  obtain ⟨z, its, n, r, e⟩ := I.hok p _ h
  exact ⟨its, n, r, e, z⟩

/-! ### slices -/
theorem slice_bounds (lo hi : Option Int) (n : Nat) : (sliceBounds lo hi none n).1 = ((HT.sIx n 0 lo : Nat) : Int) ∧ (sliceBounds lo hi none n).2.1 = ((HT.sIx n n hi : Nat) : Int) ∧ (sliceBounds lo hi none n).2.2 = 1 := by
  refine ⟨?_, ?_, rfl⟩
  · cases lo with
    | none => simp [sliceBounds, HT.sIx]
    | some i =>
      simp only [sliceBounds, HT.sIx, Option.getD_none, show (1 : Int) > 0 by decide, if_true]
      by_cases h : i < 0
      · simp only [h, if_true] <;> omega
      · simp only [h, if_false] <;> omega
  · cases hi with
    | none => simp [sliceBounds, HT.sIx]
    | some i =>
      simp only [sliceBounds, HT.sIx, Option.getD_none, show (1 : Int) > 0 by decide, if_true]
      by_cases h : i < 0
      · simp only [h, if_true] <;> omega
      · simp only [h, if_false] <;> omega
theorem slicePick_cut (its : List Value) (lo hi : Option Int) : slicePick its.toArray lo hi none = ((its.drop (HT.sIx its.length 0 lo)).take (HT.sIx its.length its.length hi - HT.sIx its.length 0 lo)).toArray := by
  obtain ⟨h1, h2, h3⟩ := slice_bounds lo hi its.toArray.size
  unfold slicePick
  rw [h1, h2, h3]
  simp only [sliceRange_one, pick_run, List.size_toArray] <;> rfl
/-- xs[lo:hi] of a list: a new list -/
def rSlL (K : PySem.W.Frag) : V → Option Int → Option Int → Hp → VK → Prop := fun x lo hi H Q => ∃ a xs, x = .ref a ∧ SqL K H a xs ∧ ∀ p, H p = none → Q (.ref p) (upd H p (.lst (cutV xs lo hi)))
theorem sl_list : SlR X (rSlL X.K) := by
  intro pins s σ H x v vl vu lo hi sl Q I rx hs pl pu h
  obtain ⟨a, xs, rfl, hx, q⟩ := h
  cases rx
  obtain ⟨its, r, ht, hz⟩ := I.list hx
  have hlen := r.length
  refine ⟨"list", _, slot_list_getitem.lookup, ht.isList.typeIs, ?_⟩
  refine wpAny_getItem_list_slice ht.isList hs pl pu .none (by simp) ?_ (by rw [List.size_toArray] <;> omega)
  rw [slicePick_cut, ← hlen]
  refine ⟨.ref s.heap.objs.size, _, I.laid (t' := s.toks) (o := .lst (cutV xs lo hi)) (fun b ob q => Heap.get?_push_of_some _ q) (Nat.le_refl _) ?_, rfl, q _ (I.hok.fresh (Nat.le_refl _))⟩
  exact ⟨Nat.le_trans (cutV_length xs lo hi) hz, _, 0, (r.drop (HT.sIx xs.length 0 lo)).take (HT.sIx xs.length xs.length hi - HT.sIx xs.length 0 lo), Heap.get?_push_size _ rfl⟩

/-! ### in, not in: flat items -/

/-! ### len, list(x), tuple(x) of any list or tuple that is read -/
theorem call_len_seq : CallR X (.builtin "len") (fun xs H Q => ∃ p ys, xs = [.ref p] ∧ (SqL X.K H p ys ∨ SqT X.K H p ys) ∧ Q (.int ys.length) H) := by
  intro pins s σ H xs us Q I r h
  obtain ⟨p, ys, rfl, hq, q⟩ := h
  obtain ⟨u, rfl, rx⟩ := vals1 r
  cases rx
  have hn := line63
  rcases hq with hq | hq
  · obtain ⟨its, r', pl, hz⟩ := I.list hq
    have hlen := r'.length
    exact Calls.call_len_list pl.isList (by simp only [List.size_toArray] <;> omega) ⟨.int ys.length, H, I.tok _, ⟨s.toks + 1, by rw [List.size_toArray, hlen]⟩, q⟩
  · obtain ⟨its, r', pl, hz⟩ := I.tuple hq
    have hlen := r'.length
    exact len_tuple pl (by simp only [List.size_toArray] <;> omega) ⟨.int ys.length, H, I.tok _, ⟨s.toks + 1, by rw [List.size_toArray, hlen]⟩, q⟩
theorem CallR.or {f : Value} {r r' : List V → Hp → VK → Prop} (h : CallR X f r) (h' : CallR X f r') : CallR X f (fun xs H Q => r xs H Q ∨ r' xs H Q) := by
  intro pins s σ H xs us Q I rs q
  rcases q with q | q
  · exact h pins s σ H xs us Q I rs q
  · exact h' pins s σ H xs us Q I rs q
theorem call_tuple_of : CallR X (.type "tuple") (fun xs H Q => ∃ p ys, xs = [.ref p] ∧ ((SqL X.K H p ys ∧ ∀ l, H l = none → Q (.ref l) (upd H l (.tup ys))) ∨ (SqT X.K H p ys ∧ Q (.ref p) H))) := by
  intro pins s σ H xs us Q I r h
  obtain ⟨p, ys, rfl, h⟩ := h
  obtain ⟨u, rfl, rx⟩ := vals1 r
  cases rx
  rcases h with ⟨hq, q⟩ | ⟨hq, q⟩
  · obtain ⟨its, r', pl, hz⟩ := I.list hq
    have hlen := r'.length
    refine call_tuple_list pl.isList (fun h' kp => ?_) (by simp only [List.size_toArray] <;> omega)
    have I1 : Inv X pins σ H { s with heap := h' } := I.kept (t' := s.toks) kp
    have I2 : Inv X pins σ (upd H h'.objs.size (.tup ys)) { s with heap := h'.push { cls := .type "tuple", data := .seq its.toArray } } :=
      I1.laid (t' := s.toks) (fun b o e => Heap.get?_push_of_some _ e) (Nat.le_refl _) (show ObjOk X.prog X.w _ _ _ (.tup ys) from ⟨hz, its, r', IsTup.new _ _⟩)
    exact ⟨.ref h'.objs.size, _, I2, rfl, q _ (I1.hok.fresh (Nat.le_refl _))⟩
  · obtain ⟨its, r', pl, hz⟩ := I.tuple hq
    exact call_tuple_same pl ⟨.ref p, H, I, rfl, q⟩

/-! ### the call of a builtin's method: o.m(..) -/
/-- the value is of that builtin type -/
def tyV (K : PySem.W.Frag) (T : String) (x : V) (H : Hp) : Prop := match x with
  | .str _ => T = "str"
  | .int _ => T = "int"
  | .ref p => (T = "list" ∧ ∃ xs, SqL K H p xs) ∨ (T = "tuple" ∧ ∃ o, K.lookup p = some o ∧ o.cls = .type "tuple" ∧ o.dict = none) ∨
      (T = "dict" ∧ ((∃ kvs, H p = some (.dK kvs)) ∨ ∃ kvs, H p = some (.dT kvs))) ∨ (T = "set" ∧ ∃ S n, H p = some (.set S n))
  | _ => False
theorem tyV_is {pins : List (Addr × Obj)} {σ : St} {H : Hp} {s : Shared} {T : String} {x : V} {v : Value} (I : Inv X pins σ H s) (r : RelV x v) (ty : tyV X.K T x H) :
    s.TypeIs v T ∧ ∀ a, v = .ref a → ∃ ob, s.heap.get? a = some ob ∧ ob.dict = none := by
  cases x with
  | str z =>
    obtain ⟨t, rfl⟩ := r
    cases (show T = "str" from ty)
    exact ⟨typeIs_str s z t, fun _ e => nomatch e⟩
  | int i =>
    obtain ⟨t, rfl⟩ := r
    cases (show T = "int" from ty)
    exact ⟨typeIs_int s i t, fun _ e => nomatch e⟩
  | ref p =>
    cases r
    rcases ty with ⟨rfl, xs, hq⟩ | ⟨rfl, o, hk, hc, hd⟩ | ⟨rfl, hk⟩ | ⟨rfl, S, n, hk⟩
    · obtain ⟨its, _, pl, _⟩ := I.list hq
      refine ⟨pl.isList.typeIs, fun a e => ?_⟩
      cases e
      obtain ⟨o, n, e, c, hd, _⟩ := pl
      exact ⟨o, e, hd⟩
    · refine ⟨⟨o, I.kIn p o hk, hc⟩, fun a e => ?_⟩
      cases e
      exact ⟨o, I.kIn _ o hk, hd⟩
    · have z : ∃ o, s.heap.get? p = some o ∧ o.ExactDict := by
        rcases hk with ⟨kvs, hk⟩ | ⟨kvs, hk⟩
        · obtain ⟨_, _, _, _, o, _, _, e, ex, _⟩ := I.hok p _ hk
          exact ⟨o, e, ex⟩
        · obtain ⟨_, _, _, _, o, _, _, e, ex, _⟩ := I.hok p _ hk
          exact ⟨o, e, ex⟩
      obtain ⟨o, e, ex⟩ := z
      refine ⟨⟨o, e, ex.1⟩, fun a e2 => ?_⟩
      cases e2
      exact ⟨o, e, ex.2.1⟩
    · obtain ⟨o, _, _, _, e, ex, _⟩ := I.hok p _ hk
      refine ⟨⟨o, e, ex.1⟩, fun a e2 => ?_⟩
      cases e2
      exact ⟨o, e, ex.2.1⟩
  | _ => exact False.elim ty
def tBM (K : PySem.W.Frag) (T : String) (r : V → List V → Hp → VK → Prop) (to : TE) (t : TA) : TE := fun σ H Q => to σ H fun x H1 => tyV K T x H1 ∧ t σ H1 fun xs H2 => r x xs H2 Q
variable {o e : Expr} {es : List Expr} {to : TE} {t : TA} {name : Str} {apos cpos : Pos} {T id : String} {r : V → List V → Hp → VK → Prop}
theorem pe_bm (pa : PlainAttrs T) (slot : Slot T name id) (hty : typeOf (.builtin id) = pure (.type "method_descriptor")) (hm : MtR X id r) (ho : PE X o to) (ha : PA X (e :: es) t)
    (hbase : attributeBase o name X.env (eval o X.env) = eval o X.env := by rfl)
    (hfew : ((backTo cpos (starEach (e :: es) X.env)).all (fun x => !x.1) && (backToKw cpos (keywordEach [] X.env)).all (fun x => x.1.isSome)
      && decide ((e :: es).length + ([] : List Keyword).length + (if ([] : List Keyword).isEmpty then 0 else 1) < 30)) = true := by rfl)
    (hline : (apos.endLine == cpos.line) = true := by rfl) (hs : starEach (e :: es) X.env = (false, eval e X.env) :: starEach es X.env := by rfl) (hplain : (backTo cpos (starEach es X.env)).any (·.1) = false := by rfl) :
    PE X (.Call (.Attribute o name apos) (e :: es) [] cpos) (tBM X.K T r to t) := by
  intro pins s σ H Q I h
  refine wpAny_Call_method_late hbase hfew hline rfl (thn (ho pins s σ H _ I h) fun v s1 ⟨x, H1, I1, r1, ty, q1⟩ => ?_)
  obtain ⟨h1, h2⟩ := tyV_is I1 r1 ty
  refine ⟨T, id, pa, slot, hty, h1, h2, ?_⟩
  have hA := ha cpos pins s1 σ H1 _ I1 q1
  rw [hs] at hA ⊢
  refine Calls.callWith_builtin (by show (false || (backTo cpos (starEach es X.env)).any (·.1)) = false; rw [hplain] <;> rfl) (Calls.evalArgs_plain ?_)
  exact thn hA fun us s2 ⟨vs, H2, I2, r2, q2⟩ => hm pins s2 σ H2 x vs v us Q I2 r1 r2 q2
/- xs.append(e), list.index on a module's tuple .. are MtR facts of 06m -/
end
end L2

namespace L2
open PySem PySem.Spec PyProof.Rows

def MtM (X : Cx) (id : String) (r : V → List V → Hp → VK → Prop) : Prop :=
  ∀ (pins : List (Addr × Obj)) (s : Shared) (σ : St) (H : Hp) (x : V) (xs : List V) (v : Value) (us : List Value) (Q : VK), Inv X pins σ H s → RelV x v → Vals xs us → r x xs H Q →
    wpAny (model X.prog X.w) X.A (call (.builtin id) (v :: us)) (EP X pins σ Q) X.xe s

/-! ### lists of values -/
theorem Vals.one : ∀ {x : V} {us : List Value}, Vals [x] us → ∃ u, us = [u] ∧ RelV x u
  | _, _, .cons r .nil => ⟨_, rfl, r⟩
theorem Vals.two : ∀ {x y : V} {us : List Value}, Vals [x, y] us → ∃ u v, us = [u, v] ∧ RelV x u ∧ RelV y v
  | _, _, _, .cons r (.cons q .nil) => ⟨_, _, rfl, r, q⟩
theorem Vals.zero : ∀ {us : List Value}, Vals [] us → us = []
  | _, .nil => rfl
theorem Vals.eraseIdx : ∀ {xs : List V} {us : List Value} (i : Nat), Vals xs us → Vals (xs.eraseIdx i) (us.eraseIdx i)
  | _, _, _, .nil => .nil
  | _, _, 0, .cons _ t => t
  | _, _, i + 1, .cons r t => .cons r (Vals.eraseIdx i t)
theorem Vals.reverse {xs : List V} {us : List Value} (h : Vals xs us) : Vals xs.reverse us.reverse := by
  induction h with
  | nil => exact .nil
  | cons r t ih => rw [List.reverse_cons, List.reverse_cons]; exact Vals.append ih (.cons r .nil)

section
variable {X : Cx} {pins : List (Addr × Obj)} {σ : St} {H : Hp} {s : Shared} {l b : Addr} {xs ys zs : List V}

/-! ### the two steps: a tracked list is rewritten, a new list is laid -/
theorem Inv.lset {its its' : List Value} {n : Nat} {f : Array Value → Array Value} {t' : Nat} (I : Inv X pins σ H s) (hH : H l = some (.lst xs))
    (e : s.heap.get? l = some { cls := .type "list", data := .seq its.toArray n }) (hf : f its.toArray = its'.toArray) (hv : Vals ys its') (hz : ys.length ≤ sizeLine) :
    Inv X pins σ (upd H l (.lst ys)) { s with heap := s.heap.update l (Obj.mapSeq f), toks := t' } := by
  have q := PySem.IsL.update e f
  rw [hf] at q
  refine I.write (x := l) (e := l) (by rw [hH]; exact trivial) (.inl rfl) (fun b' u hb hu => (Heap.get?_update_other s.heap (Obj.mapSeq f) (Ne.symm hb)).trans hu) ⟨_, q⟩ ?_
  exact ⟨hz, its', _, hv, q⟩
theorem Inv.lnew {its : List Value} {t' : Nat} (I : Inv X pins σ H s) (hv : Vals ys its) (hz : ys.length ≤ sizeLine) :
    Inv X pins σ (upd H s.heap.objs.size (.lst ys)) { s with heap := s.heap.push { cls := .type "list", data := .seq its.toArray }, toks := t' } :=
  I.laid (fun _ _ q => Heap.get?_push_of_some _ q) (Nat.le_refl _) ⟨hz, its, 0, hv, Heap.get?_push_size _ rfl⟩
theorem Inv.fresh (I : Inv X pins σ H s) : H s.heap.objs.size = none := I.hok.fresh (Nat.le_refl _)
theorem Inv.lstM (I : Inv X pins σ H s) (hH : H l = some (.lst xs)) : xs.length ≤ sizeLine ∧ ∃ (its : List Value) (n : Nat), Vals xs its ∧ xs.length = its.length ∧ s.heap.get? l = some { cls := .type "list", data := .seq its.toArray n } := by
  obtain ⟨z, its, n, r, e⟩ := I.hok l _ hH
  exact ⟨z, its, n, r, r.length, e⟩

theorem notLongL {n : Nat} (h : n ≤ sizeLine) : Builtin.List.listTooLong n = false := by
  unfold Builtin.List.listTooLong
  exact decide_eq_false (by omega)
end

section
variable {X : Cx}

/-! ### methods -/






/-! ### list + list, list += list, list * int -/
def rCat : R2 := fun x y H Q => ∃ l b xs zs, x = .ref l ∧ y = .ref b ∧ H l = some (.lst xs) ∧ H b = some (.lst zs) ∧ xs.length + zs.length ≤ sizeLine ∧ ∀ p, H p = none → Q (.ref p) (upd H p (.lst (xs ++ zs)))
theorem op_cat : OpR X (binaryOp .Add) rCat := by
  intro pins s σ H x y v u Q I rx ry h
  obtain ⟨l, b, xs, zs, rfl, rfl, hH, hB, hz, q⟩ := h
  cases rx
  cases ry
  obtain ⟨z, its, n, r, hl, e⟩ := I.lstM hH
  obtain ⟨z2, its2, n2, r2, hl2, e2⟩ := I.lstM hB
  refine PySem.P.add_list e e2 ?_ (by rw [List.size_toArray, List.size_toArray]; omega)
  have ea : its.toArray ++ its2.toArray = (its ++ its2).toArray := by simp
  rw [ea]
  exact ⟨.ref _, _, I.lnew (t' := s.toks) (r.append r2) (by rw [List.length_append]; omega), rfl, q _ I.fresh⟩

/-! ### del xs[i] -/
end

/-! ### xs[a:b] = ys -/
section
variable {prog : Program} {w : World} {A : Around} {E : Value → Shared → Prop} {s : Shared}
end

section
variable {X : Cx}
end
end L2

namespace L2
open PySem PySem.Spec PyProof.Rows

theorem Vals.ints : ∀ {ns : List Int} {us : List Value}, Vals (ns.map V.int) us → IntsAre us ns
  | [], us, h => by
    rw [List.map_nil] at h
    cases h
    exact IntsAre.nil
  | n :: ns, us, h => by
    rw [List.map_cons] at h
    cases h with
    | cons r t =>
      obtain ⟨k, rfl⟩ := r
      exact IntsAre.cons n k (Vals.ints t)
theorem Vals.strs : ∀ {xs : List Str} {us : List Value}, Vals (xs.map V.str) us → StrsAre us xs
  | [], us, h => by
    rw [List.map_nil] at h
    cases h
    exact StrsAre.nil
  | x :: xs, us, h => by
    rw [List.map_cons] at h
    cases h with
    | cons r t =>
      obtain ⟨k, rfl⟩ := r
      exact StrsAre.cons x k (Vals.strs t)
theorem Vals.bls : ∀ {bs : List Bool} {us : List Value}, Vals (bs.map V.bl) us → us = bs.map Value.bool
  | [], us, h => by
    rw [List.map_nil] at h
    cases h
    rfl
  | b :: bs, us, h => by
    rw [List.map_cons] at h
    cases h with
    | cons r t =>
      cases r
      rw [Vals.bls t, List.map_cons]
theorem Vals.ref1 {a : Addr} {us : List Value} (r : Vals [V.ref a] us) : us = [Value.ref a] := by
  cases r with
  | cons r t =>
    cases t
    cases r
    rfl

/-! ### the library's walks over a list of ints, kept objects alone -/
section
variable {prog : Program} {w : World} {A : Around} {E : Value → Shared → Prop} {s : Shared} {l : Addr} {its : List Value} {ns : List Int} {Q : Value → Shared → Prop}
end

/-! ### the calls, by values (CallR of 03t; MtR of 06l) -/
section
variable {X : Cx}

/-! sorted, sort (fewer than 64 items: the library's own bound) -/
end

/-! ### list.index, flat items -/
section
variable {X : Cx}
end

/-! ### type(x) of an own instance; is, is not of a module's class -/
section
variable {X : Cx}
end

/-! ### any(xs), all(xs) of a list of bools -/
theorem iter_any {prog : Program} {w : World} {A : Around} {E : Value → Shared → Prop} {s : Shared} {l : Addr} {items : Array Value} {Q : Value → Shared → Prop} (hl : s.heap.IsList l items)
    (h : ∀ s₂ : Shared, s₂ = { s with heap := s.heap.push { cls := .type "list_iterator", data := .fields #[.ref l, .int 0 0] } } →
      (s₂.heap.IsListIter s.heap.objs.size l 0 ∧ s₂.heap.IsList l items) → l ≠ s.heap.objs.size → Q (.ref s.heap.objs.size) s₂) : wpAny (model prog w) A (pyIter (.ref l)) Q E s := by
  have hlt : l < s.heap.objs.size := by obtain ⟨_, e, _⟩ := hl; exact Heap.lt_size e
  exact wpAny_pyIter_list hl (h _ rfl ⟨⟨_, Heap.get?_push_size _ rfl, rfl, rfl⟩, hl.push _⟩ (Nat.ne_of_lt hlt))
theorem truth_bools {prog : Program} {w : World} {A : Around} {bs : List Bool} {its : List Value} (e : its = bs.map Value.bool) :
    TruthOf prog w A (fun i v => its.toArray[i]? = some v) (fun i => bs.getD i false) := fun i v s Q E hv hq => by
  have hv' : its[i]? = some v := by simpa using hv
  rw [e, List.getElem?_map] at hv'
  obtain ⟨b, hb, rfl⟩ := Option.map_eq_some_iff.mp hv'
  have hg : bs.getD i false = b := by rw [List.getD_eq_getElem?_getD, hb] <;> rfl
  have hq' : Q (bs.getD i false) s := hq
  rw [hg] at hq'
  exact wpAny_truthy_bool hq'
theorem all_range : ∀ bs : List Bool, (List.range bs.length).all (fun i => bs.getD i false) = bs.all id
  | [] => rfl
  | b :: bs => by
    rw [List.length_cons, List.range_succ_eq_map, List.all_cons, List.all_map, List.all_cons, ← all_range bs]
    all_goals rfl
section
variable {X : Cx}
def rAll (K : PySem.W.Frag) : List V → Hp → VK → Prop := fun vs H Q => ∃ (a : Addr) (bs : List Bool), vs = [V.ref a] ∧ SqL K H a (bs.map V.bl) ∧ Q (.bl (bs.all id)) H
theorem cr_all (hc : X.calm = true) : CallR X (.builtin "all") (rAll X.K) := by
  intro pins s σ H vs us Q I r h
  obtain ⟨a, bs, rfl, hs, q⟩ := h
  obtain ⟨its, rv, hl, _⟩ := I.list hs
  rw [Vals.ref1 r]
  have hb := rv.bls
  refine call_all_walk (iter_any hl.isList fun s₂ e2 st hne => ?_)
  subst e2
  refine ⟨_, _, _, _, _, _, _, rfl, Walks.list (A := X.A.in1) (I.ok.hd hc) _ a hne its.toArray, st, truth_bools hb, fun h' tk hk => ?_⟩
  refine ⟨.bl _, H, I.kept fun b o eo => hk b o (fun hmem => ?_) (Heap.get?_push_of_some _ eo), ?_, q⟩
  · rcases List.mem_cons.mp hmem with e1 | hmem
    · exact absurd (e1 ▸ Heap.lt_size eo) (Nat.lt_irrefl _)
    · cases hmem
  · show Value.bool _ = Value.bool _
    rw [← all_range, hb, List.size_toArray, List.length_map]
end

/-! ### == and != of data at any depth: none, bools, ints, texts, lists, tuples -/
mutual
inductive Dp (K : PySem.W.Frag) (H : Hp) : V → PyData → Prop
  | non : Dp K H .non .none
  | bl (b : Bool) : Dp K H (.bl b) (.bool b)
  | int (i : Int) : Dp K H (.int i) (.int i)
  | str (x : Str) : Dp K H (.str x) (.str x)
  | lst {a : Addr} {xs : List V} {ds : List PyData} : SqL K H a xs → DpAll K H xs ds → Dp K H (.ref a) (.list ds)
  | tup {a : Addr} {xs : List V} {ds : List PyData} : SqT K H a xs → DpAll K H xs ds → Dp K H (.ref a) (.tuple ds)
inductive DpAll (K : PySem.W.Frag) (H : Hp) : List V → List PyData → Prop
  | nil : DpAll K H [] []
  | cons {v : V} {vs : List V} {d : PyData} {ds : List PyData} : Dp K H v d → DpAll K H vs ds → DpAll K H (v :: vs) (d :: ds)
end
section
variable {X : Cx} {pins : List (Addr × Obj)} {σ : St} {H : Hp} {s : Shared}
mutual
theorem Dp.reads (I : Inv X pins σ H s) : ∀ (d : PyData) (v : V) (u : Value), Dp X.K H v d → RelV v u → ∃ as, Reads s.heap u d as
  | .none, _, _, h, r => by
    cases h
    cases r
    exact ⟨_, Reads.none⟩
  | .bool b, _, _, h, r => by
    cases h
    cases r
    exact ⟨_, Reads.bool b⟩
  | .int i, _, _, h, r => by
    cases h
    obtain ⟨t, rfl⟩ := r
    exact ⟨_, Reads.int i t⟩
  | .str x, _, _, h, r => by
    cases h
    obtain ⟨t, rfl⟩ := r
    exact ⟨_, Reads.str x t⟩
  | .list ds, _, _, h, r => by
    cases h with
    | lst hs ha =>
      cases r
      obtain ⟨its, rv, ⟨o, n, ho, hc, _, hd⟩, _⟩ := I.list hs
      obtain ⟨as, hr⟩ := Dp.readsAll I ds _ its ha rv
      exact ⟨_, Reads.list ho hc hd hr⟩
  | .tuple ds, _, _, h, r => by
    cases h with
    | tup hs ha =>
      cases r
      obtain ⟨its, rv, ⟨o, ho, hc, n, hd⟩, _⟩ := I.tuple hs
      obtain ⟨as, hr⟩ := Dp.readsAll I ds _ its ha rv
      exact ⟨_, Reads.tuple ho hc hd hr⟩
  | .dict _, _, _, h, _ => by cases h
theorem Dp.readsAll (I : Inv X pins σ H s) : ∀ (ds : List PyData) (vs : List V) (us : List Value), DpAll X.K H vs ds → Vals vs us → ∃ as, ReadsAll s.heap us ds as
  | [], _, _, h, r => by
    cases h
    cases r
    exact ⟨_, ReadsAll.nil⟩
  | d :: ds, _, _, h, r => by
    cases h with
    | cons h1 h2 =>
      cases r with
      | cons r1 r2 =>
        obtain ⟨as, q1⟩ := Dp.reads I d _ _ h1 r1
        obtain ⟨bs, q2⟩ := Dp.readsAll I ds _ _ h2 r2
        exact ⟨_, ReadsAll.cons q1 q2⟩
end
end
section
variable {X : Cx}
end
end L2

namespace L2
open PySem PySem.Spec PyProof.Rows
abbrev CellAt (h : Heap) (c : Addr) (v : Option Value) : Prop := h.IsCell c v
def relS (scope sc : Scope) : Scope :=
  { scope with names := scope.names.map fun (n, k) => if (k == .free && sc.kind == .function && sc.names.lookup n == some .cell) then (n, .cell) else (n, k) }

def cloFrom (cells : List (Str × Addr)) : List (Str × NameKind) → List (Str × Addr) → List (Str × Addr)
  | [], acc => acc
  | (n, k) :: r, acc => if k == .free then cloFrom cells r ((n, (cells.lookup n).getD 0) :: acc) else cloFrom cells r acc

theorem closure_loop (env : Env) (f : Str × NameKind → List (Str × Addr) → Sem (ForInStep (List (Str × Addr))))
    (hf : ∀ n k c, f (n, k) c = if k == .free then (do let a ← cellOf env n; pure (.yield ((n, a) :: c))) else pure (.yield c)) :
    ∀ (names : List (Str × NameKind)) (acc : List (Str × Addr)), (∀ y ∈ names, y.2 = .free → ∃ c, env.cells.lookup y.1 = some c) → forIn names acc f = pure (cloFrom env.cells names acc)
  | [], acc, _ => by rw [List.forIn_nil]; rfl
  | (n, k) :: r, acc, h => by
    rw [List.forIn_cons, hf]
    have ih := fun acc => closure_loop env f hf r acc fun y hy => h y (List.mem_cons_of_mem _ hy)
    unfold cloFrom
    by_cases hk : (k == NameKind.free) = true
    · rw [if_pos hk, if_pos hk]
      obtain ⟨c, hc⟩ := h (n, k) List.mem_cons_self (by simpa using hk)
      have e : cellOf env n = pure c := by unfold cellOf; rw [hc]
      rw [e]
      have e2 : (env.cells.lookup n).getD 0 = c := by rw [hc]; rfl
      rw [e2]
      exact ih _
    · rw [if_neg hk, if_neg hk]
      exact ih _
theorem closure_ok {scope : Scope} {env : Env} (h : ∀ y ∈ scope.names, y.2 = .free → ∃ c, env.cells.lookup y.1 = some c) : closureFor scope env = pure (cloFrom env.cells scope.names []) := by
  simp only [closureFor]
  rw [closure_loop env _ (fun n k c => rfl) scope.names [] h]
  rfl

theorem mem_lookup {α : Type} : ∀ {l : List (Str × α)} {n : Str} {c : α}, (n, c) ∈ l → ∃ c', l.lookup n = some c'
  | (k, v) :: r, n, c, h => by
    rw [List.lookup_cons]
    cases hb : n == k with
    | true => exact ⟨_, rfl⟩
    | false =>
      rcases List.mem_cons.mp h with e | h
      · cases e; simp at hb
      · exact mem_lookup h

theorem cloFrom_mem {cells : List (Str × Addr)} : ∀ {names : List (Str × NameKind)} {acc : List (Str × Addr)} {n : Str} {c : Addr}, (n, c) ∈ cloFrom cells names acc → (n, c) ∈ acc ∨ ((n, .free) ∈ names ∧ c = (cells.lookup n).getD 0)
  | [], _, _, _, h => .inl h
  | (m, k) :: r, acc, n, c, h => by
    unfold cloFrom at h
    split at h
    · rename_i hk
      have hk : k = .free := by simpa using hk
      rcases cloFrom_mem h with h | ⟨h1, h2⟩
      · rcases List.mem_cons.mp h with e | h
        · cases e; exact .inr ⟨hk ▸ List.mem_cons_self, rfl⟩
        · exact .inl h
      · exact .inr ⟨List.mem_cons_of_mem _ h1, h2⟩
    · rcases cloFrom_mem h with h | ⟨h1, h2⟩
      · exact .inl h
      · exact .inr ⟨List.mem_cons_of_mem _ h1, h2⟩
theorem cloFrom_acc {cells : List (Str × Addr)} : ∀ {names : List (Str × NameKind)} {acc : List (Str × Addr)} {p : Str × Addr}, p ∈ acc → p ∈ cloFrom cells names acc
  | [], _, _, h => h
  | (m, k) :: r, acc, p, h => by
    unfold cloFrom
    split
    · exact cloFrom_acc (List.mem_cons_of_mem _ h)
    · exact cloFrom_acc h
theorem cloFrom_has {cells : List (Str × Addr)} : ∀ {names : List (Str × NameKind)} {acc : List (Str × Addr)} {n : Str}, (n, .free) ∈ names → (n, (cells.lookup n).getD 0) ∈ cloFrom cells names acc
  | (m, k) :: r, acc, n, h => by
    unfold cloFrom
    rcases List.mem_cons.mp h with e | h
    · cases e
      exact cloFrom_acc List.mem_cons_self
    · split
      · exact cloFrom_has h
      · exact cloFrom_has h

theorem cells_mem : ∀ {names : List (Str × NameKind)} {h : Heap} {acc : List (Str × Addr)} {x : Str} {c : Addr}, (x, c) ∈ cellsFrom h.objs.size names acc →
    (x, c) ∈ acc ∨ ((x, .cell) ∈ names ∧ h.objs.size ≤ c ∧ CellAt (pushCells h names) c none)
  | [], _, _, _, _, h => .inl h
  | (n, k) :: r, h, acc, x, c, hm => by
    unfold cellsFrom at hm
    unfold pushCells
    split at hm
    · rename_i hk
      rw [if_pos hk]
      have hk : k = .cell := by simpa using hk
      rw [← Heap.size_push h { cls := .type "cell", data := .cell none }] at hm
      rcases cells_mem hm with hm | ⟨h1, h2, h3⟩
      · rcases List.mem_cons.mp hm with e | hm
        · cases e
          exact .inr ⟨hk ▸ List.mem_cons_self, Nat.le_refl _, _, pushCells_keeps r _ _ _ (Heap.get?_push_size _ rfl), rfl⟩
        · exact .inl hm
      · rw [Heap.size_push] at h2
        exact .inr ⟨List.mem_cons_of_mem _ h1, Nat.le_of_succ_le h2, h3⟩
    · rename_i hk
      rw [if_neg hk]
      rcases cells_mem hm with hm | ⟨h1, h2, h3⟩
      · exact .inl hm
      · exact .inr ⟨List.mem_cons_of_mem _ h1, h2, h3⟩
theorem cells_acc : ∀ {names : List (Str × NameKind)} {n : Nat} {acc : List (Str × Addr)} {p : Str × Addr}, p ∈ acc → p ∈ cellsFrom n names acc
  | [], _, _, _, h => h
  | (m, k) :: r, n, acc, p, h => by
    unfold cellsFrom
    split
    · exact cells_acc (List.mem_cons_of_mem _ h)
    · exact cells_acc h
theorem cells_has : ∀ {names : List (Str × NameKind)} {n : Nat} {acc : List (Str × Addr)} {x : Str}, (x, .cell) ∈ names → ∃ c, (x, c) ∈ cellsFrom n names acc
  | (m, k) :: r, n, acc, x, h => by
    unfold cellsFrom
    rcases List.mem_cons.mp h with e | h
    · cases e
      exact ⟨n, cells_acc List.mem_cons_self⟩
    · split
      · exact cells_has h
      · exact cells_has h
theorem cells_inj : ∀ {names : List (Str × NameKind)} {h : Heap} {acc : List (Str × Addr)} {x y : Str} {c : Addr}, (∀ p ∈ acc, p.2 < h.objs.size) → (∀ x y c, (x, c) ∈ acc → (y, c) ∈ acc → x = y) →
    (x, c) ∈ cellsFrom h.objs.size names acc → (y, c) ∈ cellsFrom h.objs.size names acc → x = y
  | [], _, _, _, _, _, _, hi, h1, h2 => hi _ _ _ h1 h2
  | (n, k) :: r, h, acc, x, y, c, hl, hi, h1, h2 => by
    unfold cellsFrom at h1 h2
    split at h1
    · rename_i hk
      rw [if_pos hk] at h2
      rw [← Heap.size_push h { cls := .type "cell", data := .cell none }] at h1 h2
      refine cells_inj (h := h.push _) (fun p hp => ?_) (fun x y c a b => ?_) h1 h2
      · rw [Heap.size_push]
        rcases List.mem_cons.mp hp with rfl | hp
        · exact Nat.lt_succ_self _
        · exact Nat.lt_succ_of_lt (hl p hp)
      · rcases List.mem_cons.mp a with e | a <;> rcases List.mem_cons.mp b with e' | b
        · cases e; cases e'; rfl
        · cases e; exact absurd (hl _ b) (Nat.lt_irrefl _)
        · cases e'; exact absurd (hl _ a) (Nat.lt_irrefl _)
        · exact hi _ _ _ a b
    · rename_i hk
      rw [if_neg hk] at h2
      exact cells_inj hl hi h1 h2

theorem newEnv_comp {M : Model} {A : Around} {E : Value → Shared → Prop} {s : Shared} {scope : Scope} {globals : Addr} {closure : List (Str × Addr)} {qual : Str} {func : Option Addr} {code : Value} {around : Env} {builtins : Addr} {Q : Env → Shared → Prop}
    (h : Q (newEnv scope s.heap.objs.size globals (cellsFrom (s.heap.objs.size + 1) scope.names closure) qual func code (some around) builtins)
      { s with heap := pushCells (s.heap.push { cls := .type "dict", data := .dict #[] }) scope.names }) :
    wpAny M A (newFunctionEnv scope globals closure [] qual func code (some around) builtins) Q E s := by
  simp only [newFunctionEnv, Option.isSome_some, if_true]
  refine wpAny_bind (wpAny_alloc ?_)
  refine wpAny_bind (wpAny_layCells _ (fun n k c => rfl) scope.names closure _ _ ?_)
  rw [show ({ s with heap := s.heap.push { cls := .type "dict", data := .dict #[] } } : Shared).heap.objs.size = s.heap.objs.size + 1 from Heap.size_push ..]
  rw [List.forIn_nil]
  exact wpAny_bind (wpAny_pure (wpAny_pure h))

/-- every name of the written scope, in the scope that runs -/
theorem lookup_relS {sc : Scope} : ∀ {names : List (Str × NameKind)} {x : Str} {k : NameKind},
    (names.map fun (n, k) => if (k == NameKind.free && sc.kind == .function && sc.names.lookup n == some .cell) then (n, NameKind.cell) else (n, k)).lookup x = some k →
    ∃ k', names.lookup x = some k' ∧ (k = k' ∨ (k' = .free ∧ k = .cell))
  | [], _, _, h => by simp at h
  | (n, k₀) :: r, x, k, h => by
    have ih := @lookup_relS sc r x k
    have h' : List.lookup x ((if (k₀ == NameKind.free && sc.kind == .function && sc.names.lookup n == some .cell) = true then (n, NameKind.cell) else (n, k₀)) :: (r.map _)) = some k := h
    cases hx : x == n with
    | true =>
      simp only [List.lookup_cons, hx]
      by_cases hc : (k₀ == NameKind.free && sc.kind == .function && sc.names.lookup n == some .cell) = true
      · rw [if_pos hc] at h'
        simp only [List.lookup_cons, hx] at h'
        cases h'
        simp only [Bool.and_eq_true, beq_iff_eq] at hc
        exact ⟨k₀, rfl, .inr ⟨hc.1.1, rfl⟩⟩
      · rw [if_neg hc] at h'
        simp only [List.lookup_cons, hx] at h'
        cases h'
        exact ⟨_, rfl, .inl rfl⟩
    | false =>
      simp only [List.lookup_cons, hx]
      by_cases hc : (k₀ == NameKind.free && sc.kind == .function && sc.names.lookup n == some .cell) = true
      · rw [if_pos hc] at h'
        simp only [List.lookup_cons, hx] at h'
        exact ih h'
      · rw [if_neg hc] at h'
        simp only [List.lookup_cons, hx] at h'
        exact ih h'



/-- the names of a comprehension's block: its own (with their places in N), or captured -/
structure BlkOk (N : List Str) (sc scope : Scope) (own : List (Str × Nat)) : Prop where
  kind : scope.kind = .function
  uniq : ∀ y ∈ scope.names, scope.names.lookup y.1 = some y.2
  ix : ∀ p ∈ own, N[p.2]? = some p.1
  free : ∀ y ∈ scope.names, y.2 = .free → sc.names.lookup y.1 = some .cell ∨ sc.names.lookup y.1 = some .free
  own : ∀ y ∈ scope.names, y.2 = .local ∨ y.2 = .cell → y.1 ∈ own.map (·.1) ∨ y.1 ∉ N
/-- the slots of the block's own names forgotten -/
def wipe (σ : St) : List Nat → St
  | [] => σ
  | v :: vs => (wipe σ vs).set v none
theorem wipe_length (σ : St) : ∀ vs : List Nat, (wipe σ vs).length = σ.length
  | [] => rfl
  | v :: vs => by unfold wipe; rw [List.length_set, wipe_length σ vs]
theorem wipe_some {σ : St} {i : Nat} {x : V} : ∀ {vs : List Nat}, (wipe σ vs)[i]? = some (some x) → σ[i]? = some (some x) ∧ i ∉ vs
  | [], h => ⟨h, by simp⟩
  | v :: vs, h => by
    unfold wipe at h
    by_cases hi : v = i
    · subst hi
      by_cases hv : v < (wipe σ vs).length
      · rw [List.getElem?_set_self hv] at h; cases h
      · rw [List.getElem?_eq_none (by simpa using hv)] at h; cases h
    · rw [List.getElem?_set_ne hi] at h
      obtain ⟨h1, h2⟩ := wipe_some h
      exact ⟨h1, by simp only [List.mem_cons, not_or]; exact ⟨fun e => hi e.symm, h2⟩⟩

/-- the context of a block that starts at s, its iterator's objects at fp -/
abbrev Cx.blk (X : Cx) (s : Shared) (H : Hp) (scope : Scope) (cenv : Env) (fp : List Addr) : Cx := { X with s_0 := s, H_0 := H, env := cenv, outer := X.stack, ex := fp, fn := fun x => scope.names.lookup x == some .cell, pn := [], xe := fun _ _ => False }
section
variable {X : Cx} {pins : List (Addr × Obj)} {σ : St} {H : Hp} {s : Shared}
theorem block_start {scope : Scope} {own : List (Str × Nat)} {fp : List Addr} (I : Inv X pins σ H s) (ok : BlkOk X.N X.env.scope scope own) (hN : X.N.Nodup) (hfp : ∀ b ∈ fp, FpOk X pins H b ∧ b < s.heap.objs.size) :
    Inv (X.blk s H scope (compEnvC scope (cellsFrom (s.heap.objs.size + 1) scope.names (cloFrom X.env.cells scope.names [])) s.heap.objs.size X.env) fp) [] (wipe σ (own.map (·.2))) H { s with heap := pushCells (s.heap.push { cls := .type "dict", data := .dict #[] }) scope.names } := by
  have hfree : ∀ y ∈ scope.names, y.2 = .free → ∃ c, X.env.cells.lookup y.1 = some c := fun y hy e => by
    rcases ok.free y hy e with k | k
    · exact I.ok.has _ (.inl k)
    · exact I.ok.has _ (.inr k)
  generalize hcenv : compEnvC scope (cellsFrom (s.heap.objs.size + 1) scope.names (cloFrom X.env.cells scope.names [])) s.heap.objs.size X.env = cenv
  have kp : ∀ b o, s.heap.get? b = some o → (pushCells (s.heap.push { cls := .type "dict", data := .dict #[] }) scope.names).get? b = some o := fun b o e => pushCells_keeps _ _ _ _ (Heap.get?_push_of_some _ e)
  have hL : cenv.locals = s.heap.objs.size := by rw [← hcenv]; rfl
  have hcl : cenv.cells = cellsFrom (s.heap.objs.size + 1) scope.names (cloFrom X.env.cells scope.names []) := by rw [← hcenv]; rfl
  have hsc : cenv.scope = relS scope X.env.scope := by rw [← hcenv]; rfl
  rw [← Heap.size_push s.heap { cls := .type "dict", data := .dict #[] }] at hcl
  have cm : ∀ {y c}, (y, c) ∈ cloFrom X.env.cells scope.names [] → X.env.cells.lookup y = some c ∧ c < s.heap.objs.size := fun {y c} hm => by
    rcases cloFrom_mem hm with hm | ⟨h1, rfl⟩
    · cases hm
    · obtain ⟨c, hc⟩ := hfree _ h1 rfl
      rw [hc]
      obtain ⟨w, z⟩ := I.cell _ _ hc
      exact ⟨rfl, z.lt⟩
  have mem : ∀ {y c}, cenv.cells.lookup y = some c → (X.env.cells.lookup y = some c ∧ c < s.heap.objs.size) ∨ (s.heap.objs.size + 1 ≤ c ∧ CellAt (pushCells (s.heap.push { cls := .type "dict", data := .dict #[] }) scope.names) c none) := fun {y c} e => by
    rw [hcl] at e
    rcases cells_mem (PySem.mem_of_lookup e) with hm | ⟨_, h2, h3⟩
    · exact .inl (cm hm)
    · rw [Heap.size_push] at h2; exact .inr ⟨h2, h3⟩
  have look : ∀ {y}, scope.names.lookup y = some .free → ∃ c, cenv.cells.lookup y = some c ∧ X.env.cells.lookup y = some c := fun {y} hl => by
    have hy : (y, NameKind.free) ∈ scope.names := PySem.mem_of_lookup hl
    obtain ⟨c', e'⟩ := mem_lookup (cells_acc (names := scope.names) (n := (s.heap.push { cls := .type "dict", data := .dict #[] }).objs.size) (cloFrom_has (cells := X.env.cells) (acc := []) hy))
    rw [← hcl] at e'
    refine ⟨c', e', ?_⟩
    rw [hcl] at e'
    rcases cells_mem (PySem.mem_of_lookup e') with hm | ⟨h1, _, _⟩
    · exact (cm hm).1
    · have := ok.uniq _ h1
      rw [hl] at this; cases this
  have okB : (X.blk s H scope cenv fp).Ok := by
    refine ⟨I.ok.mod, by show cenv.scope.kind = _; rw [hsc]; exact ok.kind, by show cenv.globals = _; rw [← hcenv]; exact I.ok.glob, by show cenv.builtins = _; rw [← hcenv]; exact I.ok.blt, by show s.heap.objs.size ≤ cenv.locals; rw [hL]; exact Nat.le_refl _,
      fun y z c e1 e2 => ?_, fun y hy => ?_, fun y c z e => ?_, I.ok.hd, I.ok.frames, .inl rfl, fun b hb => ⟨?_, fun y c e z => ?_⟩, I.bs, Nat.le_trans I.ok.bsz I.sz, fun b o e hb => ?_, fun b hb z => ?_, I.stack, I.stkFree⟩
    · have e1 : cenv.cells.lookup y = some c := e1
      have e2 : cenv.cells.lookup z = some c := e2
      rw [hcl] at e1 e2
      refine cells_inj (fun p hp => ?_) (fun y z c a b => I.ok.inj y z c (cm a).1 (cm b).1) (PySem.mem_of_lookup e1) (PySem.mem_of_lookup e2)
      rw [Heap.size_push]
      exact Nat.lt_succ_of_lt (cm (y := p.1) (c := p.2) hp).2
    · show ∃ c, cenv.cells.lookup y = some c
      have key : ∀ k, cenv.kindOf y = some k → (k = .cell ∨ k = .free) → ∃ c, cenv.cells.lookup y = some c := fun k hk hk' => by
        unfold Env.kindOf at hk
        rw [hsc] at hk
        obtain ⟨k', e, r⟩ := lookup_relS hk
        have : k' = .cell ∨ k' = .free := by
          rcases r with rfl | ⟨rfl, _⟩
          · exact hk'
          · exact .inr rfl
        rcases this with rfl | rfl
        · obtain ⟨c, hm⟩ := cells_has (n := (s.heap.push { cls := .type "dict", data := .dict #[] }).objs.size) (acc := cloFrom X.env.cells scope.names []) (PySem.mem_of_lookup e)
          obtain ⟨c', e'⟩ := mem_lookup hm
          exact ⟨c', by rw [hcl]; exact e'⟩
        · obtain ⟨c, h1, _⟩ := look e
          exact ⟨c, h1⟩
      rcases hy with hy | hy
      · exact key _ hy (.inl rfl)
      · exact key _ hy (.inr rfl)
    · have z : (scope.names.lookup y == some NameKind.cell) = true := z
      have z : scope.names.lookup y = some .cell := by simpa using z
      have e : cenv.cells.lookup y = some c := e
      rw [hcl] at e
      rcases cells_mem (PySem.mem_of_lookup e) with hm | ⟨_, h2, _⟩
      · rcases cloFrom_mem hm with hm | ⟨h1, _⟩
        · cases hm
        · have q := ok.uniq _ h1
          rw [z] at q; cases q
      · rw [Heap.size_push] at h2
        exact Nat.le_of_succ_le h2
    · show b ≠ cenv.locals
      rw [hL]; exact Nat.ne_of_lt (hfp b hb).2
    · have e : cenv.cells.lookup y = some c := e
      rcases mem e with ⟨h1, _⟩ | ⟨h1, _⟩
      · exact (hfp b hb).1.2.2.2.2.1 y c h1 z
      · have h2 : s.heap.objs.size + 1 ≤ b := by rw [← z]; exact h1
        exact absurd (Nat.lt_of_lt_of_le (hfp b hb).2 (Nat.le_of_succ_le h2)) (Nat.lt_irrefl _)
    · rcases (hfp b hb).1.2.2.2.1 with z | z
      · exact I.ok.noex b o e z
      · exact absurd (Nat.lt_of_lt_of_le (Heap.lt_size e) (Nat.le_trans I.ok.bsz z)) (Nat.lt_irrefl _)
    · rcases List.mem_cons.mp (I.stkSub b z) with z | z
      · exact (hfp b hb).1.2.1 z
      · exact (hfp b hb).1.2.2.1 z
  refine ⟨okB, rfl, I.bare, Un.kept kp, ⟨fun _ => none, ?_, fun i y av e1 e2 e3 => ?_⟩, fun y c e => ?_, ?_, fun y c e => ?_, fun p hp => ?_, I.hok.kept kp, by rw [wipe_length]; exact I.len⟩
  · show Heap.Ns _ cenv.locals _
    rw [hL]
    exact Heap.Ns.keeps (Heap.Ns.new ..) fun b o e => pushCells_keeps _ _ _ _ e
  · obtain ⟨e2, hne⟩ := wipe_some e2
    have hfr : scope.names.lookup y = some .free ∧ (cenv.kindOf y = some .cell ∨ cenv.kindOf y = some .free) := by
      have key : ∀ k, cenv.scope.names.lookup y = some k → k = .local ∨ k = .cell ∨ k = .free → scope.names.lookup y = some .free ∧ (cenv.kindOf y = some .cell ∨ cenv.kindOf y = some .free) := fun k hk hk' => by
        have hk0 := hk
        rw [hsc] at hk
        obtain ⟨k', e, r⟩ := lookup_relS hk
        have no : ¬ (k' = .local ∨ k' = .cell) := fun hh => by
          rcases ok.own _ (PySem.mem_of_lookup e) hh with e' | e'
          · obtain ⟨p, hp, hpy⟩ := List.mem_map.mp e'
            have e3 := ok.ix p hp
            have : p.1 = y := hpy
            rw [this] at e3
            exact hne (List.mem_map.mpr ⟨p, hp, nodup_ix hN e3 e1⟩)
          · exact e' (List.mem_of_getElem? e1)
        rcases r with rfl | ⟨rfl, rfl⟩
        · rcases hk' with rfl | rfl | rfl
          · exact absurd (.inl rfl) no
          · exact absurd (.inr rfl) no
          · exact ⟨e, .inr hk0⟩
        · exact ⟨e, .inl hk0⟩
      have e3 : Vis cenv.scope y := e3
      rcases e3 with e3 | e3 | e3
      · exact key _ e3 (.inl rfl)
      · exact key _ e3 (.inr (.inl rfl))
      · exact key _ e3 (.inr (.inr rfl))
    obtain ⟨m, hn, hl⟩ := I.loc
    have hvis : Vis X.env.scope y := (ok.free _ (PySem.mem_of_lookup hfr.1) rfl).elim (fun k => .inr (.inl k)) (fun k => .inr (.inr k))
    obtain ⟨w, r, q⟩ := hl i y av e1 e2 hvis
    refine ⟨w, r, .inr ⟨hfr.2, ?_⟩⟩
    obtain ⟨c, h1, h2⟩ := look hfr.1
    rcases q with ⟨k, _⟩ | ⟨_, c', e', z⟩
    · have k : X.env.scope.names.lookup y = some .local := k
      rcases ok.free _ (PySem.mem_of_lookup hfr.1) rfl with k' | k' <;> rw [show X.env.scope.names.lookup y = _ from k'] at k <;> cases k
    · rw [h2] at e'; cases e'
      exact ⟨c, h1, z.keeps kp⟩
  · have e : cenv.cells.lookup y = some c := e
    rcases mem e with ⟨h1, _⟩ | ⟨_, z⟩
    · obtain ⟨w, z⟩ := I.cell y c h1
      exact ⟨w, z.keeps kp⟩
    · exact ⟨_, z⟩
  · show H cenv.locals = none
    rw [hL]; exact I.hok.fresh (Nat.le_refl _)
  · have e : cenv.cells.lookup y = some c := e
    rcases mem e with ⟨h1, _⟩ | ⟨h1, _⟩
    · exact I.freeC y c h1
    · exact I.hok.fresh (Nat.le_of_succ_le h1)
  · exact absurd (show p ∈ ([] : List (Addr × Obj)) ++ [] from hp) (by simp)

/-- an item appended to a tracked list -/
theorem app_ok {E : Value → Shared → Prop} {D : Addr} {xs : List V} {y : V} {v : Value} {Q : Value → Shared → Prop} (I : Inv X pins σ H s) (hD : H D = some (.lst xs)) (hz : xs.length < sizeLine) (r : RelV y v)
    (h : ∀ s', Inv X pins σ (upd H D (.lst (xs ++ [y]))) s' → Q .none s') : wpAny (model X.prog X.w) X.A (call (.builtin "list.append") [.ref D, v]) Q E s := by
  obtain ⟨hz', its, n, ri, e⟩ := I.hok D _ hD
  have hl := ri.length
  refine append_at (hsz := by rw [List.size_toArray]; omega) e fun h' sb ho' => ?_
  refine h { s with heap := h' } (I.write (t' := s.toks) (by rw [hD]; trivial) (.inl rfl) (fun b u hb q => (sb.2 b hb).trans q) ⟨_, ho'⟩ ⟨by rw [List.length_append]; exact hz, its ++ [v], n + 1, ri.append (.cons r .nil), ?_⟩)
  rw [ho']
  simp

/-- a clause's tests -/
def PTs (X : Cx) (ifs : List Expr) (t : TT) : Prop :=
  ∀ (pins : List (Addr × Obj)) (s : Shared) (σ : St) (H : Hp) (Q : Bool → Hp → Prop), Inv X pins σ H s → t σ H Q →
    wpAny (model X.prog X.w) X.A (forIn ifs true fun c r => if r = true then do let ok ← isTrue c X.env (eval c X.env); pure (ForInStep.yield ok) else pure (ForInStep.yield r)) (TP X pins σ Q) X.xe s
def tYes : TT := fun _ H Q => Q true H
theorem pts_nil : PTs X [] tYes := fun _ _ _ H _ I h => wpAny_tests_nil ⟨H, I, h⟩
end

theorem thnF {α : Type} {t : Sem α} {Q Q' : α → Shared → Prop} {M : Model} {A : Around} {E : Value → Shared → Prop} {s : Shared} (h : wpAny M A t Q (fun _ _ => False) s) (hQ : ∀ a s, Q a s → Q' a s) : wpAny M A t Q' E s := wpAny_mono h hQ fun _ _ z => False.elim z

/-- the loop of a list comprehension's block, the target of any form (codeAny_compLoop_tests asks a target that no tuple goes to; statement and proof follow it, PyProof/CompMap.lean:41-61, with the step letOwnedTupleGo kept) -/
theorem compLoop_any {prog : Program} {w : World} {A : Around} {R : Result → Shared → Prop} {s : Shared} {elt target iter : Expr} {ifs : List Expr} {scope : Scope} {pos : Pos} {it acc : Value} {env : Env} (I : Nat → Shared → Prop)
    (turn : ∀ n s, I n s → wpAny (model prog w) A (pyNext it) (fun r s₁ => match r with
      | none => R (.ok .next) s₁
      | some v => wpAny (model prog w) A (letOwnedTupleGo target it v) (fun _ s₁' => wpAny (model prog w) A (assign target env v) (fun _ s₂ =>
          wpAny (model prog w) A (forIn ifs true fun c r => if r = true then do let ok ← isTrue c env (eval c env); pure (ForInStep.yield ok) else pure (ForInStep.yield r)) (fun ok s₃ =>
            if ok = true then wpAny (model prog w) A (eval elt env) (fun x s₄ =>
              wpAny (model prog w) A (call (.builtin "list.append") [acc, x]) (fun _ s₅ => ∃ m, m < n ∧ I m s₅) (notedBy (model prog w) A env fun e s' => R (.error e) s') s₄) (notedBy (model prog w) A env fun e s' => R (.error e) s') s₃
            else ∃ m, m < n ∧ I m s₃) (notedBy (model prog w) A env fun e s' => R (.error e) s') s₂) (notedBy (model prog w) A env fun e s' => R (.error e) s') s₁') (notedBy (model prog w) A env fun e s' => R (.error e) s') s₁) (notedBy (model prog w) A env fun e s' => R (.error e) s') s)
    (n : Nat) (h : I n s) :
    codeAny (model prog w) A (.compLoop (.ListComp elt [⟨target, iter, ifs, 0⟩] scope pos) 0 it acc env) R s := by
  refine codeAny_loop rfl I (fun n s hI => ?_) n h
  show wpAny _ A ((compTurn (.ListComp elt [⟨target, iter, ifs, 0⟩] scope pos) 0 it acc env).onRaise (fun x => do noteFrame x env; theTreesLotGoes x)) _ _ s
  refine wpAny_noted ?_
  rw [compTurn_list]
  refine wpAny_bind (wpAny_standAt (wpAny_bind (wpAny_mono (turn n s hI) (fun r s₁ h₁ => ?_) fun _ _ h' => h')))
  cases r with
  | none => exact wpAny_pure h₁
  | some v =>
    refine wpAny_bind (wpAny_mono h₁ (fun _ s₁' h₁' => ?_) fun _ _ h' => h')
    refine wpAny_bind (wpAny_mono h₁' (fun _ s₂ h₂ => wpAny_bind (wpAny_mono h₂ (fun ok s₃ h₃ => ?_) fun _ _ h' => h')) fun _ _ h' => h')
    cases ok with
    | false => exact wpAny_pure ⟨rfl, h₃⟩
    | true =>
      exact wpAny_bind (wpAny_bind (wpAny_mono h₃ (fun x s₄ h₄ => wpAny_bind (wpAny_mono h₄ (fun _ s₅ h₅ => wpAny_pure (wpAny_pure ⟨rfl, h₅⟩)) fun _ _ h' => h')) fun _ _ h' => h'))

section
variable {X : Cx}
/-- [elt for target in iter if ..]: D the new list; W by the turn and a measure, Nx what a turn is to reach -/
def tLc (wi : TI) (g : TG) (tt : TT) (te : TE) (vs : List Nat) : TE := fun σ H Q => wi σ H fun J H1 => ∀ D, H1 D = none → ∃ W : Nat → Nat → Hp → Prop, (∃ m, W 0 m (upd H1 D (.lst []))) ∧ ∀ i m H, W i m H →
  (J.stop i H ∧ Q (.ref D) H) ∨ (J.go i H ∧ ∃ Nx : Hp → Prop, (∀ H', Nx H' → ∃ m', m' < m ∧ W (i + 1) m' H') ∧ ∀ x H', J.yld i H x H' → g x (wipe σ vs) H' fun σ2 H2 => wipe σ2 vs = wipe σ vs ∧ tt σ2 H2 fun b H3 =>
    if b = true then te σ2 H3 fun y H4 => ∃ acc, H4 D = some (.lst acc) ∧ acc.length < sizeLine ∧ Nx (upd H4 D (.lst (acc ++ [y]))) else Nx H3)
theorem lc_core {pins : List (Addr × Obj)} {s : Shared} {σ : St} {H : Hp} {Q : VK} {elt tg iter : Expr} {ifs : List Expr} {scope : Scope} {own : List (Str × Nat)} {pos pos' : Pos} {wi : TI} {g : TG} {tt : TT} {te : TE} {use : Option (Value → Sem Unit)} {Qf : Value → Shared → Prop}
    (hc : X.calm = true) (hN : X.N.Nodup) (I : Inv X pins σ H s) (hi : PI X tg iter wi) (ok : BlkOk X.N X.env.scope scope own)
    (hg : ∀ (s : Shared) (H : Hp) (C : Addr) (cl : List (Str × Addr)) (fp : List Addr), PG (X.blk s H scope (compEnvC scope cl C X.env) fp) tg g) (ht : ∀ (s : Shared) (H : Hp) (C : Addr) (cl : List (Str × Addr)) (fp : List Addr), PTs (X.blk s H scope (compEnvC scope cl C X.env) fp) ifs tt)
    (he : ∀ (s : Shared) (H : Hp) (C : Addr) (cl : List (Str × Addr)) (fp : List Addr), PE (X.blk s H scope (compEnvC scope cl C X.env) fp) elt te) (hs : ∀ x, foldedSetIterable iter X.env x = pure x)
    (h : tLc wi g tt te (own.map (·.2)) σ H Q)
    (hRR : ∀ D C s' m H', Inv X pins σ H' s' → Q (.ref D) H' → s'.heap.Ns C m → FpOk X pins H' C → compPost (model X.prog X.w) X.A X.xe use Qf (.ref D) C (.ok .next) s') :
    wpAny (model X.prog X.w) X.A (comprehension (.ListComp elt [⟨tg, iter, ifs, 0⟩] scope pos) scope X.env pos' (newList []) false (eval iter X.env) use) Qf X.xe s := by
  have hfree : ∀ y ∈ scope.names, y.2 = .free → ∃ c, X.env.cells.lookup y.1 = some c := fun y hy e => by
    rcases ok.free y hy e with k | k
    · exact I.ok.has _ (.inl k)
    · exact I.ok.has _ (.inr k)
  refine wpAny_comprehension_free (use := use) rfl hs (closure_ok hfree) ok.kind (fun y hy e => by rw [ok.uniq y hy, e])
    (thn (hi pins s σ H _ I h) fun xv s1 hx => thn hx fun itv s2 h2 => ?_)
  obtain ⟨it, fp, tn, J, H2, e, I2, T, st2, f2, q⟩ := h2
  subst e
  refine wpAny_newObj_type (newEnv_comp ?_) (by show 0 ≤ sizeLine; decide)
  generalize hD : s2.heap.objs.size = D
  have hDn : H2 D = none := I2.hok.fresh (Nat.le_of_eq hD)
  obtain ⟨W, ⟨m0, w0⟩, turn⟩ := q D hDn
  -- the new list
  generalize hs3 : ({ s2 with heap := s2.heap.push { cls := .type "list", data := .seq ([] : List Value).toArray } } : Shared) = s3
  have I3 : Inv X pins σ (upd H2 D (.lst [])) s3 := by
    rw [← hs3]
    refine I2.laid (t' := s2.toks) (fun b o e => Heap.get?_push_of_some _ e) (Nat.le_of_eq hD) ⟨Nat.zero_le _, [], 0, .nil, ?_⟩
    rw [← hD]
    exact Heap.get?_push_size _ rfl
  have h3 : s3.heap = s2.heap.push { cls := .type "list", data := .seq ([] : List Value).toArray } := by rw [← hs3]
  have sz : ∀ b ∈ fp, b < s2.heap.objs.size := fun b hb => by
    obtain ⟨o, e, _⟩ := T.obj _ _ st2 b hb
    exact Heap.lt_size e
  have f3 : ∀ b ∈ fp, FpOk X pins (upd H2 D (.lst [])) b ∧ b < s3.heap.objs.size := fun b hb => by
    have hlt := sz b hb
    refine ⟨⟨?_, (f2 b hb).2⟩, by rw [h3, Heap.size_push]; exact Nat.lt_succ_of_lt hlt⟩
    rw [upd_ne (by rw [← hD]; exact Nat.ne_of_lt hlt)]
    exact (f2 b hb).1
  have st3 : tn 0 s3.heap := T.keep _ _ _ st2 fun b _ o e => by rw [h3]; exact Heap.get?_push_of_some _ e
  have I4 := block_start I3 ok hN f3
  have pg := hg s3 (upd H2 D (.lst [])) s3.heap.objs.size (cellsFrom (s3.heap.objs.size + 1) scope.names (cloFrom X.env.cells scope.names [])) fp
  have pt := ht s3 (upd H2 D (.lst [])) s3.heap.objs.size (cellsFrom (s3.heap.objs.size + 1) scope.names (cloFrom X.env.cells scope.names [])) fp
  have pe := he s3 (upd H2 D (.lst [])) s3.heap.objs.size (cellsFrom (s3.heap.objs.size + 1) scope.names (cloFrom X.env.cells scope.names [])) fp
  show codeAny _ _ (.compStart (.ListComp elt [⟨tg, iter, ifs, 0⟩] scope pos) 0 (.ref it) (.ref D) (compEnvC scope (cellsFrom (s3.heap.objs.size + 1) scope.names (cloFrom X.env.cells scope.names [])) s3.heap.objs.size X.env)) (compPost (model X.prog X.w) X.A X.xe use Qf (.ref D) s3.heap.objs.size) { s3 with heap := pushCells (s3.heap.push { cls := .type "dict", data := .dict #[] }) scope.names }
  have nfp : ∀ b ∈ fp, (upd H2 D (.lst [])) b = none := fun b hb => (f3 b hb).1.1
  generalize hce : compEnvC scope (cellsFrom (s3.heap.objs.size + 1) scope.names (cloFrom X.env.cells scope.names [])) s3.heap.objs.size X.env = ce at I4 pg pt pe ⊢
  have cL : ce.locals = s3.heap.objs.size := by subst hce; rfl
  generalize hH3 : upd H2 D (.lst []) = H3 at I3 I4 pg pt pe w0 nfp f3
  generalize hs4 : ({ s3 with heap := pushCells (s3.heap.push { cls := .type "dict", data := .dict #[] }) scope.names } : Shared) = s4 at I4 ⊢
  have st4 : tn 0 s4.heap := T.keep _ _ _ st3 fun b _ o e => by rw [← hs4]; exact pushCells_keeps _ _ _ _ (Heap.get?_push_of_some _ e)
  have stat : ∀ {σ' : St} {H' : Hp} {s' : Shared}, Inv (X.blk s3 H3 scope ce fp) [] σ' H' s' → (∀ b ∈ fp, H' b = none) → ∀ b ∈ fp, FpOk (X.blk s3 H3 scope ce fp) [] H' b := fun {σ' H' s'} I' hn b hb =>
    ⟨hn b hb, (I'.ok.exf b hb).1, I'.ok.exfs b hb, .inl hb, fun x c e => (I'.ok.exf b hb).2 x c e, fun p hp => absurd (show p ∈ ([] : List (Addr × Obj)) ++ [] from hp) (by simp)⟩
  have loop : codeAny (model X.prog X.w) X.A (.compLoop (.ListComp elt [⟨tg, iter, ifs, 0⟩] scope pos) 0 (.ref it) (.ref D) ce) (compPost (model X.prog X.w) X.A X.xe use Qf (.ref D) s3.heap.objs.size) s4 := by
    refine compLoop_any (fun n s' => ∃ i H', Inv (X.blk s3 H3 scope ce fp) [] (wipe σ (own.map (·.2))) H' s' ∧ tn i s'.heap ∧ (∀ b ∈ fp, H' b = none) ∧ W i n H') ?_ m0 ⟨0, H3, I4, st4, nfp, w0⟩
    rintro n s5 ⟨i, H5, I5, st5, n5, w5⟩
    rcases turn i n H5 w5 with ⟨stop, qq⟩ | ⟨go, Nx, hNx, step⟩
    · have td := T.done (X.blk s3 H3 scope ce fp) rfl rfl rfl hc i [] s5 _ H5 (fun _ _ => False) I5 (stat I5 n5) st5 stop
      refine thnF td fun r s6 ⟨hr, I6⟩ => ?_
      subst hr
      -- back in the def's context
      have I7 : Inv X pins σ H5 s6 := I3.call' (ch := fp) I6.os I6.base I6.hok I6.bare fun b hb => ⟨(f3 b hb).1.2.2.2.1, (f3 b hb).1.2.1, (f3 b hb).1.2.2.2.2.1, (f3 b hb).1.2.2.2.2.2⟩
      have nC : H5 s3.heap.objs.size = none := by
        have z : H5 ce.locals = none := I6.free
        rw [cL] at z
        exact z
      obtain ⟨m, hn, _⟩ := I6.loc
      have hn : s6.heap.Ns ce.locals m := hn
      rw [cL] at hn
      exact hRR D s3.heap.objs.size s6 m H5 I7 qq hn (I3.fpOk (Nat.le_refl _) nC)
    · have ti := T.item (X.blk s3 H3 scope ce fp) rfl rfl rfl hc i [] s5 _ H5 (fun _ _ => False) I5 (stat I5 n5) st5 go
      refine thnF ti fun r s6 ⟨u, hr, h6⟩ => ?_
      subst hr
      refine thnF h6 fun _ s7 ⟨x, H7, I7, r7, y7, st7, n7⟩ => ?_
      have I7' := I7.pinned (stat I7 n7) (T.obj _ _ st7)
      refine thnF (pg _ s7 _ H7 x u _ I7' r7 (step x H7 y7)) fun _ s8 ⟨σ8, H8, I8, hw8, q8⟩ => ?_
      refine thnF (pt _ s8 σ8 H8 _ I8 q8) fun b s9 ⟨H9, I9, q9⟩ => ?_
      -- the turn's end
      have fin : ∀ {s' : Shared} {H' : Hp}, Inv (X.blk s3 H3 scope ce fp) ([] ++ pinsAt fp s7.heap) σ8 H' s' → Nx H' → ∃ m, m < n ∧ ∃ i H', Inv (X.blk s3 H3 scope ce fp) [] (wipe σ (own.map (·.2))) H' s' ∧ tn i s'.heap ∧ (∀ b ∈ fp, H' b = none) ∧ W i m H' := fun {s' H'} I' nx => by
        obtain ⟨m', hm, w'⟩ := hNx H' nx
        have pin' : ∀ b ∈ fp, ∀ o, s7.heap.get? b = some o → s'.heap.get? b = some o ∧ H' b = none := fun b hb o e =>
          let z := I'.pin (b, o) (List.mem_append_right _ (List.mem_append_right _ (mem_pinsAt hb e)))
          ⟨z.1, z.2.1⟩
        have hl : (wipe σ (own.map (·.2))).length = σ8.length := by rw [← hw8, wipe_length]
        refine ⟨m', hm, i + 1, H', (I'.unpinned (pins := [])).weak hl (fun j v e => ?_), T.keep _ _ _ st7 fun b hb o e => (pin' b hb o e).1, fun b hb => ?_, w'⟩
        · rw [← hw8] at e
          exact (wipe_some e).1
        · obtain ⟨o, e, _⟩ := T.obj _ _ st7 b hb
          exact (pin' b hb o e).2
      cases b with
      | false =>
        simp only [Bool.false_eq_true, if_false] at q9 ⊢
        exact fin I9 q9
      | true =>
        simp only [if_true] at q9 ⊢
        refine thnF (pe _ s9 σ8 H9 _ I9 q9) fun z s10 ⟨yv, H10, I10, r10, acc, hD10, hz10, nx⟩ => ?_
        exact app_ok (X := X.blk s3 H3 scope ce fp) I10 hD10 hz10 r10 fun s11 I11 => fin I11 nx
  exact codeAny_compStart_list loop (T.self X.A 0 _ _ _ st4 loop)
/-- as a value -/
theorem pe_lc {elt tg iter : Expr} {ifs : List Expr} {scope : Scope} {own : List (Str × Nat)} {pos : Pos} {wi : TI} {g : TG} {tt : TT} {te : TE} (hc : X.calm = true) (hN : X.N.Nodup) (hi : PI X tg iter wi) (ok : BlkOk X.N X.env.scope scope own)
    (hg : ∀ (s : Shared) (H : Hp) (C : Addr) (cl : List (Str × Addr)) (fp : List Addr), PG (X.blk s H scope (compEnvC scope cl C X.env) fp) tg g) (ht : ∀ (s : Shared) (H : Hp) (C : Addr) (cl : List (Str × Addr)) (fp : List Addr), PTs (X.blk s H scope (compEnvC scope cl C X.env) fp) ifs tt)
    (he : ∀ (s : Shared) (H : Hp) (C : Addr) (cl : List (Str × Addr)) (fp : List Addr), PE (X.blk s H scope (compEnvC scope cl C X.env) fp) elt te) (hs : ∀ x, foldedSetIterable iter X.env x = pure x := by intro _; rfl) :
    PE X (.ListComp elt [⟨tg, iter, ifs, 0⟩] scope pos) (tLc wi g tt te (own.map (·.2))) := by
  intro pins s σ H Q I h
  rw [eval_ListComp]
  refine lc_core hc hN I hi ok hg ht he hs h fun D C s' m H' I' q hn f => ⟨m, hn, fun h'' sb => ?_⟩
  obtain ⟨f0, f1, f2, f3, f4, f5⟩ := f
  exact ⟨.ref D, H', I'.turned (t' := s'.toks) (fun b o hb e => (sb.2 b hb).trans e) f0 f1 f3 f4 f5, rfl, q⟩
end

/-! ### the forms one uses -/
/-- over a range: Pv by the turn and the heap (the new list at D within) -/
theorem lc_range {lo : Int} {n : Nat} {g : TG} {tt : TT} {te : TE} {vs : List Nat} {σ : St} {H1 : Hp} {D : Addr} {Qd : Hp → Prop} (Pv : Nat → Hp → Prop) (h0 : Pv 0 (upd H1 D (.lst [])))
    (hs : ∀ i H, i < n → Pv i H → g (.int (lo + i)) (wipe σ vs) H fun σ2 H2 => wipe σ2 vs = wipe σ vs ∧ tt σ2 H2 fun b H3 =>
      if b = true then te σ2 H3 fun y H4 => ∃ acc, H4 D = some (.lst acc) ∧ acc.length < sizeLine ∧ Pv (i + 1) (upd H4 D (.lst (acc ++ [y]))) else Pv (i + 1) H3) (hd : ∀ H, Pv n H → Qd H) :
    ∃ W : Nat → Nat → Hp → Prop, (∃ m, W 0 m (upd H1 D (.lst []))) ∧ ∀ i m H, W i m H →
      ((Itr lo n).stop i H ∧ Qd H) ∨ ((Itr lo n).go i H ∧ ∃ Nx : Hp → Prop, (∀ H', Nx H' → ∃ m', m' < m ∧ W (i + 1) m' H') ∧ ∀ x H', (Itr lo n).yld i H x H' → g x (wipe σ vs) H' fun σ2 H2 => wipe σ2 vs = wipe σ vs ∧ tt σ2 H2 fun b H3 =>
        if b = true then te σ2 H3 fun y H4 => ∃ acc, H4 D = some (.lst acc) ∧ acc.length < sizeLine ∧ Nx (upd H4 D (.lst (acc ++ [y]))) else Nx H3) := by
  refine ⟨fun i m H => m = n - i ∧ i ≤ n ∧ Pv i H, ⟨n, by simp, Nat.zero_le _, h0⟩, ?_⟩
  rintro i m H ⟨rfl, hi, p⟩
  by_cases hlt : i < n
  · refine .inr ⟨hlt, Pv (i + 1), fun H' p' => ⟨n - (i + 1), by omega, rfl, hlt, p'⟩, fun x H' y => ?_⟩
    obtain ⟨e, y⟩ := y
    subst e y
    exact hs i _ hlt p
  · have e : i = n := by omega
    subst e
    exact .inl ⟨Nat.le_refl _, hd H p⟩
/-- over a list that the block leaves as it is -/
theorem lc_list {K : PySem.W.Frag} {a : Addr} {xs : List V} {g : TG} {tt : TT} {te : TE} {vs : List Nat} {σ : St} {H1 : Hp} {D : Addr} {Qd : Hp → Prop} (Pv : Nat → Hp → Prop) (h0 : Pv 0 (upd H1 D (.lst []))) (hl : ∀ i H, i ≤ xs.length → Pv i H → SqL K H a xs)
    (hs : ∀ i x H, xs[i]? = some x → Pv i H → g x (wipe σ vs) H fun σ2 H2 => wipe σ2 vs = wipe σ vs ∧ tt σ2 H2 fun b H3 =>
      if b = true then te σ2 H3 fun y H4 => ∃ acc, H4 D = some (.lst acc) ∧ acc.length < sizeLine ∧ Pv (i + 1) (upd H4 D (.lst (acc ++ [y]))) else Pv (i + 1) H3) (hd : ∀ H, Pv xs.length H → Qd H) :
    ∃ W : Nat → Nat → Hp → Prop, (∃ m, W 0 m (upd H1 D (.lst []))) ∧ ∀ i m H, W i m H →
      ((Itl K a).stop i H ∧ Qd H) ∨ ((Itl K a).go i H ∧ ∃ Nx : Hp → Prop, (∀ H', Nx H' → ∃ m', m' < m ∧ W (i + 1) m' H') ∧ ∀ x H', (Itl K a).yld i H x H' → g x (wipe σ vs) H' fun σ2 H2 => wipe σ2 vs = wipe σ vs ∧ tt σ2 H2 fun b H3 =>
        if b = true then te σ2 H3 fun y H4 => ∃ acc, H4 D = some (.lst acc) ∧ acc.length < sizeLine ∧ Nx (upd H4 D (.lst (acc ++ [y]))) else Nx H3) := by
  refine ⟨fun i m H => m = xs.length - i ∧ i ≤ xs.length ∧ Pv i H, ⟨xs.length, by simp, Nat.zero_le _, h0⟩, ?_⟩
  rintro i m H ⟨rfl, hi, p⟩
  have q := hl i H hi p
  by_cases hlt : i < xs.length
  · refine .inr ⟨⟨xs, xs[i], q, by simp [hlt]⟩, Pv (i + 1), fun H' p' => ⟨xs.length - (i + 1), by omega, rfl, hlt, p'⟩, fun x H' y => ?_⟩
    obtain ⟨e, y⟩ := y
    subst e
    exact hs i x _ (y xs q) p
  · have e : i = xs.length := by omega
    subst e
    exact .inl ⟨⟨xs, q, Nat.le_refl _⟩, hd H p⟩
def blkC (N : List Str) (sc scope : Scope) (own : List (Str × Nat)) : Bool :=
  (match scope.kind with | .function => true | _ => false) && (scope.names.all fun y => decide (scope.names.lookup y.1 = some y.2)) && (own.all fun p => decide (N[p.2]? = some p.1)) &&
    (scope.names.all fun y => match y.2 with
      | .free => (match sc.names.lookup y.1 with | some .cell => true | some .free => true | _ => false)
      | .local => decide (y.1 ∈ own.map (·.1)) || decide (y.1 ∉ N)
      | .cell => decide (y.1 ∈ own.map (·.1)) || decide (y.1 ∉ N)
      | _ => true)
theorem blkOk_by {N : List Str} {sc scope : Scope} {own : List (Str × Nat)} (h : blkC N sc scope own = true) : BlkOk N sc scope own := by
  unfold blkC at h
  simp only [Bool.and_eq_true, List.all_eq_true, decide_eq_true_eq] at h
  obtain ⟨⟨⟨h1, h2⟩, h3⟩, h4⟩ := h
  refine ⟨?_, h2, h3, fun y hy e => ?_, fun y hy e => ?_⟩
  · split at h1
    · assumption
    · cases h1
  · have q := h4 y hy
    simp only [e] at q
    split at q <;> first | exact .inl (by assumption) | exact .inr (by assumption) | cases q
  · have q := h4 y hy
    rcases e with e | e <;> (simp only [e, Bool.or_eq_true, decide_eq_true_eq] at q; exact q)
end L2

namespace L2
open PySem PySem.Spec PyProof.Rows


section
variable {prog : Program} {w : World} {A : Around} {R : Result → Shared → Prop} {s : Shared} {elt t0 i0 t1 i1 : Expr} {ifs0 ifs1 : List Expr} {scope : Scope} {pos : Pos} {it acc : Value} {env : Env}
end

section
variable {X : Cx}
end
end L2

namespace L2
open PySem PySem.Spec PyProof.Rows

/-! ### lists of pairs as tables -/
section
variable {κ : Type} [DecidableEq κ]
def valV (kvs : List (κ × V)) (k : κ) : Option V := (kvs.find? fun kv => decide (kv.1 = k)).map (·.2)
/-- in its place, or at the end -/
def putK (kvs : List (κ × V)) (k : κ) (v : V) : List (κ × V) :=
  if (kvs.any fun kv => decide (kv.1 = k)) = true then kvs.map (fun kv => if kv.1 = k then (kv.1, v) else kv) else kvs ++ [(k, v)]
def dropK (kvs : List (κ × V)) (k : κ) : List (κ × V) := kvs.filter fun kv => decide (kv.1 ≠ k)

theorem valV_pos {p : κ × V} {r : List (κ × V)} {k : κ} (e : p.1 = k) : valV (p :: r) k = some p.2 := by simp [valV, List.find?_cons, e]
theorem valV_neg {p : κ × V} {r : List (κ × V)} {k : κ} (e : ¬ p.1 = k) : valV (p :: r) k = valV r k := by simp [valV, List.find?_cons, e]
theorem valV_any (k : κ) : ∀ kvs : List (κ × V), (kvs.any fun kv => decide (kv.1 = k)) = (valV kvs k).isSome
  | [] => rfl
  | p :: r => by
    rw [List.any_cons]
    by_cases e : p.1 = k
    · simp only [valV_pos e, decide_eq_true e, Bool.true_or, Option.isSome_some]
    · rw [valV_neg e, decide_eq_false e, Bool.false_or]; exact valV_any k r

theorem RelO.isSome_eq {o : Option V} {u : Option Value} (r : RelO o u) : o.isSome = u.isSome := by
  cases o with
  | none => cases u with
    | none => rfl
    | some _ => exact (show False from r).elim
  | some _ => cases u with
    | none => exact (show False from r).elim
    | some _ => rfl
theorem RelO.getD {o : Option V} {u : Option Value} {d : V} {d' : Value} (r : RelO o u) (rd : RelV d d') : RelV (o.getD d) (u.getD d') := by
  cases o with
  | none => cases u with
    | none => exact rd
    | some _ => exact (show False from r).elim
  | some _ => cases u with
    | none => exact (show False from r).elim
    | some _ => exact r

/-- raw tables of the same keys -/
theorem KV.val {kvs : List (κ × V)} {vs : List (κ × Value)} (r : KV kvs vs) (k : κ) : RelO (valV kvs k) (valueAt vs k) := by
  unfold KV at r
  induction r with
  | nil => exact True.intro
  | @cons p q ps qs h t ih =>
    obtain ⟨h1, h2⟩ := h
    by_cases e : p.1 = k
    · have e' : q.1 = k := h1.symm.trans e
      have b : valueAt (q :: qs) k = some q.2 := by simp [valueAt, List.find?_cons, e']
      rw [valV_pos e, b]; exact h2
    · have e' : ¬ q.1 = k := fun z => e (h1.trans z)
      have b : valueAt (q :: qs) k = valueAt qs k := by simp [valueAt, List.find?_cons, e']
      rw [valV_neg e, b]; exact ih
theorem KV.any {kvs : List (κ × V)} {vs : List (κ × Value)} (r : KV kvs vs) (k : κ) : (kvs.any fun kv => decide (kv.1 = k)) = vs.any fun kv => decide (kv.1 = k) := by
  unfold KV at r
  induction r with
  | nil => rfl
  | cons h t ih => rw [List.any_cons, List.any_cons, ih, h.1]
theorem KV.repl {kvs : List (κ × V)} {vs : List (κ × Value)} (r : KV kvs vs) (k : κ) {y : V} {u : Value} (ry : RelV y u) :
    KV (kvs.map fun kv => if kv.1 = k then (kv.1, y) else kv) (vs.map fun kv => if kv.1 = k then (kv.1, u) else kv) := by
  unfold KV at r ⊢
  induction r with
  | nil => exact .nil
  | @cons p q ps qs h t ih =>
    rw [List.map_cons, List.map_cons]
    refine .cons ?_ ih
    obtain ⟨h1, h2⟩ := h
    by_cases e : p.1 = k
    · rw [if_pos e, if_pos (h1.symm.trans e)]; exact ⟨h1, ry⟩
    · rw [if_neg e, if_neg (fun z => e (h1.trans z))]; exact ⟨h1, h2⟩
theorem KV.put {kvs : List (κ × V)} {vs : List (κ × Value)} (r : KV kvs vs) (k : κ) {y : V} {u : Value} (ry : RelV y u) : KV (putK kvs k y) (stored vs k u) := by
  unfold putK stored
  rw [r.any k]
  by_cases e : (vs.any fun kv => decide (kv.1 = k)) = true
  · rw [if_pos e, if_pos e]; exact r.repl k ry
  · rw [if_neg e, if_neg e]; exact Paired.snoc r ⟨rfl, ry⟩
theorem KV.drop {kvs : List (κ × V)} {vs : List (κ × Value)} (r : KV kvs vs) (k : κ) : KV (dropK kvs k) (without vs k) := by
  unfold KV at r ⊢
  unfold dropK without
  induction r with
  | nil => exact .nil
  | @cons p q ps qs h t ih =>
    obtain ⟨h1, h2⟩ := h
    rw [List.filter_cons, List.filter_cons]
    by_cases e : p.1 = k
    · have a : ¬ decide (p.1 ≠ k) = true := by simp [e]
      have b : ¬ decide (q.1 ≠ k) = true := by simp [h1.symm.trans e]
      rw [if_neg a, if_neg b]; exact ih
    · have e' : ¬ q.1 = k := fun z => e (h1.trans z)
      have a : decide (p.1 ≠ k) = true := by simp [e]
      have b : decide (q.1 ≠ k) = true := by simp [e']
      rw [if_pos a, if_pos b]; exact .cons ⟨h1, h2⟩ ih
theorem KV.keys {kvs : List (κ × V)} {vs : List (κ × Value)} (r : KV kvs vs) : kvs.map (·.1) = vs.map (·.1) := by
  unfold KV at r
  induction r with
  | nil => rfl
  | cons h t ih => rw [List.map_cons, List.map_cons, ih, h.1]
theorem KV.length {kvs : List (κ × V)} {vs : List (κ × Value)} (r : KV kvs vs) : kvs.length = vs.length := Paired.length r
end


/-! ### a tracked dict, its keys ints and texts or tuples of these -/
theorem kV_is {P : Program} {w : World} {k : Key} {u : Value} (r : RelV (kV k) u) : (mixKind P w).is k u = true := by
  cases k with
  | inl i => obtain ⟨t, e⟩ := (show ∃ t, u = Value.int i t from r); subst e; exact mixKind_int P w i t
  | inr x => obtain ⟨t, e⟩ := (show ∃ t, u = Value.str x t from r); subst e; exact mixKind_str P w x t
theorem items_are {P : Program} {w : World} : ∀ {ks : List Key} {us : List Value}, Vals (ks.map kV) us → ItemsAre (mixKind P w) ks us
  | [], _, r => by rw [List.map_nil] at r; cases r; exact .nil
  | k :: ks, _, r => by
    rw [List.map_cons] at r
    cases r with
    | cons h t => exact .cons (kV_is h) (items_are t)

/-- raw entries of a dict with tuple keys -/
abbrev KT (H : Hp) : List (List Key × V) → List (List Key × Addr × Value) → Prop := Paired fun p q => p.1 = q.1 ∧ H q.2.1 = some (.tup (p.1.map kV)) ∧ RelV p.2 q.2.2
theorem KT.val {H : Hp} {kvs : List (List Key × V)} {xs : List (List Key × Addr × Value)} (r : KT H kvs xs) (k : List Key) : RelO (valV kvs k) ((atKey xs k).map (·.2)) := by
  induction r with
  | nil => exact True.intro
  | @cons p q ps qs h t ih =>
    obtain ⟨h1, _, h2⟩ := h
    by_cases e : p.1 = k
    · have e' : q.1 = k := h1.symm.trans e
      have b : atKey (q :: qs) k = some q.2 := by simp [atKey, List.find?_cons, e']
      rw [valV_pos e, b]; exact h2
    · have e' : ¬ q.1 = k := fun z => e (h1.trans z)
      have b : atKey (q :: qs) k = atKey qs k := by simp [atKey, List.find?_cons, e']
      rw [valV_neg e, b]; exact ih
theorem KT.repl {H : Hp} {kvs : List (List Key × V)} {xs : List (List Key × Addr × Value)} (r : KT H kvs xs) (k : List Key) {y : V} {u : Value} (ry : RelV y u) :
    KT H (kvs.map fun kv => if kv.1 = k then (kv.1, y) else kv) (xs.map (putAt k u)) := by
  induction r with
  | nil => exact .nil
  | @cons p q ps qs h t ih =>
    rw [List.map_cons, List.map_cons]
    refine .cons ?_ ih
    obtain ⟨h1, h2, h3⟩ := h
    unfold putAt
    by_cases e : p.1 = k
    · rw [if_pos e, if_pos (h1.symm.trans e)]; exact ⟨h1, h2, ry⟩
    · rw [if_neg e, if_neg (fun z => e (h1.trans z))]; exact ⟨h1, h2, h3⟩
theorem KT.put {H : Hp} {kvs : List (List Key × V)} {xs : List (List Key × Addr × Value)} (r : KT H kvs xs) (k : List Key) {b : Addr} {y : V} {u : Value} (hb : H b = some (.tup (k.map kV))) (ry : RelV y u) :
    KT H (putK kvs k y) (storedH xs k b u) := by
  have e : (kvs.any fun kv => decide (kv.1 = k)) = (atKey xs k).isSome := by
    rw [valV_any, (r.val k).isSome_eq, Option.isSome_map]
  unfold putK storedH
  rw [e]
  by_cases q : (atKey xs k).isSome = true
  · rw [if_pos q, if_pos q]; exact r.repl k ry
  · rw [if_neg q, if_neg q]; exact Paired.snoc r ⟨rfl, hb, ry⟩
theorem KT.keeps {H H' : Hp} {kvs : List (List Key × V)} {xs : List (List Key × Addr × Value)} (r : KT H kvs xs) (ht : ∀ b ys, H b = some (.tup ys) → H' b = some (.tup ys)) : KT H' kvs xs :=
  Paired.mapP r fun _ _ z => ⟨z.1, ht _ _ z.2.1, z.2.2⟩

section
variable {P : Program} {w : World} {H : Hp} {h : Heap} {a : Addr}
/-- a tracked tuple of ints and texts is a key -/
theorem key_of {ks : List Key} (ok : HOk P w H h) (e : H a = some (.tup (ks.map kV))) : (tupleKind (mixKind P w)).is h ks a := by
  obtain ⟨_, its, r, o, h1, h2, n, h3⟩ := (show ObjOk P w H h a (.tup (ks.map kV)) from ok a _ e)
  exact ⟨o, its.toArray, n, h1, h2, h3, by simpa using items_are r⟩
end

/-- what the dict at a holds at the key y -/
def DGet (H : Hp) (a : Addr) (y : V) (r : Option V) : Prop :=
  (∃ kvs k, Rd H a (.dK kvs) ∧ y = kV k ∧ r = valV kvs k) ∨ ∃ kvs k b, Rd H a (.dT kvs) ∧ y = .ref b ∧ H b = some (.tup (k.map kV)) ∧ r = valV kvs k
/-- the heap behind a[y] = v -/
def DPut (H : Hp) (a : Addr) (y v : V) (H' : Hp) : Prop :=
  (∃ kvs k, H a = some (.dK kvs) ∧ y = kV k ∧ kvs.length < sizeLine ∧ H' = upd H a (.dK (putK kvs k v))) ∨
  ∃ kvs k b, H a = some (.dT kvs) ∧ y = .ref b ∧ H b = some (.tup (k.map kV)) ∧ kvs.length < sizeLine ∧ H' = upd H a (.dT (putK kvs k v))
theorem DGet.k {H : Hp} {a : Addr} {kvs : List (Key × V)} {k : Key} (e : H a = some (.dK kvs)) : DGet H a (kV k) (valV kvs k) := .inl ⟨kvs, k, .inl e, rfl, rfl⟩
theorem DGet.t {H : Hp} {a b : Addr} {kvs : List (List Key × V)} {k : List Key} (e : H a = some (.dT kvs)) (eb : H b = some (.tup (k.map kV))) : DGet H a (.ref b) (valV kvs k) := .inr ⟨kvs, k, b, .inl e, rfl, eb, rfl⟩
theorem DPut.k {H : Hp} {a : Addr} {kvs : List (Key × V)} {k : Key} {v : V} (e : H a = some (.dK kvs)) (hl : kvs.length < sizeLine) : DPut H a (kV k) v (upd H a (.dK (putK kvs k v))) := .inl ⟨kvs, k, e, rfl, hl, rfl⟩
theorem DPut.t {H : Hp} {a b : Addr} {kvs : List (List Key × V)} {k : List Key} {v : V} (e : H a = some (.dT kvs)) (eb : H b = some (.tup (k.map kV))) (hl : kvs.length < sizeLine) :
    DPut H a (.ref b) v (upd H a (.dT (putK kvs k v))) := .inr ⟨kvs, k, b, e, rfl, eb, hl, rfl⟩


section
variable {X : Cx} {pins : List (Addr × Obj)} {σ : St} {H : Hp} {s : Shared} {a : Addr} {y v : V} {u r : Value} {o : Option V} {A : Around} {E : Value → Shared → Prop}


end

section
variable {X : Cx} {pins : List (Addr × Obj)} {σ : St} {H : Hp} {s : Shared} {a : Addr} {kvs : List (Key × V)} {k : Key} {u : Value} {A : Around} {E : Value → Shared → Prop}
end


/-! ### readings and rules -/



section
variable {X : Cx} {o i e value : Expr} {pos pos' tpos : Pos} {td ty tv : TE}
end


/-! ### displays -/
section
variable {X : Cx} {pos : Pos}
end




/-! ### methods -/
/-- a method call o.m(e) of a built-in, with one argument: what must be seen of the text -/
structure M1 (X : Cx) (o : Expr) (m : Str) (apos : Pos) (e : Expr) (cpos : Pos) : Prop where
  base : attributeBase o m X.env (eval o X.env) = eval o X.env
  few : ((backTo cpos (starEach [e] X.env)).all (fun x => !x.1) && (backToKw cpos (keywordEach [] X.env)).all (fun x => x.1.isSome)
    && decide (([e] : List Expr).length + ([] : List Keyword).length + (if ([] : List Keyword).isEmpty then 0 else 1) < 30)) = true
  line : (apos.endLine == cpos.line) = true
  trees : backTo cpos (starEach [e] X.env) = [(false, eval e X.env)]
structure M2 (X : Cx) (o : Expr) (m : Str) (apos : Pos) (e f : Expr) (cpos : Pos) : Prop where
  base : attributeBase o m X.env (eval o X.env) = eval o X.env
  few : ((backTo cpos (starEach [e, f] X.env)).all (fun x => !x.1) && (backToKw cpos (keywordEach [] X.env)).all (fun x => x.1.isSome)
    && decide (([e, f] : List Expr).length + ([] : List Keyword).length + (if ([] : List Keyword).isEmpty then 0 else 1) < 30)) = true
  line : (apos.endLine == cpos.line) = true
  trees : backTo cpos (starEach [e, f] X.env) = [(false, eval e X.env), (false, eval f X.env)]


section
variable {X : Cx} {pins : List (Addr × Obj)} {σ : St} {H : Hp} {s : Shared} {a : Addr} {y d : V} {u r : Value} {o : Option V} {A : Around} {E : Value → Shared → Prop}
end

section
variable {X : Cx} {o e f : Expr} {apos cpos : Pos} {td ty tx : TE}
end

/-! ### dict(d): a copy -/
section
variable {X : Cx} {pins : List (Addr × Obj)} {σ : St} {H : Hp} {s : Shared} {a : Addr} {kvs : List (Key × V)} {A : Around} {E : Value → Shared → Prop}
end


section
variable {X : Cx} {pins : List (Addr × Obj)} {σ : St} {H : Hp} {s : Shared} {a : Addr} {y : V} {u : Value} {A : Around} {E : Value → Shared → Prop}
end
end L2

namespace L2
open PySem PySem.Spec PyProof.Rows


section
variable {prog : Program} {w : World} {A : Around} {E : Value → Shared → Prop}


end

section
variable {X : Cx}
end
end L2

namespace L2
open PySem PySem.Spec PyProof.Rows


section
variable {X : Cx} {pins : List (Addr × Obj)} {σ : St} {H : Hp} {s : Shared} {h' : Heap}

/-! ### locking a thing while a statement runs -/
end
section
variable {X : Cx}

/-! ### one iterator just laid -/
theorem pi_one {tg : Expr} {pins : List (Addr × Obj)} {σ : St} {H : Hp} {s : Shared} {R : It → Hp → Prop} {J : It} {tn : Nat → Heap → Prop} {tk : Nat} (I : Inv X pins σ H s) (o : Obj)
    (T : Turn X.prog X.w X.K tg J [s.heap.objs.size] s.heap.objs.size tn) (st : tn 0 (s.heap.push o)) (q : R J H) : PIE X pins σ tg R (.ref s.heap.objs.size) { s with heap := s.heap.push o, toks := tk } := by
  refine ⟨s.heap.objs.size, [s.heap.objs.size], tn, J, H, rfl, I.kept fun b ob e => Heap.get?_push_of_some _ e, T, st, fun b hb => ?_, q⟩
  have e : b = s.heap.objs.size := by simpa using hb
  subst e
  exact I.fpOk (Nat.le_refl _) (I.hok.fresh (Nat.le_refl _))
end

/-! ### range with a step -/
/-- lo, lo + c, .. (n of them) -/
def Itc (lo c : Int) (n : Nat) : It := ⟨fun i _ => i < n, fun i H x H' => H' = H ∧ x = .int (lo + (i : Nat) * c), fun i _ => n ≤ i⟩
theorem turn_rangeC {P : Program} {w : World} {K : PySem.W.Frag} {tg : Expr} (it : Addr) (lo c : Int) (n : Nat) : Turn P w K tg (Itc lo c n) [it] it (fun i h => IsRangeIter h it (lo + (i : Nat) * c) ((n : Int) - (i : Nat)) c) where
  mem := by simp
  obj := fun i h st b hb => by
    have e : b = it := by simpa using hb
    subst e
    exact ⟨_, st, fun v z => nomatch z⟩
  keep := fun i h h' st k => k it (by simp) _ st
  item := by
    intro X hP hw hK hc i pins s σ H E I hf st hg
    subst hP hw hK
    obtain ⟨f0, f1, f2, f3, f4, f5⟩ := hf it (by simp)
    have W := Walks.range (prog := X.prog) (w := X.w) (I.ok.hd hc) it lo c n
    refine W.item i s _ _ hg st fun v h' tk hv st' kk => ?_
    obtain ⟨t, rfl⟩ := hv
    have I1 : Inv X pins σ H { s with heap := h', toks := tk } := I.turned (fun b o hb e => kk b o (by simpa using hb) e) f0 f1 f3 f4 f5
    exact ⟨_, rfl, go_of (s := { s with heap := h', toks := tk }) (n := "range_iterator") st' rfl rfl (by decide) ⟨.int (lo + (i : Nat) * c), H, I1, ⟨t, rfl⟩, ⟨rfl, rfl⟩, st', fun b hb => (hf b hb).1⟩⟩
  done := by
    intro X hP hw hK hc i pins s σ H E I hf st hg
    subst hP hw hK
    obtain ⟨f0, f1, f2, f3, f4, f5⟩ := hf it (by simp)
    exact wpAny_pyNext_range_end (I.ok.hd hc) st (by have : n ≤ i := hg; omega) fun h' eb => ⟨rfl, I.turned (t' := s.toks) (fun b o hb e => eb b o hb e) f0 f1 f3 f4 f5⟩
  self := fun A i s Q E st h => wpAny_pyIter_rangeiter st h
/-- range(i, j, c): small bounds, n items -/
def RgC (i j c : Int) (n : Nat) : Prop := c ≠ 0 ∧ c.natAbs < 1073741824 ∧ Builtin.Range.small i j c = true ∧ Builtin.Range.rangeSize i j c = n
def iRng3 (ta : TA) : TI := fun σ H R => ta σ H fun vs H1 => ∃ (i j c : Int) (n : Nat), vs = [.int i, .int j, .int c] ∧ RgC i j c n ∧ R (Itc i c n) H1
section
variable {X : Cx} {tg : Expr}
theorem pi_range3 {a b c : Expr} {ta : TA} {p pos : Pos} (hg : Gl X "range") (hm : X.mg "range" = none) (ha : PA X [a, b, c] ta)
    (hs : starEach [a, b, c] X.env = (false, eval a X.env) :: starEach [b, c] X.env := by rfl) (hpl : (backTo pos (starEach [b, c] X.env)).any (·.1) = false := by rfl) :
    PI X tg (.Call (.Name "range" p) [a, b, c] [] pos) (iRng3 ta) := by
  intro pins s σ H R I h
  refine Call_ (ld_blt I hg hm boot_range (PyProof.Rows.callWith_type1 (thn (ha pos pins s σ H _ I h) fun us s1 ⟨vs, H1, I1, r1, q1⟩ => ?_) hs hpl))
  obtain ⟨i, j, k, n, e, ⟨c0, c1, c2, c3⟩, q⟩ := q1
  subst e
  cases r1 with
  | cons r rr =>
    cases rr with
    | cons r' rr =>
      cases rr with
      | cons r'' rr =>
        cases rr
        obtain ⟨t, rfl⟩ := r
        obtain ⟨t', rfl⟩ := r'
        obtain ⟨t'', rfl⟩ := r''
        refine call_range_3 c0 ?_ (.inl (PyProof.noPylong_small c1))
        refine wpAny_pyIter_range (IsRange.new ..) c2 ?_
        have I2 : Inv X pins σ H1 { s1 with heap := s1.heap.push { cls := .type "range", data := .fields #[.int i t, .int j t', .int k t''] } } := I1.kept (t' := s1.toks) fun b o e => Heap.get?_push_of_some _ e
        refine pi_one (tk := s1.toks) I2 _ (turn_rangeC _ i k n) ?_ q
        have e1 : i + ((0 : Nat) : Int) * k = i := by simp
        have e2 : (n : Int) - ((0 : Nat) : Int) = Builtin.Range.rangeSize i j k := by rw [c3]; simp
        show IsRangeIter _ _ (i + ((0 : Nat) : Int) * k) ((n : Int) - ((0 : Nat) : Int)) k
        rw [e1, e2]
        exact Heap.get?_push_size _ rfl
end

/-! ### reversed(list) -/
section
variable {X : Cx} {tg : Expr}
end

/-! ### a str -/

/-! ### a dict's keys: any dict's entries -/
section
variable {prog : Program} {w : World} {A : Around} {E : Value → Shared → Prop} {s : Shared}
end

/-! ### a locked dict -/
section
variable {X : Cx} {pins : List (Addr × Obj)} {σ : St} {H : Hp} {s : Shared} {d : Addr} {o : Obj}
end

section
variable {P : Program} {w : World} {K : PySem.W.Frag} {tg : Expr} {d : Addr} {o : Obj} {es : Array DictEntry} {ep : Nat}
end

/-! ### for k in d, d.keys(), d.values(), d.items() -/
section
variable {X : Cx} {tg e : Expr} {td : TE} {apos cpos : Pos}
end

/-! ### enumerate(list) -/
/-! ### zip(list, list) -/
end L2

section 
namespace Bits
open PySem PyProof.Rows








end Bits
end 

section 
namespace TL
open PySem PySem.Builtin PySem.Builtin.Str PySem.StrLaws

abbrev tl (x : Str) : List Nat := x.cps.toList

/-! ### the list functions -/
/-- S stands at the head of l -/
def pre (S l : List Nat) : Bool := l.take S.length == S
/-- l cut at each S from the left; k signs are still to be passed over -/
def spl (S : List Nat) : Nat → List Nat → List Nat → List (List Nat)
  | _, acc, [] => [acc]
  | 0, acc, c :: r => if pre S (c :: r) = true then acc :: spl S (S.length - 1) [] r else spl S 0 (acc ++ [c]) r
  | k + 1, acc, _ :: r => spl S k acc r
/-- what stands before the first S, and behind it -/
def par (S : List Nat) : List Nat → List Nat → Option (List Nat × List Nat)
  | _, [] => none
  | acc, c :: r => if pre S (c :: r) = true then some (acc, (c :: r).drop S.length) else par S (acc ++ [c]) r




/-! ### the model's split and partition are these -/




/-! ### computing spl and par -/


/-! ### digits -/

/-! ### words: x.split() -/
end TL
end 

namespace L2
open PySem PySem.Spec PyProof.Rows




section
variable {X : Cx} {pins : List (Addr × Obj)} {σ : St} {H : Hp} {s : Shared} {Q : VK}
end

section
variable {X : Cx}





/-! ### of a text alone -/

/-! ### of a text and a text -/

end

section
variable {X : Cx} {o e : Expr} {to te : TE}

end
end L2

namespace L2
open PySem PySem.Spec PyProof.Rows

section
variable {X : Cx}
end

/-! ### slices of a text -/
theorem IsPart.raw {v : Value} {o : Option Int} (p : IsPart v o) : ∃ l : Option (Int × Tok), v = partValue l ∧ l.map (·.1) = o := by
  cases p with
  | none => exact ⟨none, rfl, rfl⟩
  | int i t => exact ⟨some (i, t), rfl, rfl⟩


end L2

namespace Att
open PySem PySem.W PySem.Calls PyProof.Rows

/-! ### the script -/
theorem ints_of_wellAll {P : Params} {h : Heap} : ∀ (ns : List Int) (vs : List Value), WellAll P h vs (ns.map WData.int) → IntsAre vs ns := by
  intro ns
  induction ns with
  | nil =>
    intro vs w
    rw [List.map_nil] at w
    cases w
    exact .nil
  | cons n ns ih =>
    intro vs w
    rw [List.map_cons] at w
    cases w with
    | cons a b =>
      cases a
      exact .cons _ _ (ih _ b)

theorem script_of {l : OpenLaw} {n : Nat} (hn : l.most = some n) {P : Params} {h : Heap} {args : List WData} {vals : List Value}
    (hpre : l.row.toRowW.claim.pre args = true) (hwl : WellAll P h vals args) :
    ∃ a vs ns, vals = [Value.ref a] ∧ args = [WData.list (ns.map WData.int)] ∧ h.get? a = some { cls := .type "list", data := .seq vs.toArray } ∧ IntsAre vs ns ∧ ns.length ≤ n := by
  have hsh : WShape.hasAll [] args [.list .int] = true := (pre_splitW hpre).1
  have hc : l.pre.holds [] { args := args } = true := (pre_splitW hpre).2
  obtain ⟨d, r, rfl, h1, h2⟩ := hasAllW_cons hsh
  obtain rfl := hasAllW_nil h2
  obtain ⟨xs, rfl, h3⟩ := hasW_list h1
  obtain ⟨ns, rfl⟩ := items_int h3
  have hlen : ns.length ≤ n := by
    unfold OpenLaw.pre at hc
    have h4 : (WTm.not (.lt (.lit (.int (n : Int))) (.len (.arg 0)))).holds [] { args := [.list (ns.map .int)] } = true := by
      have h4 := (holds_andW hc).1
      rw [hn] at h4
      exact h4
    have h5 := condW_of h4 (w_not (w_lt w_lit (w_len_list (w_arg rfl))))
    rw [List.length_map] at h5
    refine Nat.le_of_not_lt fun q => ?_
    have q' : (n : Int) < ((ns.length : Nat) : Int) := by omega
    first
      | (rw [decide_eq_true q'] at h5; exact absurd h5 (by decide))
      | (simp at h5; omega)
  cases hwl with
  | cons w1 w2 =>
    cases w2
    cases w1 with
    | list ho hall => exact ⟨_, _, ns, rfl, rfl, ho, ints_of_wellAll ns _ hall, hlen⟩

theorem post_true (l : OpenLaw) (args : List WData) : l.row.toRowW.claim.post args (.bool true) args = true :=
  postW_of (r := l.row.toRowW) (X := (true == true))
    (show WShape.has [] (.bool true) .bool = true by first | rfl | decide | simp [WShape.has, WShape.arms, WShape.armsAll])
    (show (WTm.eq .res (.lit (.bool true))).value [] { args := args, res := some (.bool true), after := args } = some (.bool (true == true)) from w_eq_bool (w_res rfl) w_lit) rfl

/-! ### the attachment: holds_open's last premise (the goal 'hc' behind k_head) from a wpAny of the law's body -/

/-- the same from a codeAny of the CALL (for a layer whose function contracts speak of calls) -/
theorem attach_call {l : OpenLaw} {n : Nat} {q : Program} {loose : List Str} {XP : (Str → Option Value) → Heap → Prop} {YP : World → Heap → Prop} {d : DefRec}
    (hn : l.most = some n) (hdf : d.params.defaults = [])
    (call : ∀ (w : World) (s₀ s₁ : Shared) (mg mb : Str → Option Value) (fa : Addr) (o : Obj) (pm cd doc : Value) (a : Addr) (vs : List Value) (ns : List Int),
      Ground q loose [] XP w s₀ mg mb s₁.heap → YP w s₁.heap →
      s₁.heap.get? fa = some o → o.data = .func (docDef d.name d.params d.body d.scope pm cd doc) → s₁.heap.CodeRec cd d.name → mg d.name = some (.ref fa) →
      s₁.heap.get? a = some { cls := .type "list", data := .seq vs.toArray } → IntsAre vs ns → ns.length ≤ n → s₁.gens = #[] →
      codeAny (model l.prog w) callerA (.call (.ref fa) ⟨[.ref a], []⟩) (fun r s' => r = .ok (.ret (.bool true)) ∧ OldK s₁.heap s'.heap ∧ s'.os = s₁.os ∧ AllBare s'.gens) s₁) :
    WalkO q loose XP YP l.row.toRowW d [] (fun f vs => PySem.call f vs) := by
  intro w s₀ s₁ mg mb G Y fa o pm cd doc dV kV ho hd hcd hD hmg hg args vals as hpre hlay hrd hwl hlo
  obtain rfl : dV = .none := Dflts.none hD hdf
  obtain rfl : kV = .none := Dflts.noKw hD
  obtain ⟨a, vs, ns, rfl, rfl, hobj, hints, hlen⟩ := script_of hn hpre hwl
  refine enter_call (codeAny_mono (call w s₀ s₁ mg mb fa o pm cd doc a vs ns G Y ho (fd_plain hd) hcd hmg hobj hints hlen hg) fun r s' hq => ?_)
  obtain ⟨rfl, h2, h3, h4⟩ := hq
  exact ⟨.inl ⟨.bool true, .bool true, [], rfl, fun _ => rfl, .bool true, post_true l _, fun _ => ⟨List.Pairwise.nil, fun _ hm => (nomatch hm)⟩⟩, h2, h3, h4⟩


/-! ### rules over ANY heap (no ledger) from facts about the written part K: the library's own take a ledger (News) for what they write -/
section
variable {prog : Program} {w : World} {A : Around} {E : Value → Shared → Prop} {s : Shared} {K : Frag}





/-! the whole heap as the ledger: makes every rule that writes through a ledger a rule over any heap -/
def ledger (h : Heap) (L d : Addr) : List (Addr × Obj) := (List.range h.objs.size).filterMap fun a => if a = L ∨ a = d then none else (h.get? a).map fun o => (a, o)

end
end Att

namespace L2
open PySem PySem.Spec PyProof.Rows

theorem vals_ints : ∀ {vs : List Value} {ns : List Int}, IntsAre vs ns → Vals (ns.map V.int) vs
  | _, _, .nil => .nil
  | _, _, .cons n t h => .cons ⟨t, rfl⟩ (vals_ints h)

/-- nothing is tracked but the script, known to the object (or it is an object of the module) -/
def Only (H : Hp) : Prop := ∀ b, H b = none ∨ ∃ o xs, H b = some (.frz o (.lst xs))

/-- THE HEAD: the law's promise, at the heap behind the top. F, the promise of the law's def, may use that base is part of the heap (so K.In base, base.Ns mainGlobals mg stand in Mod) -/
theorem law_call {P : Program} {w : World} {K : PySem.W.Frag} {mg mb : Str → Option Value} {CX : CXT} {k : Nat} {fa a : Addr} {fd : FuncData} {x : Str} {sp : Sp} {s₁ : Shared} {vs : List Value} {ns : List Int}
    (KX : K.In s₁.heap) (hns : s₁.heap.Ns mainGlobals mg) (hb : s₁.heap.Ns builtinsNs mb) (hbb : ∀ x : Str, x ≠ "__name__" → mb x = bootBuiltins x) (hlim : s₁.heap.NoLimit) (hg : s₁.gens = #[])
    (ha : s₁.heap.get? a = some { cls := .type "list", data := .seq vs.toArray }) (hi : IntsAre vs ns) (hl : ns.length ≤ sizeLine) (hr : Room k callerA)
    (F : ∀ base : Heap, K.In base → base.Ns mainGlobals mg → FnOk P w K mg base CX k fa fd [x] sp) (hbind : ∀ (s : Shared) (u : Value), BindsTo s fd ⟨[u], []⟩ [(x, u)])
    (hsp : ∀ H : Hp, Only H → SqL K H a (ns.map V.int) → sp [.ref a] H (fun v _ => v = .bl true) fun _ _ _ => False)
    (hCX : ∀ H e s', CX [] H s₁ (fun _ _ _ => False) e s' → False) :
    codeAny (model P w) callerA (.call (.ref fa) ⟨[.ref a], []⟩) (fun r s' => r = .ok (.ret (.bool true)) ∧ OldK s₁.heap s'.heap ∧ s'.os = s₁.os ∧ AllBare s'.gens) s₁ := by
  have rv := vals_ints hi
  have lenV := hi.length
  -- from an abstract heap in which nothing but the script may be tracked
  have core : ∀ H : Hp, Only H → SqL K H a (ns.map V.int) → HOk P w H s₁.heap → (∀ b, H b ≠ none → b = a) → (H a ≠ none → K.lookup a = none) →
      codeAny (model P w) callerA (.call (.ref fa) ⟨[.ref a], []⟩) (fun r s' => r = .ok (.ret (.bool true)) ∧ OldK s₁.heap s'.heap ∧ s'.os = s₁.os ∧ AllBare s'.gens) s₁ := by
    intro H hO hS hok hA hK
    have base_of : ∀ {b : Addr} {o : Obj}, s₁.heap.get? b = some o → H b = none → (hidT s₁.heap H).get? b = some o := fun e n => hidT_get e n
    have noA : ∀ {b : Addr} {o : Obj} {es : Array DictEntry} {ep : Nat}, s₁.heap.get? b = some o → o.data = .dict es ep → H b = none := fun {b o es ep} e d => by
      cases q : H b with
      | none => rfl
      | some u =>
        have e' : b = a := hA b (by rw [q]; simp)
        subst e'
        rw [ha] at e; cases e
        have d' : Data.seq vs.toArray _ = Data.dict es ep := d
        cases d'
    have nsK : ∀ {b : Addr} {m : Str → Option Value}, s₁.heap.Ns b m → (hidT s₁.heap H).Ns b m := fun {b m} ⟨o, es, ep, e, d, r⟩ => ⟨o, es, ep, base_of e (noA e d), d, r⟩
    have hKb : K.In (hidT s₁.heap H) := fun b o e => base_of (KX b o e) (by
      cases q : H b with
      | none => rfl
      | some u =>
        have e' : b = a := hA b (by rw [q]; simp)
        subst e'
        rw [hK (by rw [q]; simp)] at e; cases e)
    have hM : Mod K mg (hidT s₁.heap H) := ⟨hKb, nsK hns, ⟨mb, nsK hb, hbb⟩, let ⟨mc, h1, h2⟩ := hlim; ⟨mc, nsK h1, h2⟩⟩
    have e0 : Env0 P w K mg (hidT s₁.heap H) callerA [] s₁ H := ⟨rfl, hM, fun b o e => of_hidT e, Nat.le_of_eq (hidT_size _ _), trivial, fun b hb => absurd (show b ∈ ([] : List Addr) from hb) (by simp), hok, .of_eq hg⟩
    refine codeAny_mono ((F _ hKb (nsK hns)).run callerA [] s₁ H ⟨[.ref a], []⟩ [.ref a] [.ref a] _ _ hr e0 (hbind s₁ (.ref a)) (.cons rfl .nil) (hsp H hO hS)) fun r s' h => ?_
    cases r with
    | error e => exact (hCX H e s' h).elim
    | ok fl =>
      cases fl with
      | next => exact False.elim h
      | brk => exact False.elim h
      | cont => exact False.elim h
      | ret u =>
        obtain ⟨v, H', os, bare, un, hok', r', q⟩ := h
        have q' : v = .bl true := q
        subst q'
        obtain rfl : u = Value.bool true := r'
        refine ⟨rfl, OldK.of_keep fun b o e => ?_, os, bare⟩
        cases q : H b with
        | none => exact un.keep b o e q (by intro z; exact absurd (show b ∈ ([] : List Addr) from z) (by simp)) (by simp)
        | some u =>
          rcases hO b with z | ⟨ob, xs, z⟩
          · rw [q] at z; cases z
          · have z2 := un.frzs b ob _ z
            obtain ⟨e1, _⟩ := hok b _ z
            obtain ⟨e2, _⟩ := hok' b _ z2
            rw [e] at e1; cases e1
            exact e2
  cases hk : K.lookup a with
  | some o =>
    -- the script is one of the module's own objects
    have e := KX a o hk
    rw [ha] at e
    cases e
    refine core (fun _ => none) (fun _ => .inl rfl) (.inr ⟨_, vs.toArray, _, hk, rfl, rfl, rfl, by rw [List.size_toArray, lenV]; exact hl, by simpa using rv⟩) (fun b u z => by have z' : (none : Option HO) = some u := z; cases z') (fun b z => absurd rfl z) fun z => absurd rfl z
  | none =>
    refine core (fun b => if b = a then some (.frz { cls := .type "list", data := .seq vs.toArray } (.lst (ns.map V.int))) else none) (fun b => ?_) (.inl (.inr ⟨{ cls := .type "list", data := .seq vs.toArray }, if_pos rfl⟩)) (fun b u z => ?_) (fun b z => ?_) fun _ => hk
    · by_cases hb : b = a
      · exact .inr ⟨_, _, if_pos hb⟩
      · exact .inl (if_neg hb)
    · by_cases hb : b = a
      · have z' := (if_pos hb).symm.trans z
        cases z'
        subst hb
        exact ⟨ha, by rw [List.length_map]; exact hl, vs, _, rv, ha⟩
      · have z' := (if_neg hb).symm.trans z
        cases z'
    · by_cases hb : b = a
      · exact hb
      · exact absurd (if_neg hb) z
end L2

namespace L2
open PySem PySem.Spec PyProof.Rows

abbrev KOf {K : PySem.W.Frag} {h : Heap} (_ : K.In h) : PySem.W.Frag := K

/-- the goal that k_head leaves (case hc), from the law's promise. F gives the function object fd (K's own) once, then the promise over every base -/
theorem walk_of {l : PySem.W.OpenLaw} {n k : Nat} {q : Program} {loose : List Str} {XP : (Str → Option Value) → Heap → Prop} {YP : World → Heap → Prop} {d : DefRec} {K : Params → PySem.W.Frag} {CX : World → CXT} {sp : World → Sp} {x : Str}
    (hn : l.most = some n) (hn2 : n ≤ sizeLine) (hdf : d.params.defaults = []) (hr : Room k callerA)
    (hY : ∀ (w : World) (h : Heap), YP w h → (K w.params).In h)
    (F : ∀ (w : World) (mg : Str → Option Value) (fa : Addr) (h : Heap), (K w.params).In h → h.Ns mainGlobals mg → mg d.name = some (.ref fa) →
      ∃ fd : FuncData, (∀ (s : Shared) (u : Value), BindsTo s fd ⟨[u], []⟩ [(x, u)]) ∧
        ∀ base : Heap, (K w.params).In base → base.Ns mainGlobals mg → FnOk l.prog w (K w.params) mg base (CX w) k fa fd [x] (sp w))
    (hsp : ∀ (w : World) (H : Hp) (a : Addr) (ns : List Int), ns.length ≤ n → Only H → SqL (K w.params) H a (ns.map V.int) → sp w [.ref a] H (fun v _ => v = .bl true) fun _ _ _ => False)
    (hCX : ∀ (w : World) (H : Hp) (s : Shared) (e : Value) (s' : Shared), CX w [] H s (fun _ _ _ => False) e s' → False) :
    PySem.W.WalkO q loose XP YP l.row.toRowW d [] (fun f vs => PySem.call f vs) := by
  refine Att.attach_call hn hdf fun w s₀ s₁ mg mb fa o pm cd doc a vs ns G Y ho hd hcd hmg hobj hints hlen hg => ?_
  have KX := hY w _ Y
  obtain ⟨fd, hb, hF⟩ := F w mg fa _ KX G.T.g hmg
  exact law_call KX G.T.g G.T.b G.T.builtins G.T.nolimit hg hobj hints (Nat.le_trans hlen hn2) hr hF hb (fun H hO hS => hsp w H a ns hlen hO hS) fun H e s' => hCX w H s₁ e s'
end L2

/- THE LAST THEOREM (shape; LID, My.* are yours):
   My.Adr: a structure of the addresses that your layer names (classes, functions); My.Txt K t: a structure (Prop) of the equations over K;
   My.txt_mk : {K} {implicit addresses ..} (e1 : nsIn K mainGlobals "law" = some (some (.ref f))) (e2 : K.lookup f = some ⟨oc, od, .func (fnOf "law" "law" params body scope dV kV doc pm an cdv ct), sl⟩) (e3 : codeIn K cdv "law" = true) .. : ∃ t, My.Txt K t

set_option maxRecDepth 100000 in
set_option maxHeartbeats 0 in
theorem PySem.Challenge.cw_LID_holds : PySem.Challenge.rw_LID.Holds := by
  w_on; o_law; k_head; (case hw => w_witness2)
  k_fill
  refine L2.walk_of (l := PySem.Challenge.rw_LID) (n := 63) (k := 40) (x := "script") (CX := fun w => ..) (sp := fun _ => My.sp_law) rfl (by decide) rfl ⟨rfl, by decide, by decide⟩ (fun w h Y => PySem.W.kIn_of Y) ?F ?S ?C
  case F =>
    intro w mg fa h KX G hmg
    have T : ∃ t, My.Txt (L2.KOf KX) t := by
      dsimp only [L2.KOf]                          -- K must stand as «<heap const> w.params» for k_is
      refine' My.txt_mk ?e1 ?e2 ?e3 ..
      (case e1 => PySem.W.k_is)                    -- in the order: a name -> its address -> its object -> its parts
      (case e2 => PySem.W.k_is)
      ..
    obtain ⟨t, T⟩ := T
    have e0 := hmg.symm.trans (PySem.W.mg_of KX G T.law)
    cases e0                                       -- fa is the law's own address
    exact ⟨_, fun s u => .of_eq rfl, fun base kb nb => My.law_fn T kb nb⟩     -- if «.of_eq rfl» comes too early: refine' ⟨_, ?b, fun base kb nb => My.law_fn T kb nb⟩; exact fun s u => .of_eq rfl
  case S => exact fun w H a ns hl hO hS => ..
  case C => exact ..
(the tactic k_is has no namespace: write k_is) -/

/-! SHORT WORDS over the layer: a def of the text, its body, what a loop and a test want. -/
namespace L2
open PySem PySem.Spec PyProof.Rows

/-! ### the text by places -/
def defArgs (s : Stmt) : Arguments := match s with
  | .FunctionDef _ a _ _ _ _ _ _ _ _ => a
  | _ => { posonlyargs := [], args := [], vararg := none, kwonlyargs := [], kw_defaults := [], kwarg := none, defaults := [] }
def defBody (s : Stmt) : List Stmt := match s with
  | .FunctionDef _ _ b _ _ _ _ _ _ _ => b
  | _ => []
def defScope (s : Stmt) : Scope := match s with
  | .FunctionDef _ _ _ _ _ _ sc _ _ _ => sc
  | _ => { kind := .function, names := [], isGenerator := false, isCoroutine := false }

/-! ### no exception leaves a def -/
abbrev CX0 : CXT := fun _ _ _ _ _ _ => False
abbrev E0 : XK := fun _ _ _ => False
theorem pass0 {X : Cx} : Passes CX0 X E0 := fun _ _ _ _ _ _ _ h => h.elim

/-! ### a def (or method) of the text as it stands behind the top -/
structure Fun (K : PySem.W.Frag) (x qual : Str) (st : Stmt) (f : Addr) (fd : FuncData) : Prop where
  ex : ∃ (oc : Value) (od : Option Addr) (kV doc pm : Value) (an : Option Addr) (cdv ct : Value) (osl : Array (Option Value)),
    fd = PySem.W.fnOf x qual (defArgs st) (defBody st) (defScope st) .none kV doc pm an cdv ct ∧ K.lookup f = some ⟨oc, od, .func fd, osl⟩ ∧ PySem.W.codeIn K cdv qual = true
  kp : PySem.W.keepIn K (.ref f) = true
section
variable {P : Program} {w : World} {K : PySem.W.Frag} {mg : Str → Option Value} {base : Heap}
/-- THE RULE for a def: its body as a term of rules, and the reading of that term -/
theorem Fun.ok {x qual : Str} {st : Stmt} {f : Addr} {fd : FuncData} {N ps : List Str} {k : Nat} {sp : Sp} (F : Fun K x qual st f fd) (S : FnScope N ps (defScope st)) (len : ∀ vs H Q E, sp vs H Q E → vs.length = ps.length)
    (hbody : ∀ (cdv : Value) (A : Around) (outer : List Env) (s : Shared) (H : Hp) (vs : List V) (Q : VK) (E : XK), Room k (A.deeper (envOfC qual (defScope st) s.heap.objs.size f cdv)) → sp vs H Q E →
      ∃ t, PSs (cxOf CX0 P w K mg base N qual (defScope st) f cdv A outer s H E).nox (defBody st) t ∧ t { nx := fun _ H' => Q .non H', rt := Q } (start N vs) H) : FnOk P w K mg base CX0 (k + 1) f fd ps sp := by
  obtain ⟨oc, od, kV, doc, pm, an, cdv, ct, osl, rfl, lk, hcd⟩ := F.ex
  refine fn_of lk hcd S len fun A outer s H vs Q E hr hsp => ?_
  obtain ⟨t, h, q⟩ := hbody cdv A outer s H vs Q E hr hsp
  exact ⟨t, h.nox, q⟩
/-- how its arguments bind (no defaults): h is «fun _ _ _ _ _ _ us hl => match us, hl with | [_, _], _ => rfl», one _ a parameter -/
theorem Fun.binds {x qual : Str} {st : Stmt} {f : Addr} {fd : FuncData} {ps : List Str} (F : Fun K x qual st f fd)
    (h : ∀ (kV doc pm : Value) (an : Option Addr) (cdv ct : Value) (us : List Value), us.length = ps.length → bindArgs (PySem.W.fnOf x qual (defArgs st) (defBody st) (defScope st) .none kV doc pm an cdv ct) ⟨us, []⟩ = pure (ps.zip us)) : Binds K fd ps [] := by
  obtain ⟨oc, od, kV, doc, pm, an, cdv, ct, osl, rfl, lk, hcd⟩ := F.ex
  exact .all (h kV doc pm an cdv ct)
theorem fun_mk {x qual : Str} {st : Stmt} {f : Addr} {oc : Value} {od an : Option Addr} {osl : Array (Option Value)} {kV doc pm cdv ct : Value} (l : K.lookup f = some ⟨oc, od, .func (PySem.W.fnOf x qual (defArgs st) (defBody st) (defScope st) .none kV doc pm an cdv ct), osl⟩)
    (c : PySem.W.codeIn K cdv qual = true) (k : PySem.W.keepIn K (.ref f) = true) : Fun K x qual st f (PySem.W.fnOf x qual (defArgs st) (defBody st) (defScope st) .none kV doc pm an cdv ct) := ⟨⟨oc, od, kV, doc, pm, an, cdv, ct, osl, rfl, l, c⟩, k⟩
end
theorem small1000 {n : Nat} (h : n ≤ 1000) : n < sizeLine := Nat.lt_of_le_of_lt h (by decide)

/-! ### expressions in short: the name that stands in the i-th slot -/
section
variable {X : Cx}
theorem pv (i : Nat) {x : Str} {pos : Pos} (hN : X.N[i]? = some x := by rfl) (hv : Vis X.env.scope x := by first | exact Or.inl rfl | exact Or.inr (Or.inl rfl) | exact Or.inr (Or.inr rfl)) (hd : (x == ("__debug__" : Str)) = false := by decide)
    (hcd : (x == ("__classdict__" : Str)) = false := by decide) : PE X (.Name x pos) (tVar i) := pe_var hN hv hd hcd
end

/-! ### tests -/
theorem ite2 {c A B : Prop} [Decidable c] (h1 : c → A) (h2 : ¬ c → B) : if c then A else B := by
  by_cases h : c
  · rw [if_pos h]
    exact h1 h
  · rw [if_neg h]
    exact h2 h

/-! ### heaps -/
/-- all that was tracked is as it was -/
def Same (H H' : Hp) : Prop := ∀ b o, H b = some o → H' b = some o
theorem Same.refl (H : Hp) : Same H H := fun _ _ h => h
theorem Same.trans {H H1 H2 : Hp} (a : Same H H1) (b : Same H1 H2) : Same H H2 := fun c o h => b c o (a c o h)
theorem Same.free {H H' : Hp} (e : Same H H') {l : Addr} (h : H' l = Option.none) : H l = Option.none := by
  cases q : H l with
  | none => rfl
  | some o =>
    rw [e l o q] at h
    cases h
theorem Same.seq {K : PySem.W.Frag} {H H' : Hp} {a : Addr} {xs : List V} (e : Same H H') (h : SqL K H a xs) : SqL K H' a xs := by
  rcases h with (h | ⟨o, h⟩) | h
  · exact .inl (.inl (e _ _ h))
  · exact .inl (.inr ⟨o, e _ _ h⟩)
  · exact .inr h

/-! ### a dict's pairs: keys that differ -/
section
variable {κ : Type} [DecidableEq κ]
end
/-! ### lists -/
theorem at_of {xs : List V} {z : Int} {j : Nat} {v : V} (e : z = (j : Int)) (h : xs[j]? = some v) : atI xs z = some v := by
  rw [e]
  exact atI_nat h
/-- a new instance and its __init__ leave all that was tracked as it was -/
theorem Same.made {H H1 : Hp} {x dx C : Addr} (nx : H x = Option.none) (nd : H dx = Option.none) (k : ∀ b o, (upd (upd H dx (.own x)) x (.ins C dx [])) b = some o → b ≠ x → H1 b = some o) : Same H H1 := fun b o e =>
  k b o (by rw [upd_ne (ne_of_none e nx), upd_ne (ne_of_none e nd)]; exact e) (ne_of_none e nx)
end L2

end
section
set_option Elab.async false
set_option linter.all false
set_option maxRecDepth 100000
set_option maxHeartbeats 2000000
namespace L2
open PySem PySem.Spec PyProof.Rows
open PySem.W (WData Codec OpenSpec Well WellAll ReadsW ReadsAllW)
/-! ### an answer as data -/
mutual
/-- x stands for the datum d, lists and tuples all the way -/
inductive Dw (K : PySem.W.Frag) (H : Hp) : V → WData → Prop
  | non : Dw K H .non .none
  | bl (b : Bool) : Dw K H (.bl b) (.bool b)
  | int (i : Int) : Dw K H (.int i) (.int i)
  | str (x : Str) : Dw K H (.str x) (.str x)
  | byt (b : Array UInt8) : Dw K H (.byt b) (.bytes b.toList)
  | lst {a : Addr} {xs : List V} {ds : List WData} : SqL K H a xs → DwAll K H xs ds → Dw K H (.ref a) (.list ds)
  | tup {a : Addr} {xs : List V} {ds : List WData} : SqT K H a xs → DwAll K H xs ds → Dw K H (.ref a) (.tuple ds)
inductive DwAll (K : PySem.W.Frag) (H : Hp) : List V → List WData → Prop
  | nil : DwAll K H [] []
  | cons {v : V} {vs : List V} {d : WData} {ds : List WData} : Dw K H v d → DwAll K H vs ds → DwAll K H (v :: vs) (d :: ds)
end
theorem dw_ints {K : PySem.W.Frag} {H : Hp} : ∀ ns : List Int, DwAll K H (ns.map V.int) (ns.map WData.int)
  | [] => .nil
  | n :: r => .cons (.int n) (dw_ints r)
theorem ints_dw {K : PySem.W.Frag} {H : Hp} : ∀ (ns : List Int) (xs : List V), DwAll K H xs (ns.map WData.int) → xs = ns.map V.int
  | [], xs, h => by
    cases h
    rfl
  | n :: r, xs, h => by
    cases h with
    | cons h1 h2 =>
      cases h1
      rw [ints_dw r _ h2] <;> rfl
section
variable {P : Program} {w : World} {K : PySem.W.Frag} {H : Hp} {h : Heap} {R : PySem.W.WRecords} {cl : Str → Option Addr}
theorem sqL_at {a : Addr} {xs : List V} (hok : HOk P w H h) (KX : K.In h) (q : SqL K H a xs) : ∃ (its : List Value) (o : Obj) (n : Nat), Vals xs its ∧ h.get? a = some o ∧ o.cls = .type "list" ∧ o.data = .seq its.toArray n := by
  rcases q with q | ⟨o, its, n, e, hc, _, hd, _, hv⟩
  · obtain ⟨_, its, n, hv, e⟩ := (show ObjOk P w H h a (.lst xs) from q.ok hok)
    exact ⟨its, _, n, hv, e, rfl, rfl⟩
  · exact ⟨its.toList, o, n, hv, KX _ _ e, hc, by simp [hd]⟩
theorem sqT_at {a : Addr} {xs : List V} (hok : HOk P w H h) (KX : K.In h) (q : SqT K H a xs) : ∃ (its : List Value) (o : Obj) (n : Nat), Vals xs its ∧ h.get? a = some o ∧ o.cls = .type "tuple" ∧ o.data = .seq its.toArray n := by
  rcases q with q | ⟨o, its, n, e, hc, hd, _, hv⟩
  · obtain ⟨_, its, hv, o, e, hc, n, hd⟩ := (show ObjOk P w H h a (.tup xs) from q.ok hok)
    exact ⟨its, o, n, hv, e, hc, hd⟩
  · exact ⟨its.toList, o, n, hv, KX _ _ e, hc, by simp [hd]⟩
mutual
theorem Dw.reads (hok : HOk P w H h) (KX : K.In h) : ∀ (d : WData) (v : V) (u : Value), Dw K H v d → RelV v u → ∃ as, ReadsW R cl h u d as
  | .none, _, _, x, r => by
    cases x
    cases r
    exact ⟨_, ReadsW.none⟩
  | .bool b, _, _, x, r => by
    cases x
    cases r
    exact ⟨_, ReadsW.bool b⟩
  | .int i, _, _, x, r => by
    cases x
    obtain ⟨t, rfl⟩ := r
    exact ⟨_, ReadsW.int i t⟩
  | .str s, _, _, x, r => by
    cases x
    obtain ⟨t, rfl⟩ := r
    exact ⟨_, ReadsW.str s t⟩
  | .bytes b, _, _, x, r => by
    cases x
    obtain ⟨t, rfl⟩ := r
    exact ⟨_, ReadsW.bytes _ t⟩
  | .list ds, _, _, x, r => by
    cases x with
    | lst hs ha =>
      cases r
      obtain ⟨its, o, n, rv, ho, hc, hd⟩ := sqL_at hok KX hs
      obtain ⟨as, hr⟩ := Dw.readsAll hok KX ds _ its ha rv
      exact ⟨_, ReadsW.list ho hc hd hr⟩
  | .tuple ds, _, _, x, r => by
    cases x with
    | tup hs ha =>
      cases r
      obtain ⟨its, o, n, rv, ho, hc, hd⟩ := sqT_at hok KX hs
      obtain ⟨as, hr⟩ := Dw.readsAll hok KX ds _ its ha rv
      exact ⟨_, ReadsW.tuple ho hc hd hr⟩
  | .float _, _, _, x, _ => by cases x
  | .dict _, _, _, x, _ => by cases x
  | .bytearray _, _, _, x, _ => by cases x
  | .set _, _, _, x, _ => by cases x
  | .frozenset _, _, _, x, _ => by cases x
  | .obj _ _, _, _, x, _ => by cases x
theorem Dw.readsAll (hok : HOk P w H h) (KX : K.In h) : ∀ (ds : List WData) (vs : List V) (us : List Value), DwAll K H vs ds → Vals vs us → ∃ as, ReadsAllW R cl h us ds as
  | [], _, _, x, r => by
    cases x
    cases r
    exact ⟨_, ReadsAllW.nil⟩
  | d :: ds, _, _, x, r => by
    cases x with
    | cons h1 h2 =>
      cases r with
      | cons r1 r2 =>
        obtain ⟨as, q1⟩ := Dw.reads hok KX d _ _ h1 r1
        obtain ⟨bs, q2⟩ := Dw.readsAll hok KX ds _ _ h2 r2
        exact ⟨_, ReadsAllW.cons q1 q2⟩
end
end
/-! ### the arguments -/
mutual
/-- data that a codec tells -/
def plW : WData → Bool
  | .none => true
  | .bool _ => true
  | .int _ => true
  | .str _ => true
  | .bytes _ => true
  | .list xs => plWs xs
  | .tuple xs => plWs xs
  | _ => false
def plWs : List WData → Bool
  | [] => true
  | x :: r => plW x && plWs r
end
theorem plWs_map {α : Type} {f : α → WData} (h : ∀ a, plW (f a) = true) : ∀ l : List α, plWs (l.map f) = true
  | [] => rfl
  | x :: r => by
    show (plW (f x) && plWs (r.map f)) = true
    rw [h x, plWs_map h r] <;> rfl
theorem pl_enc : ∀ (c : Codec) (a : c.denote), plW (c.enc a) = true
  | .unit, _ => rfl
  | .bool, _ => rfl
  | .int _ _, _ => rfl
  | .nat _ _, _ => rfl
  | .u8, _ => rfl
  | .bytes _ _, _ => rfl
  | .text _ _ _ _, _ => rfl
  | .list _ _ c, a => plWs_map (fun x => pl_enc c x) a
  | .pair c d, a => by
    show (plW (c.enc a.1) && (plW (d.enc a.2) && true)) = true
    rw [pl_enc c a.1, pl_enc d a.2] <;> rfl
  | .triple c d e, a => by
    show (plW (c.enc a.1) && (plW (d.enc a.2.1) && (plW (e.enc a.2.2) && true))) = true
    rw [pl_enc c a.1, pl_enc d a.2.1, pl_enc e a.2.2] <;> rfl
  | .option c, none => rfl
  | .option c, some x => pl_enc c x
theorem pl_encAll : ∀ (cs : List Codec) (a : Codec.denoteAll cs), plWs (Codec.encAll cs a) = true
  | [], _ => rfl
  | c :: cs, a => by
    show (plW (c.enc a.1) && plWs (Codec.encAll cs a.2)) = true
    rw [pl_enc c a.1, pl_encAll cs a.2] <;> rfl
theorem weight_mem : ∀ {xs : List WData} {d : WData}, d ∈ xs → d.weight ≤ WData.weightAll xs
  | [], d, h => absurd h (by simp)
  | x :: r, d, h => by
    show d.weight ≤ x.weight + 1 + WData.weightAll r
    rcases List.mem_cons.mp h with e | m
    · rw [e]
      omega
    · have z := weight_mem m
      omega
def toV : Value → V
  | .none => .non
  | .bool b => .bl b
  | .int i _ => .int i
  | .str x _ => .str x
  | .bytes b _ => .byt b
  | .ref a => .ref a
  | _ => .non
/-- a value of the arguments, its objects among A -/
def OkU (A : List Addr) : Value → Prop
  | .none => True
  | .bool _ => True
  | .int _ _ => True
  | .str _ _ => True
  | .bytes _ _ => True
  | .ref a => a ∈ A
  | _ => False
theorem OkU.mono {A B : List Addr} (h : ∀ a ∈ A, a ∈ B) : ∀ {u : Value}, OkU A u → OkU B u := fun {u} x => by
  cases u with
  | ref a => exact h a x
  | none => trivial
  | bool b => trivial
  | int i t => trivial
  | str s t => trivial
  | bytes b t => trivial
  | _ => exact False.elim x
theorem relV_toV {A : List Addr} {u : Value} (x : OkU A u) : RelV (toV u) u := by
  cases u with
  | ref a => rfl
  | none => rfl
  | bool b => rfl
  | int i t => exact ⟨t, rfl⟩
  | str s t => exact ⟨t, rfl⟩
  | bytes b t => exact ⟨t, rfl⟩
  | _ => exact False.elim x
theorem vals_toV {A : List Addr} : ∀ {vs : List Value}, (∀ u ∈ vs, OkU A u) → Vals (vs.map toV) vs
  | [], _ => .nil
  | u :: r, h => .cons (relV_toV (h u (List.mem_cons_self ..))) (vals_toV fun x hx => h x (List.mem_cons_of_mem _ hx))
/-- an object of the arguments -/
def ArgOb (h : Heap) (A : List Addr) (a : Addr) : Prop := ∃ vs : List Value, vs.length ≤ sizeLine ∧ (∀ u ∈ vs, OkU A u) ∧
  (h.get? a = some { cls := .type "list", data := .seq vs.toArray } ∨ h.get? a = some { cls := .type "tuple", data := .seq vs.toArray })
theorem ArgOb.mono {h : Heap} {A B : List Addr} {a : Addr} (k : ∀ a ∈ A, a ∈ B) (x : ArgOb h A a) : ArgOb h B a := by
  obtain ⟨vs, h1, h2, h3⟩ := x
  exact ⟨vs, h1, fun u hu => (h2 u hu).mono k, h3⟩
theorem wellAll_len {P : Params} {h : Heap} : ∀ {vs : List Value} {ds : List WData}, WellAll P h vs ds → vs.length = ds.length
  | _, _, .nil => rfl
  | _, _, .cons _ b => by
    show _ + 1 = _ + 1
    rw [wellAll_len b]
theorem well_list {P : Params} {h : Heap} {v : Value} {ds : List WData} (x : Well P h v (.list ds)) : ∃ (a : Addr) (vs : List Value), v = .ref a ∧ h.get? a = some { cls := .type "list", data := .seq vs.toArray } ∧ WellAll P h vs ds := by
  cases x with
  | list ho hall => exact ⟨_, _, rfl, ho, hall⟩
theorem well_tuple {P : Params} {h : Heap} {v : Value} {ds : List WData} (x : Well P h v (.tuple ds)) : ∃ (a : Addr) (vs : List Value), v = .ref a ∧ h.get? a = some { cls := .type "tuple", data := .seq vs.toArray } ∧ WellAll P h vs ds := by
  cases x with
  | tuple ho hall => exact ⟨_, _, rfl, ho, hall⟩
theorem well_cons {P : Params} {h : Heap} {us : List Value} {d : WData} {ds : List WData} (x : WellAll P h us (d :: ds)) : ∃ (v : Value) (vs : List Value), us = v :: vs ∧ Well P h v d ∧ WellAll P h vs ds := by
  cases x with
  | cons a b => exact ⟨_, _, rfl, a, b⟩
theorem line_of {n : Nat} (h : n ≤ 1048576) : n ≤ sizeLine := Nat.le_trans h (by decide)
section
variable {P : Params} {h : Heap}
mutual
theorem area_one : ∀ (d : WData) (v : Value), Well P h v d → plW d = true → d.weight ≤ 1048576 → ∃ A : List Addr, OkU A v ∧ ∀ a ∈ A, ArgOb h A a
  | .none, _, x, _, _ => by
    cases x
    exact ⟨[], trivial, fun a m => absurd m (by simp)⟩
  | .bool b, _, x, _, _ => by
    cases x
    exact ⟨[], trivial, fun a m => absurd m (by simp)⟩
  | .int i, _, x, _, _ => by
    cases x
    exact ⟨[], trivial, fun a m => absurd m (by simp)⟩
  | .str s, _, x, _, _ => by
    cases x
    exact ⟨[], trivial, fun a m => absurd m (by simp)⟩
  | .bytes b, _, x, _, _ => by
    cases x
    exact ⟨[], trivial, fun a m => absurd m (by simp)⟩
  | .list ds, _, x, p, z => by
    obtain ⟨a, vs, rfl, ho, hall⟩ := well_list x
    have z2 : WData.weightAll ds ≤ 1048576 := z
    obtain ⟨A, h1, h2⟩ := area_all ds _ hall p fun d hd => Nat.le_trans (weight_mem hd) z2
    have k : ∀ b ∈ A, b ∈ a :: A := fun b hb => List.mem_cons_of_mem _ hb
    refine ⟨a :: A, List.mem_cons_self .., fun b hb => ?_⟩
    rcases List.mem_cons.mp hb with e | m
    · rw [e]
      exact ⟨vs, line_of (by rw [wellAll_len hall]; exact Nat.le_trans (PySem.W.length_le_weightAllW ds) z2), fun u hu => (h1 u hu).mono k, .inl ho⟩
    · exact (h2 b m).mono k
  | .tuple ds, _, x, p, z => by
    obtain ⟨a, vs, rfl, ho, hall⟩ := well_tuple x
    have z2 : WData.weightAll ds ≤ 1048576 := z
    obtain ⟨A, h1, h2⟩ := area_all ds _ hall p fun d hd => Nat.le_trans (weight_mem hd) z2
    have k : ∀ b ∈ A, b ∈ a :: A := fun b hb => List.mem_cons_of_mem _ hb
    refine ⟨a :: A, List.mem_cons_self .., fun b hb => ?_⟩
    rcases List.mem_cons.mp hb with e | m
    · rw [e]
      exact ⟨vs, line_of (by rw [wellAll_len hall]; exact Nat.le_trans (PySem.W.length_le_weightAllW ds) z2), fun u hu => (h1 u hu).mono k, .inr ho⟩
    · exact (h2 b m).mono k
  | .float _, _, _, p, _ => Bool.noConfusion (show false = true from p)
  | .dict _, _, _, p, _ => Bool.noConfusion (show false = true from p)
  | .bytearray _, _, _, p, _ => Bool.noConfusion (show false = true from p)
  | .set _, _, _, p, _ => Bool.noConfusion (show false = true from p)
  | .frozenset _, _, _, p, _ => Bool.noConfusion (show false = true from p)
  | .obj _ _, _, _, p, _ => Bool.noConfusion (show false = true from p)
theorem area_all : ∀ (ds : List WData) (vs : List Value), WellAll P h vs ds → plWs ds = true → (∀ d ∈ ds, d.weight ≤ 1048576) → ∃ A : List Addr, (∀ u ∈ vs, OkU A u) ∧ ∀ a ∈ A, ArgOb h A a
  | [], _, x, _, _ => by
    cases x
    exact ⟨[], fun u m => absurd m (by simp), fun a m => absurd m (by simp)⟩
  | d :: ds, _, x, p, z => by
    obtain ⟨v, vs, rfl, x1, x2⟩ := well_cons x
    have q : plW d = true ∧ plWs ds = true := Bool.and_eq_true_iff.mp p
    obtain ⟨A, a1, a2⟩ := area_one d v x1 q.1 (z d (List.mem_cons_self ..))
    obtain ⟨B, b1, b2⟩ := area_all ds vs x2 q.2 fun e he => z e (List.mem_cons_of_mem _ he)
    have kA : ∀ b ∈ A, b ∈ A ++ B := fun b hb => List.mem_append.mpr (.inl hb)
    have kB : ∀ b ∈ B, b ∈ A ++ B := fun b hb => List.mem_append.mpr (.inr hb)
    refine ⟨A ++ B, fun u hu => ?_, fun b hb => ?_⟩
    · rcases List.mem_cons.mp hu with e | m
      · rw [e]
        exact a1.mono kA
      · exact (b1 u m).mono kB
    · rcases List.mem_append.mp hb with m | m
      · exact (a2 b m).mono kA
      · exact (b2 b m).mono kB
end
end
/-- what is tracked of an argument's object -/
def hoOf (o : Obj) : Option HO := match o.data with
  | .seq vs _ => if (o.cls == Value.type "list") = true then some (.frz o (.lst (vs.toList.map toV))) else some (.frz o (.tup (vs.toList.map toV)))
  | _ => none
def argH (K : PySem.W.Frag) (h : Heap) (A : List Addr) : Hp := fun b => if b ∈ A then (if (K.lookup b).isNone = true then (h.get? b).bind hoOf else none) else none
/-- nothing is tracked but what is known to the object -/
def OnlyF (H : Hp) : Prop := ∀ b, H b = none ∨ ∃ o u, H b = some (.frz o u)
theorem hoOf_lst (vs : List Value) : hoOf { cls := .type "list", data := .seq vs.toArray } = some (.frz { cls := .type "list", data := .seq vs.toArray } (.lst (vs.map toV))) := by
  show (if (Value.type "list" == Value.type "list") = true then some (HO.frz { cls := .type "list", data := .seq vs.toArray } (.lst (vs.toArray.toList.map toV))) else some (HO.frz { cls := .type "list", data := .seq vs.toArray } (.tup (vs.toArray.toList.map toV)))) = _
  rw [if_pos (beq_self_eq_true _)]
theorem hoOf_tup (vs : List Value) : hoOf { cls := .type "tuple", data := .seq vs.toArray } = some (.frz { cls := .type "tuple", data := .seq vs.toArray } (.tup (vs.map toV))) := by
  show (if (Value.type "tuple" == Value.type "list") = true then some (HO.frz { cls := .type "tuple", data := .seq vs.toArray } (.lst (vs.toArray.toList.map toV))) else some (HO.frz { cls := .type "tuple", data := .seq vs.toArray } (.tup (vs.toArray.toList.map toV)))) = _
  rw [if_neg (by decide)]
section
variable {P : Program} {w : World} {K : PySem.W.Frag} {h : Heap} {A : List Addr}
theorem argH_at {b : Addr} {o : Obj} (hb : b ∈ A) (hk : K.lookup b = none) (e : h.get? b = some o) : argH K h A b = hoOf o := by
  unfold argH
  rw [if_pos hb, hk, if_pos (show (none : Option Obj).isNone = true from rfl), e] <;> rfl
theorem of_argH {b : Addr} {u : HO} (q : argH K h A b = some u) : b ∈ A ∧ K.lookup b = none := by
  unfold argH at q
  by_cases hb : b ∈ A
  · rw [if_pos hb] at q
    cases hk : K.lookup b with
    | none => exact ⟨hb, rfl⟩
    | some o =>
      rw [hk, if_neg (by simp)] at q
      cases q
  · rw [if_neg hb] at q
    cases q
/-- what stands tracked -/
theorem argH_is (ar : ∀ a ∈ A, ArgOb h A a) {b : Addr} {u : HO} (q : argH K h A b = some u) : K.lookup b = none ∧ ∃ vs : List Value, vs.length ≤ sizeLine ∧ (∀ u ∈ vs, OkU A u) ∧
    ((h.get? b = some { cls := .type "list", data := .seq vs.toArray } ∧ u = .frz { cls := .type "list", data := .seq vs.toArray } (.lst (vs.map toV))) ∨
     (h.get? b = some { cls := .type "tuple", data := .seq vs.toArray } ∧ u = .frz { cls := .type "tuple", data := .seq vs.toArray } (.tup (vs.map toV)))) := by
  obtain ⟨hb, hk⟩ := of_argH q
  obtain ⟨vs, h1, h2, h3⟩ := ar b hb
  refine ⟨hk, vs, h1, h2, ?_⟩
  rcases h3 with e | e
  · rw [argH_at hb hk e, hoOf_lst] at q
    exact .inl ⟨e, (Option.some.inj q).symm⟩
  · rw [argH_at hb hk e, hoOf_tup] at q
    exact .inr ⟨e, (Option.some.inj q).symm⟩
theorem argH_only (ar : ∀ a ∈ A, ArgOb h A a) : OnlyF (argH K h A) := fun b => by
  cases q : argH K h A b with
  | none => exact .inl rfl
  | some u =>
    obtain ⟨_, vs, _, _, ⟨_, e⟩ | ⟨_, e⟩⟩ := argH_is ar q
    · exact .inr ⟨_, _, by rw [e]⟩
    · exact .inr ⟨_, _, by rw [e]⟩
theorem argH_ok (ar : ∀ a ∈ A, ArgOb h A a) : HOk P w (argH K h A) h := fun b u q => by
  obtain ⟨_, vs, h1, h2, ⟨e, rfl⟩ | ⟨e, rfl⟩⟩ := argH_is ar q
  · exact ⟨e, by rw [List.length_map]; exact h1, vs, _, vals_toV h2, e⟩
  · exact ⟨e, by rw [List.length_map]; exact h1, vs, vals_toV h2, _, e, rfl, _, rfl⟩
theorem seq_inj {c c' : Value} {vs us : List Value} (e : (some { cls := c, data := .seq vs.toArray } : Option Obj) = some { cls := c', data := .seq us.toArray }) : c = c' ∧ vs = us := by
  have e1 := Option.some.inj e
  have e2 : c = c' := congrArg Obj.cls e1
  have e3 : Data.seq vs.toArray = Data.seq us.toArray := congrArg Obj.data e1
  injection e3 with e4
  refine ⟨e2, ?_⟩
  have e5 := congrArg Array.toList e4
  simpa using e5
/-- a list argument -/
theorem argL (KX : K.In h) (ar : ∀ a ∈ A, ArgOb h A a) {a : Addr} {vs : List Value} (ha : a ∈ A) (e : h.get? a = some { cls := .type "list", data := .seq vs.toArray }) : (∀ u ∈ vs, OkU A u) ∧ SqL K (argH K h A) a (vs.map toV) := by
  obtain ⟨us, h1, h2, h3⟩ := ar a ha
  have hu : us = vs := by
    rcases h3 with q | q
    · rw [e] at q
      exact (seq_inj q).2.symm
    · rw [e] at q
      exact absurd (Value.type.inj (seq_inj q).1) (by decide)
  subst hu
  refine ⟨h2, ?_⟩
  cases hk : K.lookup a with
  | none => exact .inl (.inr ⟨_, by rw [argH_at ha hk e, hoOf_lst]⟩)
  | some o =>
    have e2 := KX a o hk
    rw [e] at e2
    obtain rfl := Option.some.inj e2
    exact .inr ⟨_, us.toArray, _, hk, rfl, rfl, rfl, by rw [List.size_toArray]; exact h1, by simpa using vals_toV h2⟩
theorem argT (KX : K.In h) (ar : ∀ a ∈ A, ArgOb h A a) {a : Addr} {vs : List Value} (ha : a ∈ A) (e : h.get? a = some { cls := .type "tuple", data := .seq vs.toArray }) : (∀ u ∈ vs, OkU A u) ∧ SqT K (argH K h A) a (vs.map toV) := by
  obtain ⟨us, h1, h2, h3⟩ := ar a ha
  have hu : us = vs := by
    rcases h3 with q | q
    · rw [e] at q
      exact absurd (Value.type.inj (seq_inj q).1) (by decide)
    · rw [e] at q
      exact (seq_inj q).2.symm
  subst hu
  refine ⟨h2, ?_⟩
  cases hk : K.lookup a with
  | none => exact .inl (.inr ⟨_, by rw [argH_at ha hk e, hoOf_tup]⟩)
  | some o =>
    have e2 := KX a o hk
    rw [e] at e2
    obtain rfl := Option.some.inj e2
    exact .inr ⟨_, us.toArray, _, hk, rfl, rfl, by rw [List.size_toArray]; exact h1, by simpa using vals_toV h2⟩
mutual
theorem dw_one {Pm : Params} (KX : K.In h) (ar : ∀ a ∈ A, ArgOb h A a) : ∀ (d : WData) (v : Value), Well Pm h v d → plW d = true → OkU A v → Dw K (argH K h A) (toV v) d
  | .none, _, x, _, _ => by
    cases x
    exact .non
  | .bool b, _, x, _, _ => by
    cases x
    exact .bl b
  | .int i, _, x, _, _ => by
    cases x
    exact .int i
  | .str s, _, x, _, _ => by
    cases x
    exact .str s
  | .bytes b, _, x, _, _ => by
    cases x
    have z := Dw.byt (K := K) (H := argH K h A) b.toArray
    exact z
  | .list ds, _, x, p, hu => by
    obtain ⟨a, vs, rfl, ho, hall⟩ := well_list x
    obtain ⟨h2, hs⟩ := argL KX ar hu ho
    exact .lst hs (dw_all KX ar ds _ hall p h2)
  | .tuple ds, _, x, p, hu => by
    obtain ⟨a, vs, rfl, ho, hall⟩ := well_tuple x
    obtain ⟨h2, hs⟩ := argT KX ar hu ho
    exact .tup hs (dw_all KX ar ds _ hall p h2)
  | .float _, _, _, p, _ => Bool.noConfusion (show false = true from p)
  | .dict _, _, _, p, _ => Bool.noConfusion (show false = true from p)
  | .bytearray _, _, _, p, _ => Bool.noConfusion (show false = true from p)
  | .set _, _, _, p, _ => Bool.noConfusion (show false = true from p)
  | .frozenset _, _, _, p, _ => Bool.noConfusion (show false = true from p)
  | .obj _ _, _, _, p, _ => Bool.noConfusion (show false = true from p)
theorem dw_all {Pm : Params} (KX : K.In h) (ar : ∀ a ∈ A, ArgOb h A a) : ∀ (ds : List WData) (vs : List Value), WellAll Pm h vs ds → plWs ds = true → (∀ u ∈ vs, OkU A u) → DwAll K (argH K h A) (vs.map toV) ds
  | [], _, x, _, _ => by
    cases x
    exact .nil
  | d :: ds, _, x, p, hu => by
    obtain ⟨v, vs, rfl, x1, x2⟩ := well_cons x
    have q : plW d = true ∧ plWs ds = true := Bool.and_eq_true_iff.mp p
    exact .cons (dw_one KX ar d v x1 q.1 (hu _ (List.mem_cons_self ..))) (dw_all KX ar ds vs x2 q.2 fun u m => hu u (List.mem_cons_of_mem _ m))
end
end
/-! ### the call -/
theorem spec_call {P : Program} {w : World} {K : PySem.W.Frag} {mg mb : Str → Option Value} {CX : CXT} {k : Nat} {fa : Addr} {fd : FuncData} {ps : List Str} {sp : Sp} {s₁ : Shared} {vals : List Value} {ds : List WData} {R : PySem.W.WRecords} {cl : Str → Option Addr} {d0 : WData}
    (KX : K.In s₁.heap) (hns : s₁.heap.Ns mainGlobals mg) (hb : s₁.heap.Ns builtinsNs mb) (hbb : ∀ x : Str, x ≠ "__name__" → mb x = bootBuiltins x) (hlim : s₁.heap.NoLimit) (hg : s₁.gens = #[])
    (hwl : WellAll w.params s₁.heap vals ds) (hpl : plWs ds = true) (hwt : ∀ d ∈ ds, d.weight ≤ 1048576) (hr : Room k callerA)
    (F : ∀ base : Heap, K.In base → base.Ns mainGlobals mg → FnOk P w K mg base CX k fa fd ps sp) (hbind : ∀ (s : Shared) (us : List Value), us.length = ps.length → BindsTo s fd ⟨us, []⟩ (ps.zip us)) (hlen : ds.length = ps.length)
    (hsp : ∀ (H : Hp) (xs : List V), OnlyF H → DwAll K H xs ds → sp xs H (fun v H' => Dw K H' v d0) fun _ _ _ => False)
    (hCX : ∀ H e s', CX [] H s₁ (fun _ _ _ => False) e s' → False) :
    codeAny (model P w) callerA (.call (.ref fa) ⟨vals, []⟩) (fun r s' => ∃ u as, r = .ok (.ret u) ∧ ReadsW R cl s'.heap u d0 as ∧ OldK s₁.heap s'.heap ∧ s'.os = s₁.os ∧ AllBare s'.gens) s₁ := by
  obtain ⟨A, ho, ar⟩ := area_all ds vals hwl hpl hwt
  have hO : OnlyF (argH K s₁.heap A) := argH_only ar
  have hok : HOk P w (argH K s₁.heap A) s₁.heap := argH_ok ar
  have hS := dw_all KX ar ds vals hwl hpl ho
  have hV := vals_toV ho
  have hK : ∀ b u, argH K s₁.heap A b = some u → K.lookup b = none := fun b u q => (argH_is ar q).1
  have noA : ∀ {b : Addr} {o : Obj} {es : Array DictEntry} {ep : Nat}, s₁.heap.get? b = some o → o.data = .dict es ep → argH K s₁.heap A b = none := fun {b o es ep} e d => by
    cases q : argH K s₁.heap A b with
    | none => rfl
    | some u =>
      obtain ⟨_, vs, _, _, ⟨e2, _⟩ | ⟨e2, _⟩⟩ := argH_is ar q
      · rw [e2] at e
        cases e
        have d' : Data.seq vs.toArray _ = Data.dict es ep := d
        cases d'
      · rw [e2] at e
        cases e
        have d' : Data.seq vs.toArray _ = Data.dict es ep := d
        cases d'
  generalize argH K s₁.heap A = H at hO hok hS hK noA
  have base_of : ∀ {b : Addr} {o : Obj}, s₁.heap.get? b = some o → H b = none → (hidT s₁.heap H).get? b = some o := fun e n => hidT_get e n
  have nsK : ∀ {b : Addr} {m : Str → Option Value}, s₁.heap.Ns b m → (hidT s₁.heap H).Ns b m := fun {b m} ⟨o, es, ep, e, d, r⟩ => ⟨o, es, ep, base_of e (noA e d), d, r⟩
  have nK : ∀ b o, K.lookup b = some o → H b = none := fun b o e => by
    cases q : H b with
    | none => rfl
    | some u =>
      rw [hK b u q] at e
      cases e
  have hKb : K.In (hidT s₁.heap H) := fun b o e => base_of (KX b o e) (nK b o e)
  have hM : Mod K mg (hidT s₁.heap H) := ⟨hKb, nsK hns, ⟨mb, nsK hb, hbb⟩, let ⟨mc, h1, h2⟩ := hlim; ⟨mc, nsK h1, h2⟩⟩
  have e0 : Env0 P w K mg (hidT s₁.heap H) callerA [] s₁ H := ⟨rfl, hM, fun b o e => of_hidT e, Nat.le_of_eq (hidT_size _ _), trivial, fun b hb => absurd (show b ∈ ([] : List Addr) from hb) (by simp), hok, .of_eq hg⟩
  have hl : vals.length = ps.length := by rw [wellAll_len hwl]; exact hlen
  refine codeAny_mono ((F _ hKb (nsK hns)).run callerA [] s₁ H ⟨vals, []⟩ vals (vals.map toV) _ _ hr e0 (hbind s₁ vals hl) hV (hsp H _ hO hS)) fun r s' x => ?_
  cases r with
  | error e => exact (hCX H e s' x).elim
  | ok fl =>
    cases fl with
    | next => exact False.elim x
    | brk => exact False.elim x
    | cont => exact False.elim x
    | ret u =>
      obtain ⟨v, H', os, bare, un, hok', r', q⟩ := x
      have kept : ∀ b o, s₁.heap.get? b = some o → s'.heap.get? b = some o := fun b o e => by
        cases q2 : H b with
        | none => exact un.keep b o e q2 (by intro z; exact absurd (show b ∈ ([] : List Addr) from z) (by simp)) (by simp)
        | some u2 =>
          rcases hO b with z | ⟨ob, u3, z⟩
          · rw [q2] at z
            cases z
          · have z2 := un.frzs b ob _ z
            obtain ⟨e1, _⟩ := hok b _ z
            obtain ⟨e2, _⟩ := hok' b _ z2
            rw [e] at e1
            cases e1
            exact e2
      have KX' : K.In s'.heap := fun b o e => kept b o (KX b o e)
      obtain ⟨as, hrd⟩ := Dw.reads (R := R) (cl := cl) hok' KX' d0 v u q r'
      exact ⟨u, as, rfl, hrd, OldK.of_keep kept, os, bare⟩
/-! ### the row -/
theorem layable_weight {ds : List WData} (h : WData.layableAll ds = true) : ∀ d ∈ ds, d.weight ≤ 1048576 := fun d hd =>
  (PySem.W.layableW_iff.mp (List.all_eq_true.mp h d hd)).2.2
theorem encAll_len : ∀ (cs : List Codec) (a : Codec.denoteAll cs), (Codec.encAll cs a).length = cs.length
  | [], _ => rfl
  | c :: cs, a => by
    show (Codec.encAll cs a.2).length + 1 = cs.length + 1
    rw [encAll_len cs a.2]
/-- the goal that k_headS leaves (case hc), from the promise of the row's def: whatever the arguments that the codecs let and the row asks for, the def gives what stands for enc (f ..) -/
theorem walk_spec {r : OpenSpec} {k : Nat} {q : Program} {loose : List Str} {XP : (Str → Option Value) → Heap → Prop} {YP : World → Heap → Prop} {d : DefRec} {K : Params → PySem.W.Frag} {CX : World → CXT} {ps : List Str} {sp : World → Sp}
    (hwell : r.wellSaid = true) (hdf : d.params.defaults = []) (hlen : r.args.length = ps.length) (hr : Room k callerA)
    (hY : ∀ (w : World) (h : Heap), YP w h → (K w.params).In h)
    (F : ∀ (w : World) (mg : Str → Option Value) (fa : Addr) (h : Heap), YP w h → (K w.params).In h → h.Ns mainGlobals mg → mg d.name = some (.ref fa) →
      ∃ fd : FuncData, (∀ (s : Shared) (us : List Value), us.length = ps.length → BindsTo s fd ⟨us, []⟩ (ps.zip us)) ∧
        ∀ base : Heap, (K w.params).In base → base.Ns mainGlobals mg → FnOk r.prog w (K w.params) mg base (CX w) k fa fd ps (sp w))
    (hsp : ∀ (w : World) (H : Hp) (xs : List V) (a : Codec.denoteAll r.args), OnlyF H → Codec.withinAll r.args a = true → Codec.app r.args r.asked a = true → DwAll (K w.params) H xs (Codec.encAll r.args a) →
      sp w xs H (fun v H' => Dw (K w.params) H' v (r.ret.enc (Codec.app r.args r.f a))) fun _ _ _ => False)
    (hCX : ∀ (w : World) (H : Hp) (s : Shared) (e : Value) (s' : Shared), CX w [] H s (fun _ _ _ => False) e s' → False) :
    PySem.W.WalkOS q loose XP YP r d [] (fun f vs => PySem.call f vs) := by
  intro w s_0 s₁ mg mb G Y fa o pm cd doc dV kV ho hd hcd hD hmg hg args vals as hpre hlay hrd hwl hlo
  obtain ⟨a, e1, e2⟩ := PySem.W.os_pre_some hpre
  obtain ⟨e3, hwi⟩ := Codec.encAll_of_decAll r.args args a e1
  subst e3
  have KX := hY w _ Y
  obtain ⟨fd, hb, hF⟩ := F w mg fa _ Y KX G.T.g hmg
  refine PySem.W.enter_call (codeAny_mono (spec_call (R := []) (cl := classAt s_0.heap) (d0 := r.ret.enc (Codec.app r.args r.f a)) KX G.T.g G.T.b G.T.builtins G.T.nolimit hg hwl (pl_encAll _ _) (layable_weight hlay) hr hF hb (by rw [encAll_len]; exact hlen)
    (fun H xs hO hS => hsp w H xs a hO hwi e2 hS) fun H e s' => hCX w H s₁ e s') fun r' s' hq => ?_)
  obtain ⟨u, as', rfl, h1, h2, h3, h4⟩ := hq
  exact ⟨.inl ⟨u, _, as', rfl, fun _ => rfl, h1, (OpenSpec.post_iff hwell hwi _ _).mpr rfl, fun z => Bool.noConfusion (show false = true from z)⟩, h2, h3, h4⟩
/-- the same where the promise hangs on the written part alone -/
theorem walk_specK {r : OpenSpec} {k : Nat} {q : Program} {loose : List Str} {XP : (Str → Option Value) → Heap → Prop} {YP : World → Heap → Prop} {d : DefRec} {K : Params → PySem.W.Frag} {CX : CXT} {ps : List Str} {sp : PySem.W.Frag → Sp}
    (hwell : r.wellSaid = true) (hdf : d.params.defaults = []) (hlen : r.args.length = ps.length) (hr : Room k callerA)
    (hY : ∀ (w : World) (h : Heap), YP w h → (K w.params).In h)
    (F : ∀ (w : World) (mg : Str → Option Value) (fa : Addr) (h : Heap), YP w h → (K w.params).In h → h.Ns mainGlobals mg → mg d.name = some (.ref fa) →
      ∃ fd : FuncData, (∀ (s : Shared) (us : List Value), us.length = ps.length → BindsTo s fd ⟨us, []⟩ (ps.zip us)) ∧
        ∀ base : Heap, (K w.params).In base → base.Ns mainGlobals mg → FnOk r.prog w (K w.params) mg base CX k fa fd ps (sp (K w.params)))
    (hsp : ∀ (K : PySem.W.Frag) (H : Hp) (xs : List V) (a : Codec.denoteAll r.args), OnlyF H → Codec.withinAll r.args a = true → Codec.app r.args r.asked a = true → DwAll K H xs (Codec.encAll r.args a) →
      sp K xs H (fun v H' => Dw K H' v (r.ret.enc (Codec.app r.args r.f a))) fun _ _ _ => False)
    (hCX : ∀ (H : Hp) (s : Shared) (e : Value) (s' : Shared), CX [] H s (fun _ _ _ => False) e s' → False) :
    PySem.W.WalkOS q loose XP YP r d [] (fun f vs => PySem.call f vs) :=
  walk_spec (K := K) (CX := fun _ => CX) (sp := fun w => sp (K w.params)) hwell hdf hlen hr hY F (fun w H xs a h1 h2 h3 h4 => hsp (K w.params) H xs a h1 h2 h3 h4) fun _ H s e s' => hCX H s e s'
end L2
-- rests on (row put in by the clerk, for the bench that shows a file only what it spells): KE.SpHead KE.OsShapes
end

section
set_option Elab.async false
namespace My
/-! ### coefficients; division by a polynomial whose first coefficient is 1, as functions -/
def cf (p : List Int) (i : Nat) : Int := p.getD i 0
/-- q moved up by t -/
def sh (q : Nat → Int) (t : Nat) : Nat → Int := fun j => if t ≤ j then q (j - t) else 0
/-- what stands at n + t made nothing by q -/
def el (q : Nat → Int) (n t : Nat) (f : Nat → Int) : Nat → Int := fun j => f j - f (n + t) * sh q t j
/-- i turns, from the top down -/
def run (q : Nat → Int) (n m : Nat) : Nat → (Nat → Int) → Nat → Int
  | 0, f => f
  | i + 1, f => el q n (m - 1 - i) (run q n m i f)
def qt (q : Nat → Int) (n m : Nat) (f : Nat → Int) (t : Nat) : Int := run q n m (m - 1 - t) f (n + t)
def rd (q : Nat → Int) (n m : Nat) (f : Nat → Int) : Nat → Int := run q n m m f
theorem run_lin (q : Nat → Int) (n m : Nat) (f g : Nat → Int) (a : Int) : ∀ i, run q n m i (fun j => f j - a * g j) = fun j => run q n m i f j - a * run q n m i g j
  | 0 => rfl
  | i + 1 => by
    funext j
    show run q n m i (fun j => f j - a * g j) j - run q n m i (fun j => f j - a * g j) (n + (m - 1 - i)) * sh q (m - 1 - i) j = (run q n m i f j - run q n m i f (n + (m - 1 - i)) * sh q (m - 1 - i) j) - a * (run q n m i g j - run q n m i g (n + (m - 1 - i)) * sh q (m - 1 - i) j)
    rw [run_lin q n m f g a i]
    simp only [Int.sub_mul, Int.mul_sub, Int.mul_assoc]
    omega
theorem run_low (q : Nat → Int) (n m : Nat) {f : Nat → Int} (h : ∀ j, n ≤ j → f j = 0) : ∀ i, run q n m i f = f
  | 0 => rfl
  | i + 1 => by
    funext j
    show run q n m i f j - run q n m i f (n + (m - 1 - i)) * sh q (m - 1 - i) j = f j
    rw [run_low q n m h i, h (n + (m - 1 - i)) (Nat.le_add_right _ _), Int.zero_mul, Int.sub_zero]
section
variable {q : Nat → Int} {n : Nat} (h1 : q n = 1) (h0 : ∀ j, n < j → q j = 0)
include h0
theorem run_sh_lt {m t : Nat} : ∀ i, i ≤ m - 1 - t → run q n m i (sh q t) = sh q t
  | 0, _ => rfl
  | i + 1, hi => by
    funext j
    show run q n m i (sh q t) j - run q n m i (sh q t) (n + (m - 1 - i)) * sh q (m - 1 - i) j = sh q t j
    rw [run_sh_lt i (by omega)]
    have e : sh q t (n + (m - 1 - i)) = 0 := by
      unfold sh
      rw [if_pos (by omega)]
      exact h0 _ (by omega)
    rw [e, Int.zero_mul, Int.sub_zero]
include h1
theorem run_sh_ge {m t : Nat} (ht : t < m) : ∀ i, m - 1 - t < i → run q n m i (sh q t) = fun _ => 0
  | 0, h => absurd h (Nat.not_lt_zero _)
  | i + 1, hi => by
    funext j
    show run q n m i (sh q t) j - run q n m i (sh q t) (n + (m - 1 - i)) * sh q (m - 1 - i) j = 0
    by_cases hh : m - 1 - t < i
    · rw [run_sh_ge ht i hh, Int.zero_mul]
      exact Int.sub_zero 0
    · have ei : m - 1 - i = t := by omega
      rw [run_sh_lt h0 i (by omega), ei]
      have e : sh q t (n + t) = 1 := by
        unfold sh
        rw [if_pos (by omega), Nat.add_sub_cancel]
        exact h1
      rw [e, Int.one_mul, Int.sub_self]
/-- one step of any division leaves the rest as it is -/
theorem rd_step {m t : Nat} (ht : t < m) (f : Nat → Int) (a : Int) : rd q n m (fun j => f j - a * sh q t j) = rd q n m f := by
  unfold rd
  rw [run_lin, run_sh_ge h1 h0 ht m (by omega)]
  funext j
  show run q n m m f j - a * 0 = _
  rw [Int.mul_zero, Int.sub_zero]
theorem qt_step {m t : Nat} (ht : t < m) (f : Nat → Int) (a : Int) {u : Nat} (hu : u < m) : qt q n m (fun j => f j - a * sh q t j) u = qt q n m f u - (if u = t then a else 0) := by
  unfold qt
  rw [run_lin]
  show run q n m (m - 1 - u) f (n + u) - a * run q n m (m - 1 - u) (sh q t) (n + u) = _
  by_cases e : u = t
  · subst e
    rw [if_pos rfl, run_sh_lt h0 _ (by omega)]
    have e2 : sh q u (n + u) = 1 := by
      unfold sh
      rw [if_pos (by omega), Nat.add_sub_cancel]
      exact h1
    rw [e2, Int.mul_one]
  · rw [if_neg e, Int.sub_zero]
    by_cases hlt : u < t
    · rw [run_sh_ge h1 h0 ht _ (by omega)]
      show _ - a * 0 = _
      rw [Int.mul_zero, Int.sub_zero]
    · rw [run_sh_lt h0 _ (by omega)]
      have e2 : sh q t (n + u) = 0 := by
        unfold sh
        rw [if_pos (by omega)]
        exact h0 _ (by omega)
      rw [e2, Int.mul_zero, Int.sub_zero]
end
theorem rd_low (q : Nat → Int) (n m : Nat) {f : Nat → Int} (h : ∀ j, n ≤ j → f j = 0) : rd q n m f = f := run_low q n m h m
theorem qt_low (q : Nat → Int) (n m : Nat) {f : Nat → Int} (h : ∀ j, n ≤ j → f j = 0) (t : Nat) : qt q n m f t = 0 := by
  unfold qt
  rw [run_low q n m h]
  exact h _ (Nat.le_add_right _ _)
theorem run_front (q : Nat → Int) (n m : Nat) (f : Nat → Int) : ∀ i, run q n (m + 1) (i + 1) f = run q n m i (el q n m f)
  | 0 => by
    show el q n (m + 1 - 1 - 0) f = el q n m f
    rfl
  | i + 1 => by
    show el q n (m + 1 - 1 - (i + 1)) (run q n (m + 1) (i + 1) f) = el q n (m - 1 - i) (run q n m i (el q n m f))
    rw [run_front q n m f i]
    have e : m + 1 - 1 - (i + 1) = m - 1 - i := by omega
    rw [e]
/-! ### lists -/
theorem cf_ge {p : List Int} {i : Nat} (h : p.length ≤ i) : cf p i = 0 := by
  unfold cf
  rw [List.getD_eq_getElem?_getD, List.getElem?_eq_none h]
  rfl
theorem cf_get {p : List Int} {i : Nat} (h : i < p.length) : cf p i = p[i] := by
  unfold cf
  rw [List.getD_eq_getElem?_getD, List.getElem?_eq_getElem h]
  rfl
theorem cf_get? {p : List Int} {i : Nat} (h : i < p.length) : p[i]? = some (cf p i) := by
  rw [cf_get h, List.getElem?_eq_getElem h]
theorem cf_ext {p r : List Int} (hl : p.length = r.length) (h : ∀ i, i < p.length → cf p i = cf r i) : p = r := by
  refine List.ext_getElem hl fun i h1 h2 => ?_
  have := h i h1
  rw [cf_get h1, cf_get h2] at this
  exact this
theorem cf_map_range (g : Nat → Int) (m i : Nat) : cf ((List.range m).map g) i = if i < m then g i else 0 := by
  by_cases h : i < m
  · rw [if_pos h, cf_get (by simpa using h)]
    simp
  · rw [if_neg h, cf_ge (by simpa using h)]
theorem cf_snoc (p : List Int) (a : Int) (i : Nat) : cf (p ++ [a]) i = if i < p.length then cf p i else if i = p.length then a else 0 := by
  by_cases h : i < p.length
  · rw [if_pos h, cf_get h, cf_get (by simp; omega), List.getElem_append_left h]
  · rw [if_neg h]
    by_cases e : i = p.length
    · subst e
      rw [if_pos rfl, cf_get (by simp)]
      simp
    · rw [if_neg e, cf_ge (by simp; omega)]
/-! ### without noughts at the end -/
theorem trimmed_snoc (p : List Int) (a : Int) : Cy.trimmed (p ++ [a]) = if a = 0 then Cy.trimmed p else p ++ [a] := by
  unfold Cy.trimmed
  rw [List.reverse_append]
  show (List.dropWhile _ (a :: p.reverse)).reverse = _
  rw [List.dropWhile_cons]
  by_cases h : a = 0
  · rw [if_pos h, if_pos (by simpa using h)]
  · rw [if_neg h, if_neg (by simpa using h)]
    simp
theorem snoc_cases (p : List Int) : p = [] ∨ ∃ r a, p = r ++ [a] := by
  cases h : p.reverse with
  | nil =>
    left
    simpa using h
  | cons a r =>
    right
    refine ⟨r.reverse, a, ?_⟩
    have := congrArg List.reverse h
    simpa using this
theorem trimmed_all : ∀ (k : Nat) (p : List Int), p.length = k → (∀ i, cf (Cy.trimmed p) i = cf p i) ∧ (Cy.trimmed p).length ≤ p.length ∧ (Cy.trimmed p = [] ∨ cf p ((Cy.trimmed p).length - 1) ≠ 0 ∧ Cy.trimmed p ≠ [])
  | 0, p, h => by
    have e : p = [] := List.eq_nil_of_length_eq_zero h
    subst e
    exact ⟨fun i => rfl, Nat.le_refl _, .inl rfl⟩
  | k + 1, p, h => by
    rcases snoc_cases p with e | ⟨r, a, e⟩
    · subst e
      simp at h
    · subst e
      have hr : r.length = k := by simpa using h
      obtain ⟨i1, i2, i3⟩ := trimmed_all k r hr
      rw [trimmed_snoc]
      by_cases ha : a = 0
      · rw [if_pos ha]
        refine ⟨fun i => ?_, by simp; omega, ?_⟩
        · rw [i1 i, cf_snoc]
          by_cases hi : i < r.length
          · rw [if_pos hi]
          · rw [if_neg hi, cf_ge (by omega)]
            by_cases e : i = r.length
            · rw [if_pos e, ha]
            · rw [if_neg e]
        · rcases i3 with i3 | ⟨i3, i4⟩
          · exact .inl i3
          · refine .inr ⟨?_, i4⟩
            have hpos : 0 < (Cy.trimmed r).length := List.length_pos_iff.mpr i4
            rw [cf_snoc, if_pos (by omega)]
            exact i3
      · rw [if_neg ha]
        refine ⟨fun i => rfl, Nat.le_refl _, .inr ⟨?_, by simp⟩⟩
        rw [cf_snoc]
        simp
        exact ha
theorem trimmed_cf (p : List Int) (i : Nat) : cf (Cy.trimmed p) i = cf p i := (trimmed_all _ p rfl).1 i
theorem trimmed_le (p : List Int) : (Cy.trimmed p).length ≤ p.length := (trimmed_all _ p rfl).2.1
theorem trimmed_last {p : List Int} (h : 0 < (Cy.trimmed p).length) : cf p ((Cy.trimmed p).length - 1) ≠ 0 := by
  rcases (trimmed_all _ p rfl).2.2 with e | ⟨e, _⟩
  · rw [e] at h
    simp at h
  · exact e
theorem trimmed_short {p : List Int} {k : Nat} (h : ∀ j, k ≤ j → cf p j = 0) : (Cy.trimmed p).length ≤ k := by
  by_cases hh : (Cy.trimmed p).length ≤ k
  · exact hh
  · exact absurd (h _ (by omega)) (trimmed_last (p := p) (by omega))
/-- lists with the same coefficients, the one ending with no nought -/
theorem trimmed_is {p l : List Int} (h : ∀ i, cf p i = cf l i) (hl : l = [] ∨ cf l (l.length - 1) ≠ 0) : Cy.trimmed p = l := by
  have h1 : (Cy.trimmed p).length ≤ l.length := trimmed_short fun j hj => by rw [h j]; exact cf_ge hj
  have h2 : l.length ≤ (Cy.trimmed p).length := by
    rcases hl with e | e
    · subst e
      exact Nat.zero_le _
    · by_cases hh : l.length ≤ (Cy.trimmed p).length
      · exact hh
      · exfalso
        apply e
        rw [← h, ← trimmed_cf]
        exact cf_ge (by omega)
  refine cf_ext (by omega) fun i _ => ?_
  rw [trimmed_cf, h]
/-! ### the specification's division -/
theorem less_cf (p r : List Int) (i : Nat) : cf (Cy.lessPoly p r) i = cf p i - cf r i := by
  unfold Cy.lessPoly
  rw [cf_map_range]
  by_cases h : i < max p.length r.length
  · rw [if_pos h]
    rfl
  · rw [if_neg h, cf_ge (p := p) (by omega), cf_ge (p := r) (by omega)]
    rfl
theorem less_len (p r : List Int) : (Cy.lessPoly p r).length = max p.length r.length := by
  unfold Cy.lessPoly
  simp
theorem cf_rep_append (k : Nat) (r : List Int) (i : Nat) : cf (List.replicate k 0 ++ r) i = sh (cf r) k i := by
  unfold sh cf
  rw [List.getD_eq_getElem?_getD]
  by_cases h : k ≤ i
  · rw [if_pos h, List.getElem?_append_right (by simpa using h)]
    simp [List.getD_eq_getElem?_getD]
  · rw [if_neg h, List.getElem?_append_left (by simpa using Nat.lt_of_not_le h)]
    simp [Nat.lt_of_not_le h]
theorem cf_map_mul (a : Int) (r : List Int) (i : Nat) : cf (r.map fun b => a * b) i = a * cf r i := by
  by_cases h : i < r.length
  · rw [cf_get (by simpa using h), cf_get h]
    simp
  · rw [cf_ge (by simpa using Nat.le_of_not_lt h), cf_ge (by omega), Int.mul_zero]
theorem getLastD_cf (p : List Int) : p.getLastD 0 = cf p (p.length - 1) := by
  rcases snoc_cases p with e | ⟨r, a, e⟩
  · subst e
    rfl
  · subst e
    rw [cf_snoc]
    simp
theorem divide_ok {q : List Int} {n : Nat} (hq : q.length = n + 1) (h1 : cf q n = 1) (m : Nat) : ∀ (f : Nat) (p k : List Int), p.length ≤ n + m → (Cy.trimmed p).length ≤ n + f →
    (∀ j, n ≤ j → cf (Cy.divideFrom q f p k).2 j = 0) ∧ (∀ j, cf (Cy.divideFrom q f p k).2 j = rd (cf q) n m (cf p) j) ∧ (∀ t, cf (Cy.divideFrom q f p k).1 t = cf k t + if t < m then qt (cf q) n m (cf p) t else 0) := by
  have h0 : ∀ j, n < j → cf q j = 0 := fun j hj => cf_ge (by omega)
  have base : ∀ p k : List Int, (Cy.trimmed p).length ≤ n → (∀ j, n ≤ j → cf p j = 0) ∧ (∀ j, cf p j = rd (cf q) n m (cf p) j) ∧ (∀ t, cf k t = cf k t + if t < m then qt (cf q) n m (cf p) t else 0) := by
    intro p k h
    have hz : ∀ j, n ≤ j → cf p j = 0 := fun j hj => by rw [← trimmed_cf]; exact cf_ge (by omega)
    refine ⟨hz, fun j => by rw [rd_low _ _ _ hz], fun t => ?_⟩
    by_cases ht : t < m
    · rw [if_pos ht, qt_low _ _ _ hz, Int.add_zero]
    · rw [if_neg ht, Int.add_zero]
  intro f
  induction f with
  | zero =>
    intro p k _ h
    exact base p k h
  | succ f ih =>
    intro p k hp hf
    unfold Cy.divideFrom
    by_cases hc : (Cy.trimmed p).length < q.length
    · rw [if_pos hc]
      exact base p k (by omega)
    · rw [if_neg hc]
      dsimp only
      have hN : ∃ N, (Cy.trimmed p).length = n + N + 1 := ⟨(Cy.trimmed p).length - (n + 1), by omega⟩
      obtain ⟨N, eN⟩ := hN
      have e1 : (Cy.trimmed p).length - q.length = N := by omega
      have e2 : (Cy.trimmed p).getLastD 0 = cf p (n + N) := by
        rw [getLastD_cf, trimmed_cf, eN]
        rfl
      have hle := trimmed_le p
      rw [e1, e2]
      generalize ha : cf p (n + N) = a
      have ep : ∀ j, cf (Cy.lessPoly p (List.replicate N 0 ++ q.map fun b => a * b)) j = cf p j - a * sh (cf q) N j := by
        intro j
        rw [less_cf, cf_rep_append]
        unfold sh
        by_cases h : N ≤ j
        · rw [if_pos h, if_pos h, cf_map_mul]
        · rw [if_neg h, if_neg h, Int.mul_zero]
      have epf : cf (Cy.lessPoly p (List.replicate N 0 ++ q.map fun b => a * b)) = fun j => cf p j - a * sh (cf q) N j := funext ep
      have el' : (Cy.lessPoly p (List.replicate N 0 ++ q.map fun b => a * b)).length ≤ n + m := by
        rw [less_len]
        simp
        omega
      have es : (Cy.trimmed (Cy.lessPoly p (List.replicate N 0 ++ q.map fun b => a * b))).length ≤ n + f := by
        refine Nat.le_trans (trimmed_short (k := n + N) fun j hj => ?_) (by omega)
        rw [ep]
        by_cases e : j = n + N
        · subst e
          rw [ha]
          have : sh (cf q) N (n + N) = 1 := by
            unfold sh
            rw [if_pos (by omega), Nat.add_sub_cancel]
            exact h1
          rw [this, Int.mul_one, Int.sub_self]
        · have e5 : cf p j = 0 := by
            rw [← trimmed_cf]
            exact cf_ge (by omega)
          have e6 : sh (cf q) N j = 0 := by
            unfold sh
            rw [if_pos (by omega)]
            exact h0 _ (by omega)
          rw [e5, e6, Int.mul_zero]
          rfl
      have ht : N < m := by omega
      obtain ⟨r1, r2, r3⟩ := ih _ (Cy.lessPoly k (List.replicate N 0 ++ [-a])) el' es
      refine ⟨r1, fun j => ?_, fun t => ?_⟩
      · rw [r2, epf, rd_step h1 h0 ht]
      · rw [r3, less_cf, cf_rep_append, epf]
        have e7 : sh (cf [-a]) N t = if t = N then -a else 0 := by
          unfold sh
          by_cases h : N ≤ t
          · rw [if_pos h]
            by_cases e : t = N
            · subst e
              rw [if_pos rfl, Nat.sub_self]
              rfl
            · rw [if_neg e]
              exact cf_ge (by simp; omega)
          · rw [if_neg h, if_neg (by omega)]
        rw [e7]
        by_cases htm : t < m
        · rw [if_pos htm, if_pos htm, qt_step h1 h0 ht _ _ htm]
          by_cases e : t = N
          · rw [if_pos e, if_pos e]
            omega
          · rw [if_neg e, if_neg e]
            omega
        · rw [if_neg htm, if_neg htm, if_neg (by omega)]
          omega
/-- **the quotient's list** -/
def ql (q p : List Int) (n m : Nat) : List Int := (List.range m).map fun t => qt (cf q) n m (cf p) t
theorem ql_len (q p : List Int) (n m : Nat) : (ql q p n m).length = m := by simp [ql]
theorem ql_top (q p : List Int) (n m : Nat) : cf (ql q p n (m + 1)) m = cf p (n + m) := by
  unfold ql
  rw [cf_map_range, if_pos (by omega)]
  unfold qt
  have e : m + 1 - 1 - m = 0 := by omega
  rw [e]
  rfl
theorem divide_q {q p : List Int} {n m : Nat} (hq : q.length = n + 1) (h1 : cf q n = 1) (hp : p.length = n + (m + 1)) (hp1 : cf p (n + m) = 1) : Cy.trimmed (Cy.divide p q).1 = ql q p n (m + 1) := by
  have hd := divide_ok hq h1 (m + 1) (p.length + 1) p [] (by omega) (by have := trimmed_le p; omega)
  refine trimmed_is (fun i => ?_) (.inr ?_)
  · show cf (Cy.divideFrom q (p.length + 1) p []).1 i = _
    rw [hd.2.2 i]
    unfold ql
    rw [cf_map_range]
    have : cf [] i = 0 := cf_ge (Nat.zero_le _)
    rw [this, Int.zero_add]
  · rw [ql_len]
    show cf _ m ≠ 0
    rw [ql_top, hp1]
    decide
theorem divide_r {q p : List Int} {n m : Nat} (hq : q.length = n + 1) (h1 : cf q n = 1) (hp : p.length ≤ n + m) (i : Nat) : cf (Cy.divide p q).2 i = rd (cf q) n m (cf p) i :=
  (divide_ok hq h1 m (p.length + 1) p [] hp (by have := trimmed_le p; omega)).2.1 i
/-! ### the quotient, reckoned fast -/
def subMul (a : Int) : List Int → List Int → List Int
  | [], _ => []
  | x :: w, [] => x :: w
  | x :: w, y :: q => (x - a * y) :: subMul a w q
def synth (q : List Int) : Nat → List Int → List Int
  | 0, _ => []
  | _ + 1, [] => []
  | m + 1, a :: w => a :: synth q m (subMul a w q)
def qs (p q : List Int) : List Int := (synth q.reverse.tail (p.length - (q.length - 1)) p.reverse).reverse
theorem subMul_len (a : Int) : ∀ w q : List Int, (subMul a w q).length = w.length
  | [], _ => rfl
  | x :: w, [] => rfl
  | x :: w, y :: q => by
    show (subMul a w q).length + 1 = w.length + 1
    rw [subMul_len a w q]
theorem subMul_cf (a : Int) : ∀ (w q : List Int) (j : Nat), j < w.length → cf (subMul a w q) j = cf w j - a * cf q j
  | [], _, j, h => absurd h (Nat.not_lt_zero _)
  | x :: w, [], j, h => by
    have e : cf ([] : List Int) j = 0 := cf_ge (Nat.zero_le _)
    rw [e, Int.mul_zero, Int.sub_zero]
    rfl
  | x :: w, y :: q, 0, h => rfl
  | x :: w, y :: q, j + 1, h => subMul_cf a w q j (Nat.lt_of_succ_lt_succ h)
theorem synth_ok {q : Nat → Int} {n : Nat} {qr : List Int} (hl : qr.length = n) (hr : ∀ j, j < n → cf qr j = q (n - 1 - j)) : ∀ (m : Nat) (w : List Int) (F : Nat → Int), w.length = n + m → (∀ j, j < n + m → cf w j = F (n + m - 1 - j)) → synth qr m w = (List.range m).map fun i => run q n m i F (n + m - 1 - i)
  | 0, w, F, _, _ => rfl
  | m + 1, [], F, h, _ => by simp at h
  | m + 1, a :: w, F, h, hF => by
    have ha : a = F (n + m) := by
      have := hF 0 (by omega)
      have e : n + (m + 1) - 1 - 0 = n + m := by omega
      rw [e] at this
      exact this
    have hw : w.length = n + m := by
      have : w.length + 1 = n + (m + 1) := h
      omega
    show a :: synth qr m (subMul a w qr) = _
    rw [synth_ok hl hr m (subMul a w qr) (el q n m F) (by rw [subMul_len]; exact hw) ?_]
    · rw [List.range_succ_eq_map, List.map_cons, List.map_map]
      have e0 : run q n (m + 1) 0 F (n + (m + 1) - 1 - 0) = a := by
        rw [ha]
        show F _ = _
        congr 1
      rw [e0]
      congr 1
      refine List.map_congr_left fun i hi => ?_
      have hi' : i < m := List.mem_range.mp hi
      show _ = run q n (m + 1) (i + 1) F (n + (m + 1) - 1 - (i + 1))
      rw [run_front]
      congr 1
      omega
    · intro j hj
      rw [subMul_cf a w qr j (by omega)]
      have e1 : cf w j = F (n + m - 1 - j) := by
        have := hF (j + 1) (by omega)
        have e : n + (m + 1) - 1 - (j + 1) = n + m - 1 - j := by omega
        rw [e] at this
        exact this
      unfold el
      rw [e1, ha]
      congr 1
      congr 1
      unfold sh
      by_cases hjn : j < n
      · rw [hr j hjn, if_pos (by omega)]
        congr 1
        omega
      · rw [if_neg (by omega)]
        exact cf_ge (by omega)
theorem cf_rev (p : List Int) {j : Nat} (h : j < p.length) : cf p.reverse j = cf p (p.length - 1 - j) := by
  rw [cf_get (by simpa using h), cf_get (by omega), List.getElem_reverse]
theorem cf_tail (p : List Int) (j : Nat) : cf p.tail j = cf p (j + 1) := by
  cases p with
  | nil => rfl
  | cons a p => rfl
theorem qs_is {q p : List Int} {n m : Nat} (hq : q.length = n + 1) (hp : p.length = n + m) : qs p q = ql q p n m := by
  unfold qs
  have e : p.length - (q.length - 1) = m := by omega
  rw [e, synth_ok (q := cf q) (n := n) (by simp; omega) (fun j hj => ?_) m p.reverse (cf p) (by simpa using hp) (fun j hj => ?_)]
  · unfold ql
    refine cf_ext (by simp) fun i hi => ?_
    have hi' : i < m := by simpa using hi
    rw [cf_rev _ (by simpa using hi')]
    simp only [List.length_map, List.length_range]
    rw [cf_map_range, cf_map_range, if_pos (by omega), if_pos hi']
    unfold qt
    congr 1
    omega
  · rw [cf_tail, cf_rev _ (by omega)]
    congr 1
    omega
  · rw [cf_rev _ (by omega)]
    congr 1
    omega
end My

set_option Elab.async false
set_option maxRecDepth 100000
namespace My
/-! ### the polynomials' table, and what the kernel reckons of it -/
def tabs : List (Nat × Nat) := [
  (0, 0),
  (2, 16),
  (2, 18),
  (3, 93),
  (3, 88),
  (5, 2343),
  (3, 83),
  (7, 58593),
  (5, 2188),
  (7, 54813),
  (5, 2083),
  (11, 36621093),
  (5, 2163),
  (13, 915527343),
  (7, 52083),
  (9, 1291683),
  (9, 1367188),
  (17, 572204589843),
  (7, 54563),
  (19, 14305114746093),
  (9, 1352163),
  (13, 807241683),
  (11, 32552083),
  (23, 8940696716308593),
  (9, 1366563),
  (21, 333816538089063),
  (13, 813802083),
  (19, 13351442382813),
  (13, 845102163),
  (29, 139698386192321777343),
  (9, 1441443),
  (31, 3492459654808044433593),
  (17, 534057617188),
  (21, 315327799741683),
  (17, 508626302083),
  (25, 196711201986979683),
  (13, 854476563),
  (37, 54569682106375694274902343),
  (19, 12715657552083),
  (25, 197079873893491683),
  (17, 533813866563),
  (41, 34106051316484808921813964843),
  (13, 900991443),
  (43, 852651282912120223045349121093),
  (21, 330118032602163),
  (25, 208139449831054563),
  (23, 7947285970052083),
  (47, 532907051820075139403343200683593),
  (17, 534057226563),
  (43, 795810774471611261373901445313),
  (21, 333755502926563),
  (33, 76984325724287955991683),
  (25, 206323770376352163),
  (53, 8326672684688674053177237510681152343),
  (19, 13351438476563),
  (41, 30015654359299039108041979683),
  (25, 208521041626366563),
  (37, 48115203577665205924741683),
  (29, 124176343282063802083),
  (59, 130104260698260532080894336104393005371093),
  (17, 540150960963),
  (61, 3252606517456513302022358402609825134277343),
  (31, 3104408582051595052083),
  (37, 50815295368436813112304563),
  (33, 81490725278854370117188),
  (49, 11724864928203944366773478354479683),
  (21, 351951233491443),
  (67, 50821976835258020344099350040778517723083496093),
  (33, 80595222803262563852163),
  (45, 18795001397525231107588737241683),
  (25, 220513389584473443),
  (71, 31763735522036262715062093775486573576927185058593),
  (25, 208616256469726563),
  (73, 794093388050906567876552344387164339423179626464843),
  (37, 48506384094556172688802083),
  (41, 31829404179304742843627926563),
  (37, 50372014252039102407602163),
  (61, 2862302631470653907476494747861837572929683),
  (25, 219969522327241443),
  (79, 12407709188295415123071130381049442803487181663513183593),
  (33, 81490665674362182226563),
  (55, 194289029309402394581586122512817382813),
  (41, 30316490059097607930501302083),
  (83, 7754818242684634451919456488155901752179488539695739746093),
  (25, 210996475463460963),
  (65, 1789072406902865465476255367239329025229479683),
  (43, 757912251477440198262532552083),
  (57, 4588623388067683281998841031905143491683),
  (41, 31817785892695093307251366563),
  (89, 121169035041947413311241507627435964877804508432745933532714843),
  (25, 209093063108398563),
  (73, 698804350055678336203188322658931461667985229179683),
  (45, 19676568067202774377969595102163),
  (61, 2867889617542302051245670525297041862241683),
  (47, 473695157173400123914082845052083),
  (73, 698856408946218591396996439139077871580001791979683),
  (33, 81490725278701782226563),
  (97, 47331654313260708324703713916967173780392386106541380286216735839843),
  (43, 795804953705518960958862226563),
  (61, 3028827629592226912906866520170211549804563),
  (41, 31832313630730009078969726563),
  (101, 29582283945787942702939821198104483612745241316588362678885459899902343),
  (33, 85925594681748889741443),
  (103, 739557098644698567573495529952612090318631032914709066972136497497558593),
  (49, 12428822614334020823145065063866563),
  (49, 13285683071443306592608451779707843),
  (53, 7401486830834376936157544453938802083),
  (107, 462223186652936604733434706220382556449144395571693166857585310935974121093),
  (37, 50931703299280166625976563),
  (109, 11555579666323415118335867655509563911228609889292329171439632773399353027343),
  (41, 33647812399727202193979473443),
  (73, 700168363657788586729863359763722626432295768491683),
  (49, 12434488780878018528223190307226563),
  (113, 7222237291452134448959917284693477444517881180807705732149770483374595642089843),
  (37, 53703496676114854358491443),
  (89, 106637025290864520413989616838913965135983506840085861166979683),
  (57, 4803849625781927338371483179239126352163),
  (73, 739459870505914773658901154703002422574996706054563),
  (59, 115648231731787139627461632092793782552083),
  (97, 41651985044307752196723881297618999993277052107583491083883666679683),
  (33, 81527978086318725586563)]
def unrow : Nat → Nat → List Int
  | 0, _ => []
  | k + 1, x => (((x % 5 : Nat) : Int) - 2) :: unrow k (x / 5)
def tb (d : Nat) : List Int := unrow (tabs.getD d (0, 0)).1 (tabs.getD d (0, 0)).2
/-- X^e - 1 -/
def xm (e : Nat) : List Int := (-1) :: (List.replicate (e - 1) 0 ++ [1])
/-- the divisors; the smaller ones -/
def dv (d : Nat) : List Nat := (List.range (d + 1)).filter fun e => decide (1 ≤ e) && decide (d % e = 0)
def pd (d : Nat) : List Nat := (List.range d).filter fun e => decide (1 ≤ e) && decide (d % e = 0)
def go : List Nat → List Int → Option (List Int)
  | [], p => some p
  | x :: r, p => if (tb x).length ≤ p.length then go r (qs p (tb x)) else none
def chk1 (e : Nat) : Bool := decide (go (pd e) (xm e) = some (tb e)) && (decide ((tb e).getLastD 0 = 1) && ((tb e).all (fun c => decide (-2 ≤ c) && decide (c ≤ 2)) && (decide (2 ≤ (tb e).length) && decide ((tb e).length ≤ 121))))
def chk2 (d : Nat) : Bool := (List.range (dv d).length).all fun i => decide (((dv d).take i).filter (fun x => decide ((dv d).getD i 0 % x = 0)) = pd ((dv d).getD i 0))
theorem all2 : ((List.range 120).all fun i => chk2 (i + 1)) = true := by decide +kernel
theorem all1 : ((List.range 120).all fun i => chk1 (i + 1)) = true := by decide +kernel
end My

set_option Elab.async false
set_option maxRecDepth 100000
namespace My
/-! ### the specification's polynomials are the table's -/
def Mon (p : List Int) : Prop := ∃ k, p.length = k + 1 ∧ cf p k = 1
structure TbOk (e n : Nat) : Prop where
  len : (tb e).length = n + 1
  lo : 1 ≤ n
  hi : n ≤ 120
  one : cf (tb e) n = 1
  bd : ∀ c, c ∈ tb e → -2 ≤ c ∧ c ≤ 2
  go : My.go (pd e) (xm e) = some (tb e)
theorem tb_ok {e : Nat} (h1 : 1 ≤ e) (h2 : e ≤ 120) : ∃ n, TbOk e n := by
  have h := List.all_eq_true.mp all1 (e - 1) (List.mem_range.mpr (by omega))
  have e1 : e - 1 + 1 = e := by omega
  rw [e1] at h
  unfold chk1 at h
  simp only [Bool.and_eq_true, decide_eq_true_eq] at h
  obtain ⟨a, b, c, d, f⟩ := h
  refine ⟨(tb e).length - 1, by omega, by omega, by omega, ?_, fun x hx => ?_, a⟩
  · rw [← getLastD_cf]
    exact b
  · have := List.all_eq_true.mp c x hx
    simp only [Bool.and_eq_true, decide_eq_true_eq] at this
    exact this
theorem step_ok {p : List Int} (hp : Mon p) {x : Nat} (h1 : 1 ≤ x) (h2 : x ≤ 120) (hl : (tb x).length ≤ p.length) : Cy.trimmed (Cy.divide p (tb x)).1 = qs p (tb x) ∧ Mon (qs p (tb x)) := by
  obtain ⟨n, T⟩ := tb_ok h1 h2
  obtain ⟨k, ek, e1⟩ := hp
  have hlen := T.len
  have hm : ∃ m, k = n + m := ⟨k - n, by omega⟩
  obtain ⟨m, rfl⟩ := hm
  rw [qs_is T.len (n := n) (m := m + 1) (by omega)]
  refine ⟨divide_q T.len T.one (by omega) e1, m, ql_len _ _ _ _, ?_⟩
  rw [ql_top]
  exact e1
theorem go_all : ∀ (xs : List Nat) (p r : List Int), My.go xs p = some r → Mon p → (∀ x, x ∈ xs → 1 ≤ x ∧ x ≤ 120) →
    xs.foldl (fun p x => Cy.trimmed (Cy.divide p (tb x)).1) p = r ∧ xs.foldl (fun p x => qs p (tb x)) p = r ∧ ∀ (i x : Nat), xs[i]? = some x → Mon ((xs.take i).foldl (fun p x => qs p (tb x)) p) ∧ (tb x).length ≤ ((xs.take i).foldl (fun p x => qs p (tb x)) p).length
  | [], p, r, h, _, _ => by
    have e : p = r := Option.some.inj h
    subst e
    exact ⟨rfl, rfl, fun i x hx => by simp at hx⟩
  | x :: xs, p, r, h, hp, hx => by
    unfold My.go at h
    by_cases hl : (tb x).length ≤ p.length
    · rw [if_pos hl] at h
      obtain ⟨h1, h2⟩ := hx x (List.mem_cons_self ..)
      obtain ⟨s1, s2⟩ := step_ok hp h1 h2 hl
      obtain ⟨r1, r2, r3⟩ := go_all xs _ r h s2 (fun y hy => hx y (List.mem_cons_of_mem _ hy))
      refine ⟨?_, r2, fun i y hy => ?_⟩
      · rw [List.foldl_cons, s1]
        exact r1
      · match i, hy with
        | 0, hy =>
          have e : x = y := Option.some.inj hy
          subst e
          exact ⟨hp, hl⟩
        | i + 1, hy => exact r3 i y hy
    · rw [if_neg hl] at h
      cases h
theorem xm_mon {e : Nat} (h : 1 ≤ e) : Mon (xm e) := by
  refine ⟨e, by simp [xm]; omega, ?_⟩
  unfold xm
  obtain ⟨k, rfl⟩ : ∃ k, e = k + 1 := ⟨e - 1, by omega⟩
  show cf (List.replicate (k + 1 - 1) 0 ++ [1]) k = 1
  rw [cf_snoc]
  simp
theorem pd_mem {e x : Nat} (h : x ∈ pd e) : 1 ≤ x ∧ x < e ∧ e % x = 0 := by
  unfold pd at h
  rw [List.mem_filter, List.mem_range] at h
  simp only [Bool.and_eq_true, decide_eq_true_eq] at h
  omega
theorem dv_mem {e x : Nat} (h : x ∈ dv e) : 1 ≤ x ∧ x ≤ e ∧ e % x = 0 := by
  unfold dv at h
  rw [List.mem_filter, List.mem_range] at h
  simp only [Bool.and_eq_true, decide_eq_true_eq] at h
  omega
theorem dv_pd {e : Nat} (h : 1 ≤ e) : dv e = pd e ++ [e] := by
  unfold dv pd
  rw [List.range_succ, List.filter_append, List.filter_cons, if_pos (by simp [Nat.mod_self]; omega), List.filter_nil]
theorem dv_take {d i k : Nat} (h1 : 1 ≤ d) (h2 : d ≤ 120) (hk : (dv d)[i]? = some k) : ((dv d).take i).filter (fun x => decide (k % x = 0)) = pd k := by
  have h := List.all_eq_true.mp all2 (d - 1) (List.mem_range.mpr (by omega))
  have e1 : d - 1 + 1 = d := by omega
  rw [e1] at h
  unfold chk2 at h
  have hi : i < (dv d).length := (List.getElem?_eq_some_iff.mp hk).1
  have h := List.all_eq_true.mp h i (List.mem_range.mpr hi)
  rw [decide_eq_true_eq] at h
  have ek : (dv d).getD i 0 = k := by
    rw [List.getD_eq_getElem?_getD, hk]
    rfl
  rw [ek] at h
  exact h
theorem fold_if (k : Nat) : ∀ (l : List Nat) (p0 : List Int), (l.map fun e => (e, tb e)).foldl (fun (p : List Int) (x : Nat × List Int) => if k % x.1 = 0 then Cy.trimmed (Cy.divide p x.2).1 else p) p0 = (l.filter fun x => decide (k % x = 0)).foldl (fun p x => Cy.trimmed (Cy.divide p (tb x)).1) p0
  | [], p0 => rfl
  | x :: l, p0 => by
    rw [List.map_cons, List.foldl_cons, List.filter_cons]
    by_cases h : k % x = 0
    · rw [if_pos h, if_pos (by simpa using h), List.foldl_cons]
      exact fold_if k l _
    · rw [if_neg h, if_neg (by simpa using h)]
      exact fold_if k l _
theorem take_snoc {α : Type} : ∀ {l : List α} {i : Nat} {x : α}, l[i]? = some x → l.take (i + 1) = l.take i ++ [x]
  | [], i, x, h => by simp at h
  | a :: l, 0, x, h => by
    have e : a = x := Option.some.inj h
    subst e
    rfl
  | a :: l, i + 1, x, h => by
    have ih := take_snoc (l := l) (i := i) (x := x) h
    show a :: l.take (i + 1) = a :: l.take i ++ [x]
    rw [ih]
    rfl
theorem table_part {d : Nat} (h1 : 1 ≤ d) (h2 : d ≤ 120) : ∀ i, i ≤ (dv d).length → ((dv d).take i).foldl (fun (l : List (Nat × List Int)) (e : Nat) => l ++ [(e, l.foldl (fun (p : List Int) (x : Nat × List Int) => if e % x.1 = 0 then Cy.trimmed (Cy.divide p x.2).1 else p) (xm e))]) [] = ((dv d).take i).map fun e => (e, tb e)
  | 0, _ => by simp
  | i + 1, hi => by
    have hk : ∃ k, (dv d)[i]? = some k := ⟨_, List.getElem?_eq_getElem (by omega)⟩
    obtain ⟨k, hk⟩ := hk
    rw [take_snoc hk, List.foldl_append, table_part h1 h2 i (by omega), List.map_append, List.foldl_cons, List.foldl_nil]
    congr 1
    show [(k, _)] = [(k, tb k)]
    rw [fold_if, dv_take h1 h2 hk]
    have mk := dv_mem (List.mem_of_getElem? hk)
    obtain ⟨n, T⟩ := tb_ok mk.1 (by omega)
    rw [(go_all _ _ _ T.go (xm_mon mk.1) (fun x hx => by have := pd_mem hx; omega)).1]
theorem cyclo_tb {d : Nat} (h1 : 1 ≤ d) (h2 : d ≤ 120) : Cy.cyclo d = tb d := by
  have h := table_part h1 h2 (dv d).length (Nat.le_refl _)
  rw [List.take_length] at h
  unfold Cy.cyclo
  have e : Cy.cycloTable d = (dv d).map fun e => (e, tb e) := h
  rw [e, dv_pd h1, List.map_append]
  simp
/-- the inner loop's list, behind i divisors -/
def part (k i : Nat) : List Int := ((pd k).take i).foldl (fun p x => qs p (tb x)) (xm k)
theorem part_step {k i j : Nat} (h1 : 1 ≤ k) (h2 : k ≤ 120) (hj : (pd k)[i]? = some j) : part k (i + 1) = qs (part k i) (tb j) ∧ Mon (part k i) ∧ (tb j).length ≤ (part k i).length := by
  obtain ⟨n, T⟩ := tb_ok h1 h2
  have g := go_all _ _ _ T.go (xm_mon h1) (fun x hx => by have := pd_mem hx; omega)
  refine ⟨?_, g.2.2 i j hj⟩
  unfold part
  rw [take_snoc hj, List.foldl_append]
  rfl
theorem part_end {k : Nat} (h1 : 1 ≤ k) (h2 : k ≤ 120) : part k (pd k).length = tb k := by
  obtain ⟨n, T⟩ := tb_ok h1 h2
  have g := go_all _ _ _ T.go (xm_mon h1) (fun x hx => by have := pd_mem hx; omega)
  unfold part
  rw [List.take_length]
  exact g.2.1
theorem synth_len (q : List Int) : ∀ (m : Nat) (w : List Int), (synth q m w).length ≤ m
  | 0, _ => Nat.le_refl _
  | m + 1, [] => Nat.zero_le _
  | m + 1, a :: w => Nat.succ_le_succ (synth_len q m (subMul a w q))
theorem qs_len (p q : List Int) : (qs p q).length ≤ p.length := by
  unfold qs
  rw [List.length_reverse]
  exact Nat.le_trans (synth_len _ _ _) (Nat.sub_le _ _)
theorem fold_len : ∀ (xs : List Nat) (p : List Int), (xs.foldl (fun p x => qs p (tb x)) p).length ≤ p.length
  | [], _ => Nat.le_refl _
  | x :: xs, p => Nat.le_trans (fold_len xs (qs p (tb x))) (qs_len _ _)
theorem part_len {k i : Nat} (h1 : 1 ≤ k) : (part k i).length ≤ k + 1 := by
  refine Nat.le_trans (fold_len _ _) ?_
  simp [xm]
  omega
end My

set_option Elab.async false
namespace Sm
open Cy CyG My
/-! ### rows in fours and thirteens -/
theorem getD_drop (l : List Int) (k i : Nat) (z : Int) : (l.drop k).getD i z = l.getD (k + i) z := by
  rw [List.getD_eq_getElem?_getD, List.getD_eq_getElem?_getD, List.getElem?_drop]
theorem take4 {l : List Int} (h : 4 ≤ l.length) : l.take 4 = [l.getD 0 0, l.getD 1 0, l.getD 2 0, l.getD 3 0] := by
  match l, h with
  | a :: b :: c :: d :: r, _ => rfl
theorem fours_is : ∀ (n : Nat) (l : List Int) (k : Nat), l.length = 4 * k → 4 * k ≤ n → fours n l = (List.range k).map fun i => [l.getD (4 * i) 0, l.getD (4 * i + 1) 0, l.getD (4 * i + 2) 0, l.getD (4 * i + 3) 0]
  | 0, l, k, h, hn => by
    have e : k = 0 := by omega
    subst e
    rfl
  | n + 1, l, k, h, hn => by
    unfold fours
    cases k with
    | zero =>
      have e : l = [] := List.eq_nil_of_length_eq_zero (by omega)
      subst e
      rfl
    | succ k =>
      rw [if_neg (by
        intro q
        rw [List.isEmpty_iff] at q
        subst q
        simp at h), fours_is n (l.drop 4) k (by rw [List.length_drop]; omega) (by omega), List.range_succ_eq_map, List.map_cons, List.map_map, take4 (by omega)]
      congr 1
      refine List.map_congr_left fun i _ => ?_
      show [(l.drop 4).getD (4 * i) 0, (l.drop 4).getD (4 * i + 1) 0, (l.drop 4).getD (4 * i + 2) 0, (l.drop 4).getD (4 * i + 3) 0] = [l.getD (4 * (i + 1)) 0, l.getD (4 * (i + 1) + 1) 0, l.getD (4 * (i + 1) + 2) 0, l.getD (4 * (i + 1) + 3) 0]
      rw [getD_drop, getD_drop, getD_drop, getD_drop]
      have e0 : 4 + 4 * i = 4 * (i + 1) := by omega
      have e1 : 4 + (4 * i + 1) = 4 * (i + 1) + 1 := by omega
      have e2 : 4 + (4 * i + 2) = 4 * (i + 1) + 2 := by omega
      have e3 : 4 + (4 * i + 3) = 4 * (i + 1) + 3 := by omega
      rw [e0, e1, e2, e3]
theorem points_is {c p : List Int} {k : Nat} (h : p.length = 4 * k + 1) : (crystalIn c p).p = (List.range k).map fun i => [p.getD (4 * i + 1) 0, p.getD (4 * i + 2) 0, p.getD (4 * i + 3) 0, p.getD (4 * i + 4) 0] := by
  show fours p.length (p.drop 1) = _
  rw [fours_is p.length (p.drop 1) k (by rw [List.length_drop]; omega) (by omega)]
  refine List.map_congr_left fun i _ => ?_
  rw [getD_drop, getD_drop, getD_drop, getD_drop]
  have e0 : 1 + 4 * i = 4 * i + 1 := by omega
  have e1 : 1 + (4 * i + 1) = 4 * i + 2 := by omega
  have e2 : 1 + (4 * i + 2) = 4 * i + 3 := by omega
  have e3 : 1 + (4 * i + 3) = 4 * i + 4 := by omega
  rw [e0, e1, e2, e3]
/-! ### coefficients of sums -/
theorem cf_addAt {P : List Int} {i : Nat} (a : Int) (hi : i < P.length) (t : Nat) : cf (addAt P i a) t = cf P t + if i = t then a else 0 := by
  unfold addAt cf
  rw [List.getD_eq_getElem?_getD (l := P.set _ _), List.getElem?_set]
  by_cases e : i = t
  · subst e
    rw [if_pos rfl, if_pos hi, if_pos rfl]
    rfl
  · rw [if_neg e, if_neg e, Int.add_zero, List.getD_eq_getElem?_getD]
theorem addAt_len (P : List Int) (i : Nat) (a : Int) : (addAt P i a).length = P.length := by
  unfold addAt
  rw [List.length_set]
/-- a sum over a list -/
def sm {α : Type} (l : List α) (f : α → Int) : Int := (l.map f).sum
theorem sm_nil {α : Type} (f : α → Int) : sm [] f = 0 := rfl
theorem sm_cons {α : Type} (a : α) (l : List α) (f : α → Int) : sm (a :: l) f = f a + sm l f := by
  unfold sm
  rw [List.map_cons, List.sum_cons]
theorem sm_append {α : Type} (f : α → Int) : ∀ l l' : List α, sm (l ++ l') f = sm l f + sm l' f
  | [], l' => by rw [List.nil_append, sm_nil, Int.zero_add]
  | a :: l, l' => by rw [List.cons_append, sm_cons, sm_append f l l', sm_cons, Int.add_assoc]
theorem fold_add {α : Type} (e : α → Nat) (a : α → Int) : ∀ (l : List α) (P : List Int), (∀ x, x ∈ l → e x < P.length) → (l.foldl (fun P x => addAt P (e x) (a x)) P).length = P.length ∧ ∀ t, cf (l.foldl (fun P x => addAt P (e x) (a x)) P) t = cf P t + sm l fun x => if e x = t then a x else 0
  | [], P, _ => ⟨rfl, fun t => by rw [sm_nil, Int.add_zero]; rfl⟩
  | x :: l, P, h => by
    obtain ⟨h1, h2⟩ := fold_add e a l (addAt P (e x) (a x)) fun y hy => by
      rw [addAt_len]
      exact h y (List.mem_cons_of_mem _ hy)
    rw [List.foldl_cons]
    refine ⟨by rw [h1, addAt_len], fun t => ?_⟩
    rw [h2, cf_addAt _ (h x (List.mem_cons_self ..)), sm_cons, Int.add_assoc]
/-- the one row, by the table -/
theorem row_is {d n m : Nat} (T : TbOk d n) (h1 : 1 ≤ d) (h2 : d ≤ 120) {p : List Int} (hp : p.length ≤ n + m) : rowOf d p = (List.range n).map fun i => rd (cf (tb d)) n m (cf p) i := by
  unfold rowOf
  dsimp only
  rw [cyclo_tb h1 h2]
  have e : (tb d).length - 1 = n := by
    rw [T.len]
    omega
  rw [e]
  refine List.map_congr_left fun i _ => ?_
  exact divide_r T.len T.one hp i
end Sm

set_option Elab.async false
namespace Sm
open Cy CyG My
/-! ### a description's sums by places -/
/-- the place of point i's power, its weight -/
def ph (p h : List Int) (i : Nat) : Nat := ((at_ h 0 * p.getD (4 * i + 2) 0 + at_ h 1 * p.getD (4 * i + 3) 0 + at_ h 2 * p.getD (4 * i + 4) 0) % p.headD 0).toNat
def wt (p f : List Int) (i : Nat) : Int := f.getD (p.getD (4 * i + 1) 0 - 1).toNat 0
theorem ph_lt {p h : List Int} {d : Nat} (hd : p.headD 0 = (d : Int)) (h1 : 1 ≤ d) (i : Nat) : ph p h i < d := by
  unfold ph
  rw [hd]
  have a := Int.emod_nonneg (at_ h 0 * p.getD (4 * i + 2) 0 + at_ h 1 * p.getD (4 * i + 3) 0 + at_ h 2 * p.getD (4 * i + 4) 0) (show (d : Int) ≠ 0 by omega)
  have b := Int.emod_lt_of_pos (at_ h 0 * p.getD (4 * i + 2) 0 + at_ h 1 * p.getD (4 * i + 3) 0 + at_ h 2 * p.getD (4 * i + 4) 0) (show (0 : Int) < (d : Int) by omega)
  omega
theorem powers_is {c p f h : List Int} {k d : Nat} (hk : p.length = 4 * k + 1) (hd : p.headD 0 = (d : Int)) : (crystalIn c p).powers f h = (List.range k).foldl (fun P i => addAt P (ph p h i) (wt p f i)) (List.replicate d 0) := by
  unfold Crystal.powers
  rw [points_is hk, List.foldl_map]
  have e : (crystalIn c p).d.toNat = d := by
    show (p.headD 0).toNat = d
    omega
  rw [e]
  rfl
theorem powers_ok {c p f h : List Int} {k d : Nat} (hk : p.length = 4 * k + 1) (hd : p.headD 0 = (d : Int)) (h1 : 1 ≤ d) : ((crystalIn c p).powers f h).length = d ∧ ∀ t, cf ((crystalIn c p).powers f h) t = sm (List.range k) fun i => if ph p h i = t then wt p f i else 0 := by
  rw [powers_is hk hd]
  obtain ⟨a, b⟩ := fold_add (ph p h) (wt p f) (List.range k) (List.replicate d 0) fun x _ => by
    rw [List.length_replicate]
    exact ph_lt hd h1 x
  refine ⟨by rw [a, List.length_replicate], fun t => ?_⟩
  rw [b]
  have e : cf (List.replicate d 0) t = 0 := by
    unfold cf
    rw [List.getD_eq_getElem?_getD, List.getElem?_replicate]
    split <;> rfl
  rw [e, Int.zero_add]
/-- the strength's powers -/
def st (d : Nat) (P : List Int) : List Int := (List.range d).foldl (fun (r : List Int) (i : Nat) => (List.range d).foldl (fun (r : List Int) (j : Nat) => addAt r ((i + d - j) % d) (P.getD i 0 * P.getD j 0)) r) (List.replicate d 0)
theorem cf_rep0 (d t : Nat) : cf (List.replicate d 0) t = 0 := by
  unfold cf
  rw [List.getD_eq_getElem?_getD, List.getElem?_replicate]
  split <;> rfl
theorem fold2 {d : Nat} (h1 : 1 ≤ d) (P : List Int) : ∀ (l : List Nat) (r : List Int), r.length = d → ((l.foldl (fun (r : List Int) (i : Nat) => (List.range d).foldl (fun (r : List Int) (j : Nat) => addAt r ((i + d - j) % d) (P.getD i 0 * P.getD j 0)) r) r)).length = d ∧ ∀ t, cf (l.foldl (fun (r : List Int) (i : Nat) => (List.range d).foldl (fun (r : List Int) (j : Nat) => addAt r ((i + d - j) % d) (P.getD i 0 * P.getD j 0)) r) r) t = cf r t + sm l fun i => sm (List.range d) fun j => if (i + d - j) % d = t then cf P i * cf P j else 0
  | [], r, hr => ⟨hr, fun t => by rw [sm_nil, Int.add_zero]; rfl⟩
  | i :: l, r, hr => by
    obtain ⟨a, b⟩ := fold_add (fun j => (i + d - j) % d) (fun j => P.getD i 0 * P.getD j 0) (List.range d) r fun x _ => by
      rw [hr]
      exact Nat.mod_lt _ h1
    rw [List.foldl_cons]
    obtain ⟨c, e⟩ := fold2 h1 P l _ (a.trans hr)
    refine ⟨c, fun t => ?_⟩
    rw [e, b, sm_cons, Int.add_assoc]
    rfl
theorem st_ok {d : Nat} (h1 : 1 ≤ d) (P : List Int) : (st d P).length = d ∧ ∀ t, cf (st d P) t = sm (List.range d) fun i => sm (List.range d) fun j => if (i + d - j) % d = t then cf P i * cf P j else 0 := by
  obtain ⟨a, b⟩ := fold2 h1 P (List.range d) (List.replicate d 0) List.length_replicate
  refine ⟨a, fun t => ?_⟩
  unfold st
  rw [b, cf_rep0, Int.zero_add]
theorem strength_is {c p f h : List Int} {d : Nat} (hd : p.headD 0 = (d : Int)) : (crystalIn c p).strength f h = rowOf d (st d ((crystalIn c p).powers f h)) := by
  unfold Crystal.strength
  dsimp only
  have e : (crystalIn c p).d.toNat = d := by
    show (p.headD 0).toNat = d
    omega
  rw [e]
  rfl
theorem sum_is {c p f h : List Int} {d : Nat} (hd : p.headD 0 = (d : Int)) : (crystalIn c p).sum f h = rowOf d ((crystalIn c p).powers f h) := by
  unfold Crystal.sum
  have e : (crystalIn c p).d.toNat = d := by
    show (p.headD 0).toNat = d
    omega
  rw [e]
/-! ### what is asked -/
structure Form (c p f h : List Int) : Prop where
  c7 : c.length = 7
  p1 : p.length % 4 = 1
  cin : ∀ a, a ∈ c → -1048576 < a ∧ a < 1048576
  s0 : 0 < c.getD 6 0
  f255 : f.length ≤ 255
  fin : ∀ a, a ∈ f → -1048576 < a ∧ a < 1048576
  h3 : h.length = 3
  hin : ∀ a, a ∈ h → -1048576 < a ∧ a < 1048576
theorem inside_iff {b : Int} {l : List Int} : inside b l = true ↔ ∀ a, a ∈ l → -b < a ∧ a < b := by
  unfold inside
  rw [List.all_eq_true]
  simp only [Bool.and_eq_true, decide_eq_true_eq]
theorem form_iff {c p f h : List Int} : (shaped c p && (okCell c && (okWeights f && okIndex h))) = true ↔ Form c p f h := by
  unfold shaped okCell okWeights okIndex
  simp only [Bool.and_eq_true, decide_eq_true_eq, inside_iff]
  constructor
  · rintro ⟨⟨a, b⟩, ⟨_, d, e⟩, ⟨f, g⟩, h, i⟩
    exact ⟨a, b, d, e, f, g, h, i⟩
  · rintro ⟨a, b, d, e, f, g, h, i⟩
    exact ⟨⟨a, b⟩, ⟨a, d, e⟩, ⟨f, g⟩, h, i⟩
structure Descr (c p : List Int) (k d : Nat) : Prop where
  cell : rightMat (crystalIn c p).cell.mat = true
  d1 : 1 ≤ d
  d2 : d ≤ 120
  k1 : 1 ≤ k
  k2 : k ≤ 64
  kind : ∀ i, i < k → 1 ≤ p.getD (4 * i + 1) 0 ∧ p.getD (4 * i + 1) 0 ≤ 255
  spot : ∀ i, i < k → (0 ≤ p.getD (4 * i + 2) 0 ∧ p.getD (4 * i + 2) 0 < d) ∧ (0 ≤ p.getD (4 * i + 3) 0 ∧ p.getD (4 * i + 3) 0 < d) ∧ (0 ≤ p.getD (4 * i + 4) 0 ∧ p.getD (4 * i + 4) 0 < d)
  apart : ((List.range k).map fun i => [p.getD (4 * i + 2) 0, p.getD (4 * i + 3) 0, p.getD (4 * i + 4) 0]).Nodup
theorem descr_iff {c p : List Int} {k : Nat} (hk : p.length = 4 * k + 1) : right (crystalIn c p) = true ↔ ∃ d : Nat, p.headD 0 = (d : Int) ∧ Descr c p k d := by
  unfold right
  rw [points_is hk]
  simp only [Bool.and_eq_true, decide_eq_true_eq, List.length_map, List.length_range, List.map_map, List.all_map, List.all_eq_true, List.mem_range]
  constructor
  · rintro ⟨a, b1, b2, c1, c2, hp, hn⟩
    have b1' : 1 ≤ p.headD 0 := b1
    have b2' : p.headD 0 ≤ 120 := b2
    refine ⟨(p.headD 0).toNat, by omega, a, by omega, by omega, c1, c2, fun i hi => ?_, fun i hi => ?_, hn⟩
    · have := hp i hi
      simp only [Function.comp, Bool.and_eq_true] at this
      exact ⟨of_decide_eq_true this.1, of_decide_eq_true this.2.1⟩
    · have := hp i hi
      simp only [Function.comp, spot, List.drop_succ_cons, List.drop_zero, List.all_cons, List.all_nil, Bool.and_eq_true, decide_eq_true_eq] at this
      obtain ⟨_, _, h1, h2, h3, _⟩ := this
      have e : (crystalIn c p).d = p.headD 0 := rfl
      rw [e] at h1 h2 h3
      omega
  · rintro ⟨d, hd, D⟩
    refine ⟨D.cell, ?_, ?_, D.k1, D.k2, fun i hi => ?_, D.apart⟩
    · show (1 : Int) ≤ p.headD 0
      have := D.d1
      omega
    · show p.headD 0 ≤ (120 : Int)
      have := D.d2
      omega
    · have h1 := D.kind i hi
      have h2 := D.spot i hi
      have e : (crystalIn c p).d = p.headD 0 := rfl
      simp only [Function.comp, spot, kindOf, List.drop_succ_cons, List.drop_zero, List.all_cons, List.all_nil, Bool.and_eq_true, decide_eq_true_eq, e, hd]
      exact ⟨decide_eq_true h1.1, decide_eq_true h1.2, h2.1, h2.2.1, h2.2.2, trivial⟩
end Sm

set_option Elab.async false
namespace Sm
open Cy CyG My
/-! ### what the program asks, as truth values -/
def smallB (l : List Int) : Bool := l.all fun x => decide (-1048575 ≤ x) && decide (x ≤ 1048575)
def cellB (c : List Int) : Bool := decide (c.length = 7) && (smallB c && decide (1 ≤ c.getD 6 0))
def rowB (p : List Int) : Bool := decide (p.length % 4 = 1)
def wtsB (f : List Int) : Bool := decide (f.length ≤ 255) && smallB f
def idxB (h : List Int) : Bool := decide (h.length = 3) && smallB h
theorem small_in (l : List Int) : smallB l = inside 1048576 l := by
  unfold smallB inside
  congr 1
  funext x
  have h1 : decide (-1048575 ≤ x) = decide (-1048576 < x) := decide_eq_decide.mpr (by omega)
  have h2 : decide (x ≤ 1048575) = decide (x < 1048576) := decide_eq_decide.mpr (by omega)
  rw [h1, h2]
theorem cell_ok (c : List Int) : cellB c = okCell c := by
  unfold cellB okCell
  rw [small_in]
  have h : decide (1 ≤ c.getD 6 0) = decide (0 < c.getD 6 0) := decide_eq_decide.mpr (by omega)
  rw [h]
  rfl
theorem wts_ok (f : List Int) : wtsB f = okWeights f := by
  unfold wtsB okWeights
  rw [small_in]
  rfl
theorem idx_ok (h : List Int) : idxB h = okIndex h := by
  unfold idxB okIndex
  rw [small_in]
  rfl
theorem small_bd {l : List Int} (h : smallB l = true) : ∀ a, a ∈ l → -1048576 < a ∧ a < 1048576 := by
  rw [small_in, inside_iff] at h
  exact h
/-- the determinant as the program reckons it -/
def dtr (c : List Int) : Int := c.getD 0 0 * (c.getD 1 0 * c.getD 2 0 - c.getD 3 0 * c.getD 3 0) - c.getD 5 0 * (c.getD 5 0 * c.getD 2 0 - c.getD 4 0 * c.getD 3 0) + c.getD 4 0 * (c.getD 5 0 * c.getD 3 0 - c.getD 4 0 * c.getD 1 0)
def rgtB (c : List Int) : Bool := decide (0 < c.getD 0 0) && (decide (c.getD 5 0 * c.getD 5 0 < c.getD 0 0 * c.getD 1 0) && decide (0 < dtr c))
theorem take6 (c : List Int) {i : Nat} (h : i < 6) : (c.take 6).getD i 0 = c.getD i 0 := by
  rw [List.getD_eq_getElem?_getD, List.getD_eq_getElem?_getD, List.getElem?_take, if_pos h]
theorem mat_is (c p : List Int) : (crystalIn c p).cell.mat = [c.getD 0 0, c.getD 5 0, c.getD 4 0, c.getD 5 0, c.getD 1 0, c.getD 3 0, c.getD 4 0, c.getD 3 0, c.getD 2 0] := by
  show [(c.take 6).getD 0 0, (c.take 6).getD 5 0, (c.take 6).getD 4 0, (c.take 6).getD 5 0, (c.take 6).getD 1 0, (c.take 6).getD 3 0, (c.take 6).getD 4 0, (c.take 6).getD 3 0, (c.take 6).getD 2 0] = _
  rw [take6 c (by decide), take6 c (by decide), take6 c (by decide), take6 c (by decide), take6 c (by decide), take6 c (by decide)]
theorem det9 (a b c d e f : Int) : det [a, b, c, b, d, e, c, e, f] = a * (d * f - e * e) - b * (b * f - c * e) + c * (b * e - c * d) := by
  show a * (d * f - e * e) + b * (e * c - b * f) + c * (b * e - d * c) = _
  grind
theorem right_is (c p : List Int) : rightMat (crystalIn c p).cell.mat = rgtB c := by
  rw [mat_is]
  unfold rightMat rgtB
  rw [det9]
  have h1 : decide (0 < cofactor [c.getD 0 0, c.getD 5 0, c.getD 4 0, c.getD 5 0, c.getD 1 0, c.getD 3 0, c.getD 4 0, c.getD 3 0, c.getD 2 0] 2 2) = decide (c.getD 5 0 * c.getD 5 0 < c.getD 0 0 * c.getD 1 0) := by
    show decide (0 < c.getD 0 0 * c.getD 1 0 - c.getD 5 0 * c.getD 5 0) = _
    exact decide_eq_decide.mpr (by omega)
  rw [h1]
  rfl
/-! ### points -/
def pt (p : List Int) (i : Nat) : List Int := [p.getD (4 * i + 1) 0, p.getD (4 * i + 2) 0, p.getD (4 * i + 3) 0, p.getD (4 * i + 4) 0]
def ky (p : List Int) (i : Nat) : List Int := [p.getD (4 * i + 2) 0, p.getD (4 * i + 3) 0, p.getD (4 * i + 4) 0]
def withinB (l : List Int) (a b : Int) : Bool := l.all fun x => decide (a ≤ x) && decide (x ≤ b)
def ptB (q : List Int) (d : Int) : Bool := (decide (1 ≤ q.getD 0 0) && decide (q.getD 0 0 ≤ 255)) && withinB (q.drop 1) 0 (d - 1)
def orderB (d : Int) : Bool := decide (1 ≤ d) && decide (d ≤ 120)
def descB (c p : List Int) : Bool :=
  if (rgtB c && (orderB (p.headD 0) && (decide (1 ≤ p.length / 4) && decide (p.length / 4 ≤ 64)))) = true then
    ((List.range (p.length / 4)).all fun i => ptB (pt p i) (p.headD 0)) && decide (((List.range (p.length / 4)).map (ky p)).Nodup) else false
theorem desc_ok {c p : List Int} {k : Nat} (hk : p.length = 4 * k + 1) : descB c p = right (crystalIn c p) := by
  unfold descB right
  rw [points_is hk, right_is]
  have e : p.length / 4 = k := by omega
  have ed : (crystalIn c p).d = p.headD 0 := rfl
  rw [e, ed, List.length_map, List.length_range]
  have h1 : (((List.range k).map fun i => [p.getD (4 * i + 1) 0, p.getD (4 * i + 2) 0, p.getD (4 * i + 3) 0, p.getD (4 * i + 4) 0]).map spot) = (List.range k).map (ky p) := by
    rw [List.map_map]
    rfl
  rw [h1, List.all_map]
  have h2 : (((fun (q : List Int) => decide (1 ≤ kindOf q) && (decide (kindOf q ≤ 255) && (spot q).all fun (a : Int) => decide (0 ≤ a) && decide (a < p.headD 0))) ∘ fun i => [p.getD (4 * i + 1) 0, p.getD (4 * i + 2) 0, p.getD (4 * i + 3) 0, p.getD (4 * i + 4) 0])) = fun i => ptB (pt p i) (p.headD 0) := by
    funext i
    have hw : withinB ((pt p i).drop 1) 0 (p.headD 0 - 1) = (spot (pt p i)).all fun (a : Int) => decide (0 ≤ a) && decide (a < p.headD 0) := by
      unfold withinB spot
      congr 1
      funext a
      have : decide (a ≤ p.headD 0 - 1) = decide (a < p.headD 0) := decide_eq_decide.mpr (by omega)
      rw [this]
    show (decide (1 ≤ kindOf (pt p i)) && (decide (kindOf (pt p i) ≤ 255) && (spot (pt p i)).all fun (a : Int) => decide (0 ≤ a) && decide (a < p.headD 0))) = _
    unfold ptB
    rw [hw, Bool.and_assoc]
    rfl
  rw [h2]
  have hd : orderB (p.headD 0) = (decide (1 ≤ p.headD 0) && decide (p.headD 0 ≤ DEGREE)) := rfl
  have hp : decide (k ≤ 64) = decide (k ≤ POINTS) := rfl
  rw [hd, hp]
  cases rgtB c <;> cases decide (1 ≤ p.headD 0) <;> cases decide (p.headD 0 ≤ DEGREE) <;> cases decide (1 ≤ k) <;> cases decide (k ≤ POINTS) <;> simp
/-! ### refusals -/
def refB (c p f : List Int) (hs : List (List Int)) : Int := if (cellB c && (rowB p && wtsB f)) = true then (if hs.all idxB = true then (if descB c p = true then 0 else -2) else -1) else -1
structure Good (c p f : List Int) (hs : List (List Int)) (k d : Nat) : Prop where
  cell : c.length = 7
  cin : ∀ a, a ∈ c → -1048576 < a ∧ a < 1048576
  plen : p.length = 4 * k + 1
  wlen : f.length ≤ 255
  win : ∀ a, a ∈ f → -1048576 < a ∧ a < 1048576
  hok : ∀ h, h ∈ hs → h.length = 3 ∧ ∀ a, a ∈ h → -1048576 < a ∧ a < 1048576
  hd : p.headD 0 = (d : Int)
  ds : Descr c p k d
theorem ref_cases (c p f : List Int) (hs : List (List Int)) : (refB c p f hs = -1 ∧ ¬ (cellB c = true ∧ rowB p = true ∧ wtsB f = true ∧ hs.all idxB = true)) ∨ (refB c p f hs = -2 ∧ (cellB c = true ∧ rowB p = true ∧ wtsB f = true ∧ hs.all idxB = true) ∧ right (crystalIn c p) = false) ∨
    (refB c p f hs = 0 ∧ (cellB c = true ∧ rowB p = true ∧ wtsB f = true ∧ hs.all idxB = true) ∧ right (crystalIn c p) = true ∧ ∃ k d, Good c p f hs k d) := by
  unfold refB
  by_cases h1 : (cellB c && (rowB p && wtsB f)) = true
  · rw [if_pos h1]
    simp only [Bool.and_eq_true] at h1
    obtain ⟨a1, a2, a3⟩ := h1
    by_cases h2 : hs.all idxB = true
    · rw [if_pos h2]
      have a2' : p.length % 4 = 1 := of_decide_eq_true a2
      have hk : p.length = 4 * (p.length / 4) + 1 := by omega
      rw [desc_ok hk]
      by_cases h3 : right (crystalIn c p) = true
      · rw [if_pos h3]
        obtain ⟨d, hd, D⟩ := (descr_iff hk).mp h3
        right; right
        refine ⟨rfl, ⟨a1, a2, a3, h2⟩, h3, p.length / 4, d, ?_⟩
        unfold cellB at a1
        unfold wtsB at a3
        simp only [Bool.and_eq_true, decide_eq_true_eq] at a1 a3
        refine ⟨a1.1, small_bd a1.2.1, hk, a3.1, small_bd a3.2, fun h hh => ?_, hd, D⟩
        have := List.all_eq_true.mp h2 h hh
        unfold idxB at this
        simp only [Bool.and_eq_true, decide_eq_true_eq] at this
        exact ⟨this.1, small_bd this.2⟩
      · rw [if_neg h3]
        right; left
        exact ⟨rfl, ⟨a1, a2, a3, h2⟩, by simpa using h3⟩
    · rw [if_neg h2]
      left
      exact ⟨rfl, fun q => h2 q.2.2.2⟩
  · rw [if_neg h1]
    left
    refine ⟨rfl, fun q => h1 ?_⟩
    rw [q.1, q.2.1, q.2.2.1]
    rfl
theorem of_is {c p f h : List Int} {hs : List (List Int)} (g : Crystal → Answer) (hh : hs.all idxB = true → okIndex h = true) (hh2 : okIndex h = true → hs.all idxB = true) :
    of_ c p f h g = if refB c p f hs = -1 then .refused 1 else if refB c p f hs = -2 then .refused 2 else g (crystalIn c p) := by
  unfold of_
  have hf : (shaped c p && (okCell c && (okWeights f && okIndex h))) = true ↔ (cellB c = true ∧ rowB p = true ∧ wtsB f = true ∧ hs.all idxB = true) := by
    rw [cell_ok, wts_ok]
    unfold shaped rowB
    simp only [Bool.and_eq_true, decide_eq_true_eq]
    constructor
    · rintro ⟨⟨a, b⟩, c, d, e⟩
      exact ⟨c, b, d, hh2 e⟩
    · rintro ⟨a, b, c, d⟩
      refine ⟨⟨?_, b⟩, a, c, hh d⟩
      unfold okCell at a
      simp only [Bool.and_eq_true, decide_eq_true_eq] at a
      exact a.1
  rcases ref_cases c p f hs with ⟨e, q⟩ | ⟨e, q, r⟩ | ⟨e, q, r, _⟩
  · rw [e, if_pos rfl, if_pos]
    rw [← hf] at q
    simpa using q
  · rw [e, if_neg (by rw [hf.mpr q]; decide), if_pos r]
    rfl
  · rw [e, if_neg (by rw [hf.mpr q]; decide), if_neg (by rw [r]; decide)]
    rfl
theorem all_one (h : List Int) : [h].all idxB = okIndex h := by
  rw [List.all_cons, List.all_nil, Bool.and_true, idx_ok]
theorem summed_is (c p f h : List Int) : PyWqambr.summed c p f h = if refB c p f [h] < 0 then [refB c p f [h]] else 0 :: (crystalIn c p).sum f h := by
  show CyGNeutral.shown (of_ c p f h fun x => .told (x.sum f h)) = _
  rw [of_is (hs := [h]) _ (fun q => by rw [← all_one]; exact q) (fun q => by rw [all_one]; exact q)]
  rcases ref_cases c p f [h] with ⟨e, q⟩ | ⟨e, q, r⟩ | ⟨e, q, r, _⟩ <;> rw [e] <;> rfl
theorem power_is (c p f h : List Int) : PyWqambr.power c p f h = if refB c p f [h] < 0 then [refB c p f [h]] else 0 :: (crystalIn c p).strength f h := by
  show CyGNeutral.shown (of_ c p f h fun x => .told (x.strength f h)) = _
  rw [of_is (hs := [h]) _ (fun q => by rw [← all_one]; exact q) (fun q => by rw [all_one]; exact q)]
  rcases ref_cases c p f [h] with ⟨e, q⟩ | ⟨e, q, r⟩ | ⟨e, q, r, _⟩ <;> rw [e] <;> rfl
theorem any_all (l : List Int) : (if l.all (fun a => decide (a = 0)) = true then (1 : Int) else 0) = if (l.any fun a => a != 0) = true then 0 else 1 := by
  have : (l.any fun a => a != 0) = !(l.all fun a => decide (a = 0)) := by
    rw [List.any_eq_not_all_not]
    congr 1
    congr 1
    funext a
    by_cases h : a = 0 <;> simp [h]
  rw [this]
  cases l.all fun a => decide (a = 0) <;> rfl
theorem zero_is (c p f h : List Int) : PyWqambr.zero c p f h = if refB c p f [h] < 0 then [refB c p f [h]] else [0, if (((crystalIn c p).sum f h).any fun a => a != 0) = true then 0 else 1] := by
  show CyGNeutral.shown (of_ c p f h fun x => .told [if (x.sum f h).all (fun (a : Int) => decide (a = 0)) = true then 1 else 0]) = _
  rw [of_is (hs := [h]) _ (fun q => by rw [← all_one]; exact q) (fun q => by rw [all_one]; exact q)]
  rcases ref_cases c p f [h] with ⟨e, q⟩ | ⟨e, q, r⟩ | ⟨e, q, r, _⟩ <;> rw [e]
  · rfl
  · rfl
  · rw [← any_all]
    rfl
theorem equal_is (c p f h k : List Int) : PyWqambr.equal c p f h k = if refB c p f [h, k] < 0 then [refB c p f [h, k]] else [0, if (crystalIn c p).strength f h = (crystalIn c p).strength f k then 1 else 0] := by
  show CyGNeutral.shown (if okIndex k = false then .refused 1 else of_ c p f h fun x => .told [if x.strength f h = x.strength f k then 1 else 0]) = _
  have e2 : [h, k].all idxB = (okIndex h && okIndex k) := by
    rw [List.all_cons, all_one, idx_ok]
  by_cases hk : okIndex k = true
  · rw [if_neg (by rw [hk]; decide), of_is (hs := [h, k]) _ (fun q => by rw [e2, Bool.and_eq_true] at q; exact q.1) (fun q => by rw [e2, q, hk]; rfl)]
    rcases ref_cases c p f [h, k] with ⟨e, q⟩ | ⟨e, q, r⟩ | ⟨e, q, r, _⟩ <;> rw [e] <;> rfl
  · have hk' : okIndex k = false := by simpa using hk
    rw [if_pos hk']
    have : ¬ [h, k].all idxB = true := by
      rw [e2, hk', Bool.and_false]
      decide
    rcases ref_cases c p f [h, k] with ⟨e, q⟩ | ⟨e, q, r⟩ | ⟨e, q, r, _⟩
    · rw [e]
      rfl
    · exact absurd q.2.2.2 this
    · exact absurd q.2.2.2 this
/-! ### powers are not large -/
theorem sm_abs {α : Type} (f : α → Int) (B : Int) (hB : 0 ≤ B) : ∀ l : List α, (∀ x, x ∈ l → -B ≤ f x ∧ f x ≤ B) → -(B * l.length) ≤ sm l f ∧ sm l f ≤ B * l.length
  | [], _ => by
    rw [sm_nil]
    simp
  | a :: l, h => by
    rw [sm_cons, List.length_cons]
    obtain ⟨i1, i2⟩ := sm_abs f B hB l fun x hx => h x (List.mem_cons_of_mem _ hx)
    obtain ⟨h1, h2⟩ := h a (List.mem_cons_self ..)
    have : B * ((l.length + 1 : Nat) : Int) = B * (l.length : Int) + B := by
      rw [Int.natCast_add, Int.mul_add]
      omega
    rw [this]
    omega
theorem wt_bd {p f : List Int} (h : ∀ a, a ∈ f → -1048576 < a ∧ a < 1048576) (i : Nat) : -1048576 ≤ wt p f i ∧ wt p f i ≤ 1048576 := by
  unfold wt
  rw [List.getD_eq_getElem?_getD]
  cases e : f[(p.getD (4 * i + 1) 0 - 1).toNat]? with
  | none =>
    show -1048576 ≤ (0 : Int) ∧ (0 : Int) ≤ 1048576
    omega
  | some a =>
    have := h a (List.mem_of_getElem? e)
    show -1048576 ≤ a ∧ a ≤ 1048576
    omega
theorem powers_bd {c p f h : List Int} {hs : List (List Int)} {k d : Nat} (G : Good c p f hs k d) (t : Nat) : -(2 ^ 64) < cf ((crystalIn c p).powers f h) t ∧ cf ((crystalIn c p).powers f h) t < 2 ^ 64 := by
  rw [(powers_ok G.plen G.hd G.ds.d1).2]
  obtain ⟨a, b⟩ := sm_abs (fun i => if ph p h i = t then wt p f i else 0) 1048576 (by decide) (List.range k) fun i _ => by
    show -1048576 ≤ (if ph p h i = t then wt p f i else 0) ∧ (if ph p h i = t then wt p f i else 0) ≤ 1048576
    split
    · exact wt_bd G.win i
    · omega
  rw [List.length_range] at a b
  have hk := G.ds.k2
  have e : (2 : Int) ^ 64 = 18446744073709551616 := by decide
  rw [e]
  omega
theorem row_len {d n : Nat} (T : TbOk d n) (h1 : 1 ≤ d) (h2 : d ≤ 120) (p : List Int) : (rowOf d p).length = n := by
  unfold rowOf
  dsimp only
  rw [cyclo_tb h1 h2, List.length_map, List.length_range, T.len]
  omega
theorem tb_le {d n : Nat} (T : TbOk d n) (h1 : 1 ≤ d) (h2 : d ≤ 120) : n ≤ d := by
  have := part_len (k := d) (i := (pd d).length) h1
  rw [part_end h1 h2, T.len] at this
  omega
end Sm

set_option Elab.async false
namespace Mo
open Cy CyG My Sm
/-! ### motions by places -/
theorem getD_take (l : List Int) {k i : Nat} (z : Int) (h : i < k) : (l.take k).getD i z = l.getD i z := by
  rw [List.getD_eq_getElem?_getD, List.getD_eq_getElem?_getD, List.getElem?_take, if_pos h]
def mo (m : List Int) (i : Nat) : Motion := ⟨(m.drop (13 * i)).take 9, (m.drop (13 * i + 9)).take 3, m.getD (13 * i + 12) 1⟩
theorem thirteens_is : ∀ (n : Nat) (l : List Int) (k : Nat), l.length = 13 * k → 13 * k ≤ n → thirteens n l = (List.range k).map (mo l)
  | 0, l, k, h, hn => by
    have e : k = 0 := by omega
    subst e
    rfl
  | n + 1, l, k, h, hn => by
    unfold thirteens
    cases k with
    | zero =>
      have e : l = [] := List.eq_nil_of_length_eq_zero (by omega)
      subst e
      rfl
    | succ k =>
      rw [if_neg (by
        intro q
        rw [List.isEmpty_iff] at q
        subst q
        simp at h), thirteens_is n (l.drop 13) k (by rw [List.length_drop]; omega) (by omega), List.range_succ_eq_map, List.map_cons, List.map_map]
      congr 1
      refine List.map_congr_left fun i _ => ?_
      show mo (l.drop 13) i = mo l (i + 1)
      unfold mo
      rw [List.drop_drop, List.drop_drop, getD_drop]
      have e0 : 13 + 13 * i = 13 * (i + 1) := by omega
      have e1 : 13 + (13 * i + 9) = 13 * (i + 1) + 9 := by omega
      have e2 : 13 + (13 * i + 12) = 13 * (i + 1) + 12 := by omega
      rw [e0, e1, e2]
theorem motions_is {m : List Int} {k : Nat} (h : m.length = 13 * k) : motionsIn m = (List.range k).map (mo m) := thirteens_is _ _ _ h (by omega)
theorem mo_w (m : List Int) (i : Nat) {a b : Nat} (ha : a < 3) (hb : b < 3) : entry (mo m i).w a b = m.getD (13 * i + (3 * a + b)) 0 := by
  show ((m.drop (13 * i)).take 9).getD (3 * a + b) 0 = _
  rw [getD_take _ _ (by omega), getD_drop]
theorem mo_t (m : List Int) (i : Nat) {j : Nat} (hj : j < 3) : at_ (mo m i).t j = m.getD (13 * i + (9 + j)) 0 := by
  show ((m.drop (13 * i + 9)).take 3).getD j 0 = _
  rw [getD_take _ _ (by omega), getD_drop, Nat.add_assoc]
theorem mo_d {m : List Int} {k i : Nat} (h : m.length = 13 * k) (hi : i < k) : (mo m i).d = m.getD (13 * i + 12) 0 := by
  show m.getD (13 * i + 12) 1 = _
  rw [List.getD_eq_getElem?_getD, List.getD_eq_getElem?_getD, List.getElem?_eq_getElem (by omega)]
  rfl
/-- h times the i-th matrix -/
def hw (m h : List Int) (i : Nat) : List Int := [at_ h 0 * m.getD (13 * i) 0 + at_ h 1 * m.getD (13 * i + 3) 0 + at_ h 2 * m.getD (13 * i + 6) 0, at_ h 0 * m.getD (13 * i + 1) 0 + at_ h 1 * m.getD (13 * i + 4) 0 + at_ h 2 * m.getD (13 * i + 7) 0, at_ h 0 * m.getD (13 * i + 2) 0 + at_ h 1 * m.getD (13 * i + 5) 0 + at_ h 2 * m.getD (13 * i + 8) 0]
theorem times_is (m h : List Int) (i : Nat) : timesMat h (mo m i).w = hw m h i := by
  show [at_ h 0 * entry (mo m i).w 0 0 + at_ h 1 * entry (mo m i).w 1 0 + at_ h 2 * entry (mo m i).w 2 0, at_ h 0 * entry (mo m i).w 0 1 + at_ h 1 * entry (mo m i).w 1 1 + at_ h 2 * entry (mo m i).w 2 1, at_ h 0 * entry (mo m i).w 0 2 + at_ h 1 * entry (mo m i).w 1 2 + at_ h 2 * entry (mo m i).w 2 2] = _
  rw [mo_w m i (by decide) (by decide), mo_w m i (by decide) (by decide), mo_w m i (by decide) (by decide), mo_w m i (by decide) (by decide), mo_w m i (by decide) (by decide), mo_w m i (by decide) (by decide), mo_w m i (by decide) (by decide), mo_w m i (by decide) (by decide), mo_w m i (by decide) (by decide)]
  rfl
/-- h times the i-th shift -/
def ht (m h : List Int) (i : Nat) : Int := at_ h 0 * m.getD (13 * i + 9) 0 + at_ h 1 * m.getD (13 * i + 10) 0 + at_ h 2 * m.getD (13 * i + 11) 0
theorem extinct_iff {m h : List Int} {k : Nat} (hm : m.length = 13 * k) : extinct (motionsIn m) h = true ↔ ∃ i, i < k ∧ hw m h i = h ∧ ht m h i % m.getD (13 * i + 12) 0 ≠ 0 := by
  unfold extinct
  rw [motions_is hm, List.any_map, List.any_eq_true]
  constructor
  · rintro ⟨i, hi, q⟩
    have hi := List.mem_range.mp hi
    simp only [Function.comp, Bool.and_eq_true, decide_eq_true_eq] at q
    rw [times_is, mo_t m i (by decide), mo_t m i (by decide), mo_t m i (by decide), mo_d hm hi] at q
    exact ⟨i, hi, q⟩
  · rintro ⟨i, hi, q⟩
    refine ⟨i, List.mem_range.mpr hi, ?_⟩
    simp only [Function.comp, Bool.and_eq_true, decide_eq_true_eq]
    rw [times_is, mo_t m i (by decide), mo_t m i (by decide), mo_t m i (by decide), mo_d hm hi]
    exact q
theorem together_is {m h : List Int} {k : Nat} (hm : m.length = 13 * k) : together (motionsIn m) h = once (h :: (List.range k).map (hw m h)) := by
  unfold together
  rw [motions_is hm, List.map_map]
  congr 2
  exact List.map_congr_left fun i _ => times_is m h i
structure Mok (m h : List Int) (k : Nat) : Prop where
  len : m.length = 13 * k
  k96 : k ≤ 96
  min : ∀ a, a ∈ m → -1048576 < a ∧ a < 1048576
  e1 : ∀ i, i < k → 1 ≤ m.getD (13 * i + 12) 0
  h3 : h.length = 3
  hin : ∀ a, a ∈ h → -1048576 < a ∧ a < 1048576
theorem mok_iff {m h : List Int} : (okMotions m && okIndex h) = true ↔ ∃ k, Mok m h k := by
  unfold okMotions okIndex
  simp only [Bool.and_eq_true, decide_eq_true_eq, inside_iff, List.all_eq_true]
  constructor
  · rintro ⟨⟨a, b, c, d⟩, e, f⟩
    have b : m.length ≤ 13 * 96 := b
    have hk : m.length = 13 * (m.length / 13) := by omega
    refine ⟨m.length / 13, hk, by omega, c, fun i hi => ?_, e, f⟩
    have := d (mo m i) (by rw [motions_is hk]; exact List.mem_map.mpr ⟨i, List.mem_range.mpr hi, rfl⟩)
    rw [mo_d hk hi] at this
    exact this
  · rintro ⟨k, M⟩
    refine ⟨⟨by have := M.len; omega, by have := M.len; have := M.k96; show m.length ≤ 13 * 96; omega, M.min, fun x hx => ?_⟩, M.h3, M.hin⟩
    rw [motions_is M.len] at hx
    obtain ⟨i, hi, rfl⟩ := List.mem_map.mp hx
    have hi := List.mem_range.mp hi
    rw [mo_d M.len hi]
    exact M.e1 i hi
/-! ### in order, each once -/
def L3 (x : List Int) : Prop := ∃ a b c : Int, x = [a, b, c]
theorem before3 (a b c d e f : Int) : before [a, b, c] [d, e, f] = true ↔ (a < d ∨ (a = d ∧ (b < e ∨ (b = e ∧ c < f)))) := by
  show (decide (a < d) || (decide (a = d) && (decide (b < e) || (decide (b = e) && (decide (c < f) || (decide (c = f) && false)))))) = true ↔ _
  simp only [Bool.or_eq_true, Bool.and_eq_true, decide_eq_true_eq, Bool.and_false, Bool.or_false]
theorem before_trans {x y z : List Int} (hx : L3 x) (hy : L3 y) (hz : L3 z) (h1 : before x y = true) (h2 : before y z = true) : before x z = true := by
  obtain ⟨a, b, c, rfl⟩ := hx
  obtain ⟨d, e, f, rfl⟩ := hy
  obtain ⟨g, h, i, rfl⟩ := hz
  rw [before3] at *
  omega
theorem before_tri {x y : List Int} (hx : L3 x) (hy : L3 y) (h1 : ¬ x = y) (h2 : ¬ before x y = true) : before y x = true := by
  obtain ⟨a, b, c, rfl⟩ := hx
  obtain ⟨d, e, f, rfl⟩ := hy
  rw [before3] at *
  have h1' : ¬ (a = d ∧ b = e ∧ c = f) := fun q => h1 (by rw [q.1, q.2.1, q.2.2])
  omega
theorem before_not {x y : List Int} (hx : L3 x) (hy : L3 y) (h1 : before x y = true) (h2 : before y x = true) : False := by
  obtain ⟨a, b, c, rfl⟩ := hx
  obtain ⟨d, e, f, rfl⟩ := hy
  rw [before3] at *
  omega
structure So (l : List (List Int)) : Prop where
  three : ∀ x, x ∈ l → L3 x
  ord : l.Pairwise fun x y => before x y = true
theorem ins_mem (x : List Int) : ∀ (l : List (List Int)) (y : List Int), y ∈ insertOnce x l ↔ y = x ∨ y ∈ l
  | [], y => by simp [insertOnce]
  | z :: l, y => by
    unfold insertOnce
    by_cases e : x = z
    · subst e
      rw [if_pos (decide_eq_true rfl)]
      simp
    · rw [if_neg (by simpa using e)]
      by_cases hb : before x z = true
      · rw [if_pos hb]
        simp
      · rw [if_neg hb, List.mem_cons, ins_mem x l y, List.mem_cons]
        constructor
        · rintro (h | h | h)
          · exact .inr (.inl h)
          · exact .inl h
          · exact .inr (.inr h)
        · rintro (h | h | h)
          · exact .inr (.inl h)
          · exact .inl h
          · exact .inr (.inr h)
theorem ins_so {x : List Int} (hx : L3 x) : ∀ {l : List (List Int)}, So l → So (insertOnce x l)
  | [], _ => ⟨fun y hy => by
      have : y = x := by simpa [insertOnce] using hy
      rw [this]
      exact hx, by simp [insertOnce]⟩
  | z :: l, S => by
    have hz := S.three z (List.mem_cons_self ..)
    have hl : ∀ y, y ∈ l → L3 y := fun y hy => S.three y (List.mem_cons_of_mem _ hy)
    obtain ⟨o1, o2⟩ := List.pairwise_cons.mp S.ord
    unfold insertOnce
    by_cases e : x = z
    · rw [if_pos (by simpa using e)]
      exact S
    · rw [if_neg (by simpa using e)]
      by_cases hb : before x z = true
      · rw [if_pos hb]
        refine ⟨fun y hy => ?_, List.pairwise_cons.mpr ⟨fun y hy => ?_, S.ord⟩⟩
        · rcases List.mem_cons.mp hy with q | q
          · rw [q]
            exact hx
          · exact S.three y q
        · rcases List.mem_cons.mp hy with q | q
          · rw [q]
            exact hb
          · exact before_trans hx hz (hl y q) hb (o1 y q)
      · rw [if_neg hb]
        have I := ins_so hx (l := l) ⟨hl, o2⟩
        refine ⟨fun y hy => ?_, List.pairwise_cons.mpr ⟨fun y hy => ?_, I.ord⟩⟩
        · rcases List.mem_cons.mp hy with q | q
          · rw [q]
            exact hz
          · exact I.three y q
        · rcases (ins_mem x l y).mp hy with q | q
          · rw [q]
            exact before_tri hx hz e hb
          · exact o1 y q
theorem fold_so : ∀ (l r : List (List Int)), (∀ x, x ∈ l → L3 x) → So r → So (l.foldl (fun r x => insertOnce x r) r) ∧ ∀ y, y ∈ l.foldl (fun r x => insertOnce x r) r ↔ y ∈ l ∨ y ∈ r
  | [], r, _, S => ⟨S, fun y => by simp⟩
  | x :: l, r, h, S => by
    obtain ⟨a, b⟩ := fold_so l (insertOnce x r) (fun y hy => h y (List.mem_cons_of_mem _ hy)) (ins_so (h x (List.mem_cons_self ..)) S)
    refine ⟨a, fun y => ?_⟩
    rw [List.foldl_cons, b, ins_mem, List.mem_cons]
    constructor
    · rintro (q | q | q)
      · exact .inl (.inr q)
      · exact .inl (.inl q)
      · exact .inr q
    · rintro ((q | q) | q)
      · exact .inr (.inl q)
      · exact .inl q
      · exact .inr (.inr q)
theorem once_so {l : List (List Int)} (h : ∀ x, x ∈ l → L3 x) : So (once l) ∧ ∀ y, y ∈ once l ↔ y ∈ l := by
  obtain ⟨a, b⟩ := fold_so l [] h ⟨by simp, .nil⟩
  refine ⟨a, fun y => ?_⟩
  have := b y
  rw [or_iff_left (List.not_mem_nil)] at this
  exact this
theorem so_nodup : ∀ {l : List (List Int)}, So l → l.Nodup
  | [], _ => List.nodup_nil
  | x :: l, S => by
    obtain ⟨o1, o2⟩ := List.pairwise_cons.mp S.ord
    refine List.nodup_cons.mpr ⟨fun q => ?_, so_nodup ⟨fun y hy => S.three y (List.mem_cons_of_mem _ hy), o2⟩⟩
    have hx := S.three x (List.mem_cons_self ..)
    exact before_not hx hx (o1 x q) (o1 x q)
/-- a list in order with the same members is the one -/
theorem once_is {l r : List (List Int)} (S : So r) (hm : ∀ y, y ∈ r ↔ y ∈ l) : once l = r := by
  obtain ⟨a, b⟩ := once_so (l := l) fun x hx => S.three x ((hm x).mpr hx)
  refine List.Perm.eq_of_pairwise (le := fun x y => before x y = true) (fun x y hx hy h1 h2 => (before_not (a.three x hx) (S.three y hy) h1 h2).elim) a.ord S.ord ?_
  refine (List.perm_ext_iff_of_nodup (so_nodup a) (so_nodup S)).mpr fun y => ?_
  rw [b, hm]
end Mo

set_option Elab.async false
set_option maxRecDepth 100000
namespace Ht
open PySem PySem.SetTable
/-! ### below: how many places are less -/
def rk (P : List Nat) (j : Nat) : Nat := (P.filter fun a => decide (a < j)).length
theorem below_go (xs : Array Nat) (j : Nat) (hr : xs.toList.Pairwise (· < ·)) : ∀ (f lo hi : Nat), hi - lo ≤ f → lo ≤ hi → hi ≤ xs.size → (∀ i, i < lo → xs.getD i 0 < j) → (∀ i, hi ≤ i → i < xs.size → j ≤ xs.getD i 0) →
    below.go xs j f lo hi ≤ xs.size ∧ (∀ i, i < below.go xs j f lo hi → xs.getD i 0 < j) ∧ ∀ i, below.go xs j f lo hi ≤ i → i < xs.size → j ≤ xs.getD i 0
  | 0, lo, hi, h1, h2, h3, h4, h5 => by
    unfold below.go
    have : lo = hi := by omega
    subst this
    exact ⟨h3, h4, h5⟩
  | f + 1, lo, hi, h1, h2, h3, h4, h5 => by
    unfold below.go
    by_cases hl : lo < hi
    · rw [if_pos hl]
      dsimp only
      have hm : (lo + hi) / 2 < hi := by omega
      have hm2 : lo ≤ (lo + hi) / 2 := by omega
      have hs : (lo + hi) / 2 < xs.size := by omega
      have ed : xs.getD ((lo + hi) / 2) j = xs.getD ((lo + hi) / 2) 0 := by
        simp only [Array.getD_eq_getD_getElem?, Array.getElem?_eq_getElem hs, Option.getD_some]
      have ord : ∀ a b, a < b → b < xs.size → xs.getD a 0 < xs.getD b 0 := fun a b hab hb => by
        have := List.pairwise_iff_getElem.mp hr a b (by simpa using Nat.lt_trans hab hb) (by simpa using hb) hab
        simpa [Array.getD_eq_getD_getElem?, Array.getElem?_eq_getElem hb, Array.getElem?_eq_getElem (Nat.lt_trans hab hb)] using this
      rw [ed]
      by_cases hc : xs.getD ((lo + hi) / 2) 0 < j
      · rw [if_pos hc]
        refine below_go xs j hr f _ _ (by omega) (by omega) h3 (fun i hi' => ?_) h5
        by_cases e : i = (lo + hi) / 2
        · rw [e]
          exact hc
        · exact Nat.lt_trans (ord i _ (by omega) hs) hc
      · rw [if_neg hc]
        refine below_go xs j hr f _ _ (by omega) hm2 (by omega) h4 (fun i hi' hb => ?_)
        by_cases e : i = (lo + hi) / 2
        · rw [e]
          omega
        · have := ord _ i (by omega : (lo + hi) / 2 < i) hb
          omega
    · rw [if_neg hl]
      have : lo = hi := by omega
      subst this
      exact ⟨h3, h4, h5⟩
theorem below_rk {xs : Array Nat} {j : Nat} (hr : xs.toList.Pairwise (· < ·)) : below xs j = rk xs.toList j := by
  obtain ⟨a, b, c⟩ := below_go xs j hr xs.size 0 xs.size (by omega) (by omega) (Nat.le_refl _) (fun i h => by omega) (fun i h1 h2 => by omega)
  have e : below.go xs j xs.size 0 xs.size = below xs j := rfl
  rw [e] at a b c
  generalize below xs j = p at a b c
  unfold rk
  rw [← List.take_append_drop p xs.toList, List.filter_append, List.length_append]
  have e1 : (xs.toList.take p).filter (fun a => decide (a < j)) = xs.toList.take p := by
    rw [List.filter_eq_self]
    intro y hy
    obtain ⟨i, hi, rfl⟩ := List.mem_iff_getElem.mp hy
    have hp : i < p := by rw [List.length_take] at hi; omega
    have := b i hp
    rw [List.getElem_take]
    have hs : i < xs.size := by omega
    simpa [Array.getD_eq_getD_getElem?, Array.getElem?_eq_getElem hs] using this
  have e2 : (xs.toList.drop p).filter (fun a => decide (a < j)) = [] := by
    rw [List.filter_eq_nil_iff]
    intro y hy
    obtain ⟨i, hi, rfl⟩ := List.mem_iff_getElem.mp hy
    rw [List.length_drop, Array.length_toList] at hi
    have hs : p + i < xs.size := by omega
    have := c (p + i) (by omega) hs
    rw [List.getElem_drop]
    simp only [Array.getD_eq_getD_getElem?, Array.getElem?_eq_getElem hs, Option.getD_some] at this
    simpa using this
  rw [e1, e2, List.length_take, Array.length_toList, List.length_nil]
  omega
/-- a rising list: what is less, then the rest -/
theorem ris_split : ∀ {P : List Nat} (j : Nat), P.Pairwise (· < ·) → P.take (rk P j) = P.filter (fun a => decide (a < j)) ∧ P.drop (rk P j) = P.filter (fun a => !decide (a < j))
  | [], j, _ => ⟨rfl, rfl⟩
  | a :: P, j, h => by
    obtain ⟨h1, h2⟩ := List.pairwise_cons.mp h
    by_cases hj : a < j
    · obtain ⟨i1, i2⟩ := ris_split j h2
      have e : rk (a :: P) j = rk P j + 1 := by
        unfold rk
        rw [List.filter_cons_of_pos (by simpa using hj), List.length_cons]
      rw [e, List.take_succ_cons, List.drop_succ_cons, i1, i2, List.filter_cons_of_pos (by simpa using hj), List.filter_cons_of_neg (by simpa using hj)]
      exact ⟨rfl, rfl⟩
    · have hn : P.filter (fun a => decide (a < j)) = [] := by
        rw [List.filter_eq_nil_iff]
        intro y hy
        have := h1 y hy
        simp
        omega
      have hn2 : P.filter (fun a => !decide (a < j)) = P := by
        rw [List.filter_eq_self]
        intro y hy
        have := h1 y hy
        simp
        omega
      have e : rk (a :: P) j = 0 := by
        unfold rk
        rw [List.filter_cons_of_neg (by simpa using hj), hn]
        rfl
      rw [e, List.filter_cons_of_neg (by simpa using hj), hn, List.filter_cons_of_pos (by simpa using hj), hn2]
      exact ⟨rfl, rfl⟩
theorem rk_get {P : List Nat} {j : Nat} (h : P.Pairwise (· < ·)) (hj : j ∈ P) : P[rk P j]? = some j := by
  obtain ⟨e1, e2⟩ := ris_split j h
  have hm : j ∈ P.drop (rk P j) := by
    rw [e2, List.mem_filter]
    exact ⟨hj, by simp⟩
  have hp : (P.drop (rk P j)).Pairwise (· < ·) := h.sublist (List.drop_sublist _ _)
  have hle : ∀ y ∈ P.drop (rk P j), j ≤ y := fun y hy => by
    rw [e2, List.mem_filter] at hy
    simpa using hy.2
  have e3 : P[rk P j]? = (P.drop (rk P j))[0]? := by
    rw [List.getElem?_drop, Nat.add_zero]
  rw [e3]
  cases ed : P.drop (rk P j) with
  | nil => rw [ed] at hm; cases hm
  | cons a r =>
    rw [ed] at hm hp hle
    obtain ⟨q1, _⟩ := List.pairwise_cons.mp hp
    rcases List.mem_cons.mp hm with e | e
    · rw [e]
      rfl
    · have := q1 j e
      have := hle a (List.mem_cons_self ..)
      omega
theorem rk_not {P : List Nat} {j : Nat} (hj : ¬ j ∈ P) : P[rk P j]? ≠ some j := fun h => hj (List.mem_of_getElem? h)
theorem slot_is {t : SetTable} (hd : t.dummies = #[]) (hr : t.place.toList.Pairwise (· < ·)) (j : Nat) : t.slot j = if j ∈ t.place.toList then .live (rk t.place.toList j) else .empty := by
  unfold slot
  dsimp only
  rw [below_rk hr]
  by_cases h : j ∈ t.place.toList
  · rw [if_pos h, if_pos]
    rw [← Array.getElem?_toList, rk_get hr h]
    exact beq_self_eq_true _
  · rw [if_neg h, if_neg, if_neg]
    · rw [hd]
      unfold has
      simp
    · rw [← Array.getElem?_toList]
      simpa using rk_not h
theorem ins_list {α : Type} (xs : Array α) (p : Nat) (x : α) : (insertAt xs p x).toList = xs.toList.take p ++ x :: xs.toList.drop p := by
  unfold insertAt
  simp [List.extract_eq_take_drop, List.take_of_length_le]
theorem ins_ris {P : List Nat} {j : Nat} (h : P.Pairwise (· < ·)) (hj : ¬ j ∈ P) : (P.take (rk P j) ++ j :: P.drop (rk P j)).Pairwise (· < ·) := by
  obtain ⟨e1, e2⟩ := ris_split j h
  refine List.pairwise_append.mpr ⟨h.sublist (List.take_sublist _ _), List.pairwise_cons.mpr ⟨fun y hy => ?_, h.sublist (List.drop_sublist _ _)⟩, fun a ha b hb => ?_⟩
  · rw [e2, List.mem_filter] at hy
    have h1 : j ≤ y := by simpa using hy.2
    have h2 : y ≠ j := fun e => hj (e ▸ hy.1)
    omega
  · rw [e1, List.mem_filter] at ha
    have h1 : a < j := by simpa using ha.2
    rcases List.mem_cons.mp hb with e | e
    · omega
    · rw [e2, List.mem_filter] at e
      have : j ≤ b := by simpa using e.2
      omega
/-! ### the places that are asked, one after another -/
def ad (m : Nat) (p : Probe) : Probe := if p.more > 0 then { p with j := p.j + 1, more := p.more - 1 } else { p with j := (leap m p.i p.perturb).1, more := runEnd m (leap m p.i p.perturb).1 - (leap m p.i p.perturb).1, i := (leap m p.i p.perturb).1, perturb := (leap m p.i p.perturb).2 }
theorem advance_is (t : SetTable) (p : Probe) : t.advance p = ad t.mask p := rfl
def gs (m : Nat) (h : Int) : Nat → Nat × Nat
  | 0 => (bits h % (m + 1), bits h)
  | k + 1 => leap m (gs m h k).1 (gs m h k).2
def gp (m : Nat) (g : Nat × Nat) : Probe := { j := g.1, more := runEnd m g.1 - g.1, i := g.1, perturb := g.2, dummy := none }
def pr (m : Nat) (h : Int) : Nat → Probe
  | 0 => gp m (gs m h 0)
  | n + 1 => ad m (pr m h n)
theorem start_is (t : SetTable) (h : Int) : t.probeStart h = pr t.mask h 0 := rfl
def sq (m : Nat) (h : Int) (n : Nat) : Nat := (pr m h n).j
theorem ad_dummy (m : Nat) (p : Probe) : (ad m p).dummy = p.dummy := by
  unfold ad
  split <;> rfl
theorem pr_dummy (m : Nat) (h : Int) : ∀ n, (pr m h n).dummy = none
  | 0 => rfl
  | n + 1 => by
    show (ad m (pr m h n)).dummy = none
    rw [ad_dummy, pr_dummy m h n]
theorem run_more (m i : Nat) : runEnd m i - i ≤ 9 := by
  unfold runEnd
  split <;> omega
theorem pr_run {m : Nat} {h : Int} {n : Nat} {g : Nat × Nat} (e : pr m h n = gp m g) : ∀ r, r ≤ runEnd m g.1 - g.1 → pr m h (n + r) = { j := g.1 + r, more := runEnd m g.1 - g.1 - r, i := g.1, perturb := g.2, dummy := none }
  | 0, _ => e
  | r + 1, hr => by
    show ad m (pr m h (n + r)) = _
    rw [pr_run e r (by omega)]
    unfold ad
    rw [if_pos (by show runEnd m g.1 - g.1 - r > 0; omega)]
    rfl
theorem pr_leap {m : Nat} {h : Int} {n : Nat} {g : Nat × Nat} (e : pr m h n = gp m g) : pr m h (n + (runEnd m g.1 - g.1) + 1) = gp m (leap m g.1 g.2) := by
  show ad m (pr m h (n + (runEnd m g.1 - g.1))) = _
  rw [pr_run e _ (Nat.le_refl _)]
  unfold ad
  rw [if_neg (by show ¬ runEnd m g.1 - g.1 - (runEnd m g.1 - g.1) > 0; omega)]
  rfl
theorem pr_group (m : Nat) (h : Int) : ∀ k, ∃ n, n ≤ 10 * k ∧ pr m h n = gp m (gs m h k)
  | 0 => ⟨0, Nat.le_refl _, rfl⟩
  | k + 1 => by
    obtain ⟨n, hn, e⟩ := pr_group m h k
    have := run_more m (gs m h k).1
    exact ⟨_, by omega, pr_leap e⟩
theorem bits_lt (h : Int) : bits h < 32 ^ 13 := by
  unfold bits
  have h1 := Int.emod_nonneg h (show (2 ^ 64 : Int) ≠ 0 by decide)
  have h2 := Int.emod_lt_of_pos h (show (0 : Int) < 2 ^ 64 by decide)
  have e : (32 : Nat) ^ 13 = 36893488147419103232 := by decide
  have e2 : (2 : Int) ^ 64 = 18446744073709551616 := by decide
  rw [e]
  rw [e2] at h2
  omega
theorem gs_pert (m : Nat) (h : Int) : ∀ k, (gs m h k).2 = bits h / 32 ^ k
  | 0 => by
    show bits h = bits h / 32 ^ 0
    rw [Nat.pow_zero, Nat.div_one]
  | k + 1 => by
    show (gs m h k).2 / 32 = _
    rw [gs_pert m h k, Nat.div_div_eq_div_mul, Nat.pow_succ]
/-- from one place to the next, once the rest of the hash is used up -/
def nx (m i : Nat) : Nat := (i * 5 + 1) % (m + 1)
def it (m : Nat) : Nat → Nat → Nat
  | 0, i => i
  | k + 1, i => it m k (nx m i)
theorem it_add (m : Nat) : ∀ a b i, it m (a + b) i = it m b (it m a i)
  | 0, b, i => by rw [Nat.zero_add]; rfl
  | a + 1, b, i => by
    rw [Nat.add_right_comm]
    exact it_add m a b (nx m i)
theorem it_succ (m k i : Nat) : it m (k + 1) i = nx m (it m k i) := it_add m k 1 i
theorem gs_late (m : Nat) (h : Int) : ∀ k, (gs m h (13 + k)).1 = it m k (gs m h 13).1
  | 0 => rfl
  | k + 1 => by
    rw [it_succ, ← gs_late m h k]
    show (leap m (gs m h (13 + k)).1 (gs m h (13 + k)).2).1 = _
    unfold leap nx
    have e : (gs m h (13 + k)).2 / 32 = 0 := by
      rw [gs_pert, Nat.pow_add, ← Nat.div_div_eq_div_mul, Nat.div_eq_of_lt (bits_lt h), Nat.zero_div]
    rw [e]
def orb (m : Nat) : Nat → Nat → List Nat
  | 0, _ => []
  | n + 1, i => i :: orb m n (nx m i)
theorem orb_mem (m : Nat) : ∀ n i j, j ∈ orb m n i → ∃ k, k < n ∧ it m k i = j
  | 0, i, j, h => by cases h
  | n + 1, i, j, h => by
    rcases List.mem_cons.mp h with e | e
    · exact ⟨0, by omega, e.symm⟩
    · obtain ⟨k, hk, q⟩ := orb_mem m n (nx m i) j e
      exact ⟨k + 1, by omega, q⟩
def full (m : Nat) : Bool := (List.range (m + 1)).all (fun j => (orb m (m + 1) 0).contains j) && it m (m + 1) 0 == 0
theorem full7 : full 7 = true := by decide +kernel
theorem full31 : full 31 = true := by decide +kernel
theorem full127 : full 127 = true := by decide +kernel
theorem full511 : full 511 = true := by decide +kernel
theorem full_all {m : Nat} (hf : full m = true) {i j : Nat} (hi : i ≤ m) (hj : j ≤ m) : ∃ k, k ≤ m ∧ it m k i = j := by
  unfold full at hf
  rw [Bool.and_eq_true, List.all_eq_true, beq_iff_eq] at hf
  obtain ⟨h1, h2⟩ := hf
  have g : ∀ x, x ≤ m → ∃ k, k < m + 1 ∧ it m k 0 = x := fun x hx => orb_mem m (m + 1) 0 x (by simpa using h1 x (List.mem_range.mpr (by omega)))
  obtain ⟨a, ha, ea⟩ := g i hi
  obtain ⟨b, hb, eb⟩ := g j hj
  by_cases hab : a ≤ b
  · refine ⟨b - a, by omega, ?_⟩
    rw [← ea, ← it_add, ← eb]
    congr 1
    omega
  · refine ⟨m + 1 - a + b, by omega, ?_⟩
    rw [it_add, ← ea, ← it_add m a]
    have e : a + (m + 1 - a) = m + 1 := by omega
    rw [e, h2, eb]
def Msk (m : Nat) : Prop := m = 7 ∨ m = 31 ∨ m = 127 ∨ m = 511
theorem Msk.full {m : Nat} (h : Msk m) : full m = true := by
  rcases h with rfl | rfl | rfl | rfl
  · exact full7
  · exact full31
  · exact full127
  · exact full511
theorem gs_le (m : Nat) (h : Int) : ∀ k, (gs m h k).1 ≤ m
  | 0 => Nat.le_of_lt_succ (Nat.mod_lt _ (Nat.succ_pos _))
  | k + 1 => Nat.le_of_lt_succ (Nat.mod_lt _ (Nat.succ_pos _))
theorem gs_hits {m : Nat} (M : Msk m) (h : Int) {j : Nat} (hj : j ≤ m) : ∃ k, k ≤ 13 + m ∧ (gs m h k).1 = j := by
  obtain ⟨k, hk, e⟩ := full_all M.full (gs_le m h 13) hj
  exact ⟨13 + k, by omega, by rw [gs_late, e]⟩
theorem sq_hits {m : Nat} (M : Msk m) (h : Int) {j : Nat} (hj : j ≤ m) : ∃ n, n ≤ 10 * (13 + m) ∧ sq m h n = j := by
  obtain ⟨k, hk, e⟩ := gs_hits M h hj
  obtain ⟨n, hn, q⟩ := pr_group m h k
  refine ⟨n, by omega, ?_⟩
  unfold sq
  rw [q]
  exact e
theorem sq_le (m : Nat) (h : Int) (n : Nat) : sq m h n ≤ m := by
  have : ∀ n, ∃ k r n', pr m h n' = gp m (gs m h k) ∧ r ≤ runEnd m (gs m h k).1 - (gs m h k).1 ∧ n = n' + r := by
    intro n
    induction n with
    | zero => exact ⟨0, 0, 0, rfl, Nat.zero_le _, rfl⟩
    | succ n ih =>
      obtain ⟨k, r, n', e, hr, rfl⟩ := ih
      by_cases hlt : r < runEnd m (gs m h k).1 - (gs m h k).1
      · exact ⟨k, r + 1, n', e, hlt, rfl⟩
      · have : r = runEnd m (gs m h k).1 - (gs m h k).1 := by omega
        subst this
        exact ⟨k + 1, 0, _, pr_leap e, Nat.zero_le _, rfl⟩
  obtain ⟨k, r, n', e, hr, rfl⟩ := this n
  unfold sq
  rw [pr_run e r hr]
  show (gs m h k).1 + r ≤ m
  have := gs_le m h k
  unfold runEnd at hr
  split at hr <;> omega
/-! ### asked in a table -/
/-- the first place of the way that is free -/
structure Fst (m : Nat) (h : Int) (P : List Nat) (N : Nat) : Prop where
  out : ¬ sq m h N ∈ P
  ins : ∀ n, n < N → sq m h n ∈ P
theorem fst_of {m : Nat} {h : Int} {P : List Nat} : ∀ n, ¬ sq m h n ∈ P → ∃ N, N ≤ n ∧ Fst m h P N := by
  intro n
  induction n using Nat.strongRecOn with
  | _ n ih =>
    intro hn
    by_cases hall : ∀ k, k < n → sq m h k ∈ P
    · exact ⟨n, Nat.le_refl _, hn, hall⟩
    · have ⟨k, hk⟩ := Classical.not_forall.mp hall
      have ⟨hk1, hk2⟩ := Classical.not_imp.mp hk
      obtain ⟨N, h1, h2⟩ := ih k hk1 hk2
      exact ⟨N, by omega, h2⟩
theorem len_le_of_sub {α : Type} [DecidableEq α] {l l' : List α} (h : l.Nodup) (h' : l'.Nodup) (hs : ∀ x, x ∈ l → x ∈ l') : l.length ≤ l'.length := by
  have e : l.Perm (l'.filter fun x => decide (x ∈ l)) := (List.perm_ext_iff_of_nodup h (h'.filter _)).mpr fun x => by
    rw [List.mem_filter, decide_eq_true_eq]
    exact ⟨fun q => ⟨hs x q, q⟩, fun q => q.2⟩
  rw [e.length_eq]
  exact List.length_filter_le _ _
theorem ris_nodup {P : List Nat} (h : P.Pairwise (· < ·)) : P.Nodup := h.imp fun q => Nat.ne_of_lt q
theorem fst_ex {m : Nat} (M : Msk m) (h : Int) {P : List Nat} (hr : P.Pairwise (· < ·)) (hl : P.length ≤ m) : ∃ N, N ≤ 10 * (13 + m) ∧ Fst m h P N := by
  have : ∃ j, j ≤ m ∧ ¬ j ∈ P := by
    apply Classical.byContradiction
    intro hc
    have hall : ∀ x, x ∈ List.range (m + 1) → x ∈ P := fun x hx => by
      apply Classical.byContradiction
      intro q
      exact hc ⟨x, by have := List.mem_range.mp hx; omega, q⟩
    have := len_le_of_sub List.nodup_range (ris_nodup hr) hall
    rw [List.length_range] at this
    omega
  obtain ⟨j, hj, hp⟩ := this
  obtain ⟨n, hn, e⟩ := sq_hits M h hj
  obtain ⟨N, h1, h2⟩ := fst_of (P := P) n (by rw [e]; exact hp)
  exact ⟨N, by omega, h2⟩
/-- what a search from the n-th place on meets -/
theorem go_is {t : SetTable} (hd : t.dummies = #[]) (hr : t.place.toList.Pairwise (· < ·)) {h : Int} (ha : Nat → Int) {N : Nat} (F : Fst t.mask h t.place.toList N) : ∀ (f n : Nat), n ≤ N → N - n < f →
    (∃ k, n ≤ k ∧ k < N ∧ ha (rk t.place.toList (sq t.mask h k)) = h ∧ (∀ k', n ≤ k' → k' < k → ha (rk t.place.toList (sq t.mask h k')) ≠ h) ∧ probe.go t ha h f (pr t.mask h n) = some (.candidate (sq t.mask h k) (rk t.place.toList (sq t.mask h k)) (pr t.mask h (k + 1)))) ∨
    ((∀ k, n ≤ k → k < N → ha (rk t.place.toList (sq t.mask h k)) ≠ h) ∧ probe.go t ha h f (pr t.mask h n) = some (.empty (sq t.mask h N) none))
  | 0, n, _, h2 => by omega
  | f + 1, n, h1, h2 => by
    unfold probe.go
    have es : (pr t.mask h n).j = sq t.mask h n := rfl
    rw [es, slot_is hd hr]
    by_cases e : n = N
    · subst e
      right
      rw [if_neg F.out]
      refine ⟨fun k a b => by omega, ?_⟩
      dsimp only
      rw [pr_dummy]
    · have hlt : n < N := by omega
      rw [if_pos (F.ins n hlt)]
      dsimp only
      by_cases hh : ha (rk t.place.toList (sq t.mask h n)) = h
      · left
        refine ⟨n, Nat.le_refl _, hlt, hh, fun k' a b => by omega, ?_⟩
        rw [if_pos (by rw [hh]; exact beq_self_eq_true _)]
        rfl
      · rw [if_neg (by simpa using hh)]
        rcases go_is hd hr ha F f (n + 1) hlt (by omega) with ⟨k, a, b, c, d, e'⟩ | ⟨c, e'⟩
        · left
          refine ⟨k, by omega, b, c, fun k' q1 q2 => ?_, e'⟩
          by_cases q : k' = n
          · rw [q]
            exact hh
          · exact d k' (by omega) q2
        · right
          refine ⟨fun k' q1 q2 => ?_, e'⟩
          by_cases q : k' = n
          · rw [q]
            exact hh
          · exact c k' (by omega) q2
def Reach (m : Nat) (h : Int) (P : List Nat) (j : Nat) : Prop := ∃ n, sq m h n = j ∧ ∀ n', n' < n → sq m h n' ∈ P
theorem Reach.mono {m : Nat} {h : Int} {P P' : List Nat} {j : Nat} (r : Reach m h P j) (hs : ∀ x, x ∈ P → x ∈ P') : Reach m h P' j := by
  obtain ⟨n, e, q⟩ := r
  exact ⟨n, e, fun n' hn => hs _ (q n' hn)⟩
/-- a place that is taken and reached lies ahead of the first free one -/
theorem Reach.before {m : Nat} {h : Int} {P : List Nat} {j N : Nat} (r : Reach m h P j) (hj : j ∈ P) (F : Fst m h P N) : ∃ n, n < N ∧ sq m h n = j := by
  obtain ⟨n, e, q⟩ := r
  refine ⟨n, ?_, e⟩
  by_cases hlt : n < N
  · exact hlt
  · exfalso
    by_cases en : n = N
    · subst en
      exact F.out (e ▸ hj)
    · exact F.out (q N (by omega))
end Ht

set_option Elab.async false
set_option maxRecDepth 100000
namespace Ht
open PySem PySem.SetTable
/-! ### a table laid anew -/
def Occ (own : Array (Option Nat)) (j : Nat) : Prop := (own.getD j (some 0)).isSome = true
theorem end_ge (m i : Nat) : i ≤ runEnd m i := by
  unfold runEnd
  split <;> omega
theorem free_ok {m : Nat} {h : Int} {own : Array (Option Nat)} {g : Nat} (hg : ¬ Occ own (gs m h g).1) : ∀ (f k n : Nat), k ≤ g → g - k < f → pr m h n = gp m (gs m h k) → (∀ n', n' < n → Occ own (sq m h n')) →
    ∃ j, layClean.free m own f (gs m h k).1 (gs m h k).2 = some j ∧ ¬ Occ own j ∧ ∃ N, sq m h N = j ∧ ∀ n', n' < N → Occ own (sq m h n')
  | 0, k, n, _, h2, _, _ => by omega
  | f + 1, k, n, h1, h2, e, hn => by
    unfold layClean.free
    have he := end_ge m (gs m h k).1
    have hq : ∀ r, r ≤ runEnd m (gs m h k).1 - (gs m h k).1 → sq m h (n + r) = (gs m h k).1 + r := fun r hr => by
      unfold sq
      rw [pr_run e r hr]
    cases hf : (List.range (runEnd m (gs m h k).1 + 1 - (gs m h k).1)).find? (fun r => (own.getD ((gs m h k).1 + r) (some 0)).isNone) with
    | some r =>
      obtain ⟨p1, p2, p3⟩ := List.find?_range_eq_some.mp hf
      have hr := List.mem_range.mp p2
      refine ⟨(gs m h k).1 + r, rfl, ?_, n + r, hq r (by omega), fun n' hn' => ?_⟩
      · unfold Occ
        cases hx : own.getD ((gs m h k).1 + r) (some 0) with
        | none => simp
        | some z => rw [hx] at p1; simp at p1
      · by_cases hlt : n' < n
        · exact hn n' hlt
        · obtain ⟨r', rfl⟩ : ∃ r', n' = n + r' := ⟨n' - n, by omega⟩
          rw [hq r' (by omega)]
          have := p3 r' (by omega)
          unfold Occ
          cases hx : own.getD ((gs m h k).1 + r') (some 0) with
          | none => rw [hx] at this; simp at this
          | some z => rfl
    | none =>
      have p := List.find?_range_eq_none.mp hf
      have hocc : ∀ r, r ≤ runEnd m (gs m h k).1 - (gs m h k).1 → Occ own ((gs m h k).1 + r) := fun r hr => by
        have := p r (by omega)
        unfold Occ
        cases hx : own.getD ((gs m h k).1 + r) (some 0) with
        | none => rw [hx] at this; simp at this
        | some z => rfl
      have hk : k ≠ g := fun q => hg (by
        rw [← q]
        have := hocc 0 (Nat.zero_le _)
        exact this)
      exact free_ok hg f (k + 1) _ (by omega) (by omega) (pr_leap e) (fun n' hn' => by
        by_cases hlt : n' < n
        · exact hn n' hlt
        · obtain ⟨r', rfl⟩ : ∃ r', n' = n + r' := ⟨n' - n, by omega⟩
          rw [hq r' (by omega)]
          exact hocc r' (by omega))
structure Lay (m : Nat) (hs : List Int) (own : Array (Option Nat)) (k : Nat) : Prop where
  size : own.size = m + 1
  lt : ∀ j i, own.getD j none = some i → i < k
  ex : ∀ i, i < k → ∃ j, j ≤ m ∧ own.getD j none = some i
  inj : ∀ j j' i, own.getD j none = some i → own.getD j' none = some i → j = j'
  rc : ∀ j i, own.getD j none = some i → ∃ n, sq m (hs.getD i 0) n = j ∧ ∀ n', n' < n → Occ own (sq m (hs.getD i 0) n')
theorem occ_in {own : Array (Option Nat)} {j : Nat} (hj : j < own.size) : Occ own j ↔ ∃ i, own.getD j none = some i := by
  unfold Occ
  simp only [Array.getD_eq_getD_getElem?, Array.getElem?_eq_getElem hj, Option.getD_some]
  cases own[j] with
  | none => simp
  | some z => simp
theorem set_get {own : Array (Option Nat)} {j k : Nat} (hj : j < own.size) (j' : Nat) (d : Option Nat) : (own.setIfInBounds j (some k)).getD j' d = if j' = j then some k else own.getD j' d := by
  simp only [Array.getD_eq_getD_getElem?, Array.getElem?_setIfInBounds]
  by_cases e : j = j'
  · subst e
    rw [if_pos rfl, if_pos rfl, if_pos hj]
    rfl
  · rw [if_neg e, if_neg (fun q => e q.symm)]
theorem nodup_map' {α β : Type} {f : α → β} : ∀ {l : List α}, l.Nodup → (∀ x, x ∈ l → ∀ y, y ∈ l → f x = f y → x = y) → (l.map f).Nodup
  | [], _, _ => List.nodup_nil
  | a :: l, h, hi => by
    obtain ⟨h1, h2⟩ := List.nodup_cons.mp h
    rw [List.map_cons, List.nodup_cons]
    refine ⟨fun q => ?_, nodup_map' h2 fun x hx y hy => hi x (List.mem_cons_of_mem _ hx) y (List.mem_cons_of_mem _ hy)⟩
    obtain ⟨b, hb, e⟩ := List.mem_map.mp q
    have := hi b (List.mem_cons_of_mem _ hb) a (List.mem_cons_self ..) e
    exact h1 (this ▸ hb)
theorem lay_room {m : Nat} {hs : List Int} {own : Array (Option Nat)} {k : Nat} (L : Lay m hs own k) (hk : k ≤ m) : ∃ j, j ≤ m ∧ ¬ Occ own j := by
  apply Classical.byContradiction
  intro hc
  have hall : ∀ j, j ≤ m → ∃ i, own.getD j none = some i := fun j hj => by
    rw [← occ_in (by rw [L.size]; omega)]
    apply Classical.byContradiction
    intro q
    exact hc ⟨j, hj, q⟩
  have hn : ((List.range (m + 1)).map fun j => (own.getD j none).getD 0).Nodup := nodup_map' List.nodup_range fun x hx y hy e => by
    obtain ⟨i, hi⟩ := hall x (by have := List.mem_range.mp hx; omega)
    obtain ⟨i', hi'⟩ := hall y (by have := List.mem_range.mp hy; omega)
    rw [hi, hi'] at e
    have e : i = i' := e
    subst e
    exact L.inj x y i hi hi'
  have := len_le_of_sub hn (List.nodup_range (n := k)) fun x hx => by
    obtain ⟨j, hj, rfl⟩ := List.mem_map.mp hx
    obtain ⟨i, hi⟩ := hall j (by have := List.mem_range.mp hj; omega)
    rw [hi]
    exact List.mem_range.mpr (L.lt j i hi)
  rw [List.length_map, List.length_range, List.length_range] at this
  omega
theorem lay_step {m : Nat} (M : Msk m) {hs : List Int} {own : Array (Option Nat)} {k : Nat} (L : Lay m hs own k) (hk : k ≤ m) :
    ∃ j, layClean.free m own (turns m) (bits (hs.getD k 0) % (m + 1)) (bits (hs.getD k 0)) = some j ∧ Lay m hs (own.setIfInBounds j (some k)) (k + 1) := by
  obtain ⟨j0, hj0, ho⟩ := lay_room L hk
  obtain ⟨g, hg, e⟩ := gs_hits M (hs.getD k 0) hj0
  obtain ⟨j, e1, e2, N, e3, e4⟩ := free_ok (m := m) (h := hs.getD k 0) (own := own) (g := g) (by rw [e]; exact ho) (turns m) 0 0 (Nat.zero_le _) (by unfold turns; omega) rfl (fun n' hn => by omega)
  have hjm : j ≤ m := by
    rw [← e3]
    exact sq_le _ _ _
  have hjs : j < own.size := by rw [L.size]; omega
  have hnone : ∀ i, own.getD j none ≠ some i := fun i q => e2 ((occ_in hjs).mpr ⟨i, q⟩)
  have keep : ∀ x, Occ own x → Occ (own.setIfInBounds j (some k)) x := fun x hx => by
    unfold Occ at hx ⊢
    rw [set_get hjs]
    split
    · rfl
    · exact hx
  refine ⟨j, e1, ?_, fun j' i q => ?_, fun i hi => ?_, fun a b i qa qb => ?_, fun j' i q => ?_⟩
  · rw [Array.size_setIfInBounds, L.size]
  · rw [set_get hjs] at q
    split at q
    · have := Option.some.inj q
      omega
    · have := L.lt j' i q
      omega
  · by_cases ei : i = k
    · subst ei
      exact ⟨j, hjm, by rw [set_get hjs, if_pos rfl]⟩
    · obtain ⟨j', hj', q⟩ := L.ex i (by omega)
      refine ⟨j', hj', ?_⟩
      rw [set_get hjs, if_neg (fun z => hnone i (by rw [← z]; exact q))]
      exact q
  · rw [set_get hjs] at qa qb
    split at qa <;> split at qb
    · omega
    · have := Option.some.inj qa
      have := L.lt b i qb
      omega
    · have := Option.some.inj qb
      have := L.lt a i qa
      omega
    · exact L.inj a b i qa qb
  · rw [set_get hjs] at q
    split at q
    · have ei := Option.some.inj q
      subst ei
      rename_i ej
      exact ⟨N, by rw [e3, ej], fun n' hn => keep _ (e4 n' hn)⟩
    · obtain ⟨n, q1, q2⟩ := L.rc j' i q
      exact ⟨n, q1, fun n' hn => keep _ (q2 n' hn)⟩
def layF (m : Nat) (acc : Option (Array (Option Nat) × Nat)) (h : Int) : Option (Array (Option Nat) × Nat) := do
  let (owner, k) ← acc
  let j ← layClean.free m owner (turns m) (bits h % (m + 1)) (bits h)
  pure (owner.setIfInBounds j (some k), k + 1)
theorem lay_fold {m : Nat} (M : Msk m) {hs : List Int} (hl : hs.length ≤ m + 1) : ∀ (rest : List Int) (k : Nat) (own : Array (Option Nat)), hs.drop k = rest → k ≤ hs.length → Lay m hs own k → ∃ own', rest.foldl (layF m) (some (own, k)) = some (own', hs.length) ∧ Lay m hs own' hs.length
  | [], k, own, h1, h2, L => by
    have : k = hs.length := by
      have := congrArg List.length h1
      rw [List.length_drop, List.length_nil] at this
      omega
    subst this
    exact ⟨own, rfl, L⟩
  | h :: rest, k, own, h1, h2, L => by
    have hk : k < hs.length := by
      have := congrArg List.length h1
      rw [List.length_drop, List.length_cons] at this
      omega
    have eh : hs.getD k 0 = h := by
      have := congrArg (fun l => l[0]?) h1
      simp only [List.getElem?_drop, Nat.add_zero, List.getElem?_cons_zero] at this
      rw [List.getD_eq_getElem?_getD, this]
      rfl
    obtain ⟨j, e1, L'⟩ := lay_step M L (by omega)
    rw [eh] at e1
    have es : layF m (some (own, k)) h = some (own.setIfInBounds j (some k), k + 1) := by
      show (layClean.free m own (turns m) (bits h % (m + 1)) (bits h)).bind _ = _
      rw [e1]
      rfl
    rw [List.foldl_cons, es]
    refine lay_fold M hl rest (k + 1) _ ?_ hk L'
    have := congrArg List.tail h1
    rw [List.tail_drop, List.tail_cons] at this
    exact this
theorem lay_start (m : Nat) (hs : List Int) : Lay m hs (Array.replicate (m + 1) none) 0 := by
  have e : ∀ j, (Array.replicate (m + 1) (none : Option Nat)).getD j none = none := fun j => by
    rw [Array.getD_eq_getD_getElem?, Array.getElem?_replicate]
    split <;> rfl
  refine ⟨by simp, fun j i q => ?_, fun i hi => by omega, fun a b i q => ?_, fun j i q => ?_⟩
  · rw [e] at q; cases q
  · rw [e] at q; cases q
  · rw [e] at q; cases q
theorem lay_all {m : Nat} (M : Msk m) (hs : Array Int) (hl : hs.size ≤ m + 1) : ∃ own, layClean m hs = some own ∧ Lay m hs.toList own hs.size := by
  obtain ⟨own, e, L⟩ := lay_fold M (hs := hs.toList) (by simpa using hl) hs.toList 0 _ rfl (Nat.zero_le _) (lay_start m _)
  rw [Array.length_toList] at e L
  refine ⟨own, ?_, L⟩
  unfold layClean
  have e2 : hs.foldl (layF m) (some (Array.replicate (m + 1) none, 0)) = some (own, hs.size) := by
    rw [← Array.foldl_toList]
    exact e
  exact congrArg (Option.map (·.1)) e2
/-- what stands where, by places -/
def lv (m : Nat) (own : Array (Option Nat)) : List (Nat × Nat) := (List.range (m + 1)).filterMap fun j => (own.getD j none).map (j, ·)
theorem lv_mem {m : Nat} {own : Array (Option Nat)} {q : Nat × Nat} : q ∈ lv m own ↔ q.1 ≤ m ∧ own.getD q.1 none = some q.2 := by
  unfold lv
  rw [List.mem_filterMap]
  constructor
  · rintro ⟨j, hj, e⟩
    obtain ⟨i, hi, rfl⟩ := Option.map_eq_some_iff.mp e
    exact ⟨by have := List.mem_range.mp hj; omega, hi⟩
  · rintro ⟨h1, h2⟩
    exact ⟨q.1, List.mem_range.mpr (by omega), by rw [h2]; rfl⟩
theorem lv_ris (m : Nat) (own : Array (Option Nat)) : ((lv m own).map (·.1)).Pairwise (· < ·) := by
  unfold lv
  rw [List.pairwise_map, List.pairwise_filterMap]
  refine List.pairwise_lt_range.imp fun {a b} hab p hp q hq => ?_
  obtain ⟨i, hi, rfl⟩ := Option.map_eq_some_iff.mp hp
  obtain ⟨i', hi', rfl⟩ := Option.map_eq_some_iff.mp hq
  exact hab
theorem lv_perm {m : Nat} {hs : List Int} {own : Array (Option Nat)} {k : Nat} (L : Lay m hs own k) : ((lv m own).map (·.2)).Perm (List.range k) := by
  have nd : (lv m own).Nodup := by
    refine List.Pairwise.imp (R := fun (a b : Nat × Nat) => a.1 < b.1) (fun {a b} q e => ?_) (List.pairwise_map.mp (lv_ris m own))
    rw [e] at q
    exact Nat.lt_irrefl _ q
  refine (List.perm_ext_iff_of_nodup (nodup_map' nd fun x hx y hy e => ?_) List.nodup_range).mpr fun i => ?_
  · have hx := (lv_mem.mp hx).2
    have hy := (lv_mem.mp hy).2
    have := L.inj x.1 y.1 x.2 hx (e ▸ hy)
    exact Prod.ext this e
  · rw [List.mem_map, List.mem_range]
    constructor
    · rintro ⟨q, hq, rfl⟩
      exact L.lt q.1 q.2 (lv_mem.mp hq).2
    · intro hi
      obtain ⟨j, hj, e⟩ := L.ex i hi
      exact ⟨(j, i), lv_mem.mpr ⟨hj, e⟩, rfl⟩
/-! ### a table and what it holds -/
structure Tab (t : SetTable) (es : List (Int × Value)) : Prop where
  dum : t.dummies = #[]
  msk : Msk t.mask
  len : t.place.toList.length = es.length
  ris : t.place.toList.Pairwise (· < ·)
  le : ∀ j, j ∈ t.place.toList → j ≤ t.mask
  rch : ∀ q, q ∈ t.place.toList.zip es → Reach t.mask q.2.1 t.place.toList q.1
theorem Tab.fresh (led : Bool) : Tab (.fresh 0 0 led) [] := ⟨rfl, .inl rfl, rfl, .nil, fun j hj => (by cases hj), fun q hq => (by cases hq)⟩
theorem Tab.fits {t : SetTable} {es : Array (Int × Value)} (T : Tab t es.toList) (hs : es.size ≤ t.mask) : t.fits es.size = true := by
  unfold SetTable.fits SetTable.fill
  rw [T.dum]
  have := T.len
  simp only [Array.length_toList] at this
  simp [this, hs]
theorem Tab.put {t : SetTable} {es : Array (Int × Value)} (T : Tab t es.toList) {h : Int} {x : Value} {N : Nat} (F : Fst t.mask h t.place.toList N) :
    Tab (t.put (sq t.mask h N)).1 (insertAt es (t.put (sq t.mask h N)).2 (h, x)).toList ∧ (t.put (sq t.mask h N)).1.mask = t.mask ∧ (insertAt es (t.put (sq t.mask h N)).2 (h, x)).toList.Perm ((h, x) :: es.toList) := by
  have e0 : (t.put (sq t.mask h N)).2 = rk t.place.toList (sq t.mask h N) := below_rk T.ris
  have eh : has t.dummies (sq t.mask h N) = false := by
    rw [T.dum]
    unfold has
    simp
  have e1 : (t.put (sq t.mask h N)).1 = { t with place := insertAt t.place (rk t.place.toList (sq t.mask h N)) (sq t.mask h N) } := by
    unfold SetTable.put
    dsimp only
    rw [below_rk T.ris, eh]
    rfl
  rw [e0, e1]
  have ep := ins_list t.place (rk t.place.toList (sq t.mask h N)) (sq t.mask h N)
  have ee := ins_list es (rk t.place.toList (sq t.mask h N)) (h, x)
  have hsub : ∀ a, a ∈ t.place.toList → a ∈ (insertAt t.place (rk t.place.toList (sq t.mask h N)) (sq t.mask h N)).toList := fun a ha => by
    rw [ep]
    rw [← List.take_append_drop (rk t.place.toList (sq t.mask h N)) t.place.toList] at ha
    rcases List.mem_append.mp ha with q | q
    · exact List.mem_append_left _ q
    · exact List.mem_append_right _ (List.mem_cons_of_mem _ q)
  have hlen := T.len
  generalize hr : rk t.place.toList (sq t.mask h N) = r at ep ee hsub
  have hz : t.place.toList.zip es.toList = (t.place.toList.take r).zip (es.toList.take r) ++ (t.place.toList.drop r).zip (es.toList.drop r) := by
    rw [← List.zip_append (by rw [List.length_take, List.length_take, hlen]), List.take_append_drop, List.take_append_drop]
  refine ⟨⟨T.dum, T.msk, ?_, ?_, fun j hj => ?_, fun q hq => ?_⟩, rfl, ?_⟩
  · show (insertAt t.place r (sq t.mask h N)).toList.length = _
    rw [ep, ee]
    simp only [List.length_append, List.length_cons, List.length_take, List.length_drop, hlen]
  · show (insertAt t.place r (sq t.mask h N)).toList.Pairwise _
    rw [ep, ← hr]
    exact ins_ris T.ris F.out
  · have hj : j ∈ (insertAt t.place r (sq t.mask h N)).toList := hj
    rw [ep] at hj
    rcases List.mem_append.mp hj with q | q
    · exact T.le j (List.mem_of_mem_take q)
    · rcases List.mem_cons.mp q with e | e
      · rw [e]
        exact sq_le _ _ _
      · exact T.le j (List.mem_of_mem_drop e)
  · have hq : q ∈ (insertAt t.place r (sq t.mask h N)).toList.zip (insertAt es r (h, x)).toList := hq
    show Reach t.mask q.2.1 (insertAt t.place r (sq t.mask h N)).toList q.1
    rw [ep, ee, List.zip_append (by rw [List.length_take, List.length_take, hlen]), List.zip_cons_cons] at hq
    have old : q ∈ t.place.toList.zip es.toList → Reach t.mask q.2.1 (insertAt t.place r (sq t.mask h N)).toList q.1 := fun hh => (T.rch q hh).mono hsub
    rcases List.mem_append.mp hq with q1 | q1
    · exact old (by rw [hz]; exact List.mem_append_left _ q1)
    · rcases List.mem_cons.mp q1 with e | e
      · rw [e]
        exact ⟨N, rfl, fun n' hn => hsub _ (F.ins n' hn)⟩
      · exact old (by rw [hz]; exact List.mem_append_right _ e)
  · rw [ee]
    refine List.perm_middle.trans ?_
    rw [List.take_append_drop]
theorem filterMap_all {α β : Type} {f : α → Option β} {g : α → β} : ∀ {l : List α}, (∀ a, a ∈ l → f a = some (g a)) → l.filterMap f = l.map g
  | [], _ => rfl
  | a :: l, h => by
    rw [List.filterMap_cons_some (h a (List.mem_cons_self ..)), List.map_cons, filterMap_all fun b hb => h b (List.mem_cons_of_mem _ hb)]
theorem relaid_ok {t : SetTable} {es : Array (Int × Value)} {w : Nat} (M : Msk (sizeAbove w - 1)) (hl : es.size ≤ sizeAbove w - 1) :
    ∃ t' order, t.relaid (es.map (·.1)) w = some (t', order) ∧ Tab t' (order.filterMap (es[·]?)).toList ∧ t'.mask = sizeAbove w - 1 ∧ (order.filterMap (es[·]?)).toList.Perm es.toList := by
  generalize hm : sizeAbove w - 1 = m at M hl
  obtain ⟨own, e, L⟩ := lay_all M (es.map (·.1)) (by rw [Array.size_map]; omega)
  rw [Array.size_map] at L
  have er : t.relaid (es.map (·.1)) w = some ({ mask := m, place := ((lv m own).map (·.1)).toArray, dummies := #[], finger := t.finger, led := t.led, moves := t.movedTo m, plain := t.plain }, ((lv m own).map (·.2)).toArray) := by
    unfold relaid laid
    rw [hm, e]
    rfl
  have hne : ∀ q, q ∈ lv m own → q.2 < es.size := fun q hq => L.lt q.1 q.2 (lv_mem.mp hq).2
  have ee : (((lv m own).map (·.2)).toArray.filterMap (es[·]?)).toList = (lv m own).map fun q => (es[q.2]?).getD (0, .none) := by
    rw [Array.toList_filterMap]
    show ((lv m own).map (·.2)).filterMap (fun i => es[i]?) = _
    rw [List.filterMap_map]
    refine filterMap_all fun q hq => ?_
    show es[q.2]? = some ((es[q.2]?).getD (0, .none))
    rw [Array.getElem?_eq_getElem (hne q hq)]
    rfl
  have eP : ((((lv m own).map (·.2)).toArray.filterMap (es[·]?)).toList).Perm es.toList := by
    rw [Array.toList_filterMap]
    show (((lv m own).map (·.2)).filterMap (fun i => es[i]?)).Perm es.toList
    refine ((lv_perm L).filterMap _).trans ?_
    have : (List.range es.size).filterMap (fun i => es[i]?) = es.toList := by
      refine List.ext_getElem? fun i => ?_
      rw [filterMap_all (g := fun i => (es[i]?).getD (0, .none)) (fun a ha => by
        rw [Array.getElem?_eq_getElem (List.mem_range.mp ha)]
        rfl), List.getElem?_map]
      by_cases hi : i < es.size
      · rw [List.getElem?_range hi]
        simp [hi]
      · rw [List.getElem?_eq_none (by simpa using hi), List.getElem?_eq_none (by simpa using hi)]
        rfl
    rw [this]
  refine ⟨_, _, er, ⟨rfl, M, ?_, lv_ris m own, fun j hj => ?_, fun q hq => ?_⟩, rfl, eP⟩
  · rw [ee]
    simp
  · obtain ⟨q, hq, rfl⟩ := List.mem_map.mp (show j ∈ (lv m own).map (·.1) from hj)
    exact (lv_mem.mp hq).1
  · rw [ee] at hq
    have hq : q ∈ ((lv m own).map (·.1)).zip ((lv m own).map fun q => (es[q.2]?).getD (0, .none)) := hq
    rw [List.zip_map'] at hq
    obtain ⟨p, hp, rfl⟩ := List.mem_map.mp hq
    obtain ⟨p1, p2⟩ := lv_mem.mp hp
    obtain ⟨n, q1, q2⟩ := L.rc p.1 p.2 p2
    have eh : ((es.map (·.1)).toList).getD p.2 0 = ((es[p.2]?).getD (0, .none)).1 := by
      rw [Array.toList_map, List.getD_eq_getElem?_getD, List.getElem?_map, Array.getElem?_toList, Array.getElem?_eq_getElem (hne p hp)]
      rfl
    rw [eh] at q1 q2
    refine ⟨n, q1, fun n' hn => ?_⟩
    obtain ⟨i, hi⟩ := (occ_in (by rw [L.size]; have := sq_le m ((es[p.2]?).getD (0, .none)).1 n'; omega)).mp (q2 n' hn)
    exact List.mem_map.mpr ⟨(_, i), lv_mem.mpr ⟨sq_le _ _ _, hi⟩, rfl⟩
end Ht

set_option Elab.async false
set_option maxRecDepth 100000
namespace Ht
open PySem PySem.SetTable
section
variable {prog : Program} {w : World} {K : Type} [DecidableEq K] {knd : KeyKind prog w K} {A : Around} {E : Value → Shared → Prop} {s : Shared}
/-- a key's entry -/
def en (knd : KeyKind prog w K) (q : List K × Addr) : Int × Value := (tupleKeyHash knd q.1, .ref q.2)
theorem items_none {ks : List K} {vs : List Value} (h : ItemsAre knd ks vs) : ∀ v ∈ vs, ∀ n, ofAClassStatement n v = pure false := by
  intro v hv n
  have := h.byValue v hv
  cases v with
  | ref a => simp [carriedByValue] at this
  | _ => unfold ofAClassStatement; rfl
theorem stmt_tuple {ks : List K} {a : Addr} {Q : Bool → Shared → Prop} (hk : IsTupleKey knd s.heap ks a) (h : Q false s) : wpAny (model prog w) A (ofAClassStatement 8 (.ref a)) Q E s := by
  have hT := hk.typeIs
  obtain ⟨o, items, n, ho, hc, hd, hi⟩ := hk
  unfold ofAClassStatement
  refine wpAny_bind (wpAny_typeOf hT ?_)
  dsimp only
  refine wpAny_bind ?_
  refine wpAny_pure ?_
  simp only [Bool.not_true, Bool.false_eq_true, if_false]
  refine wpAny_bind (wpAny_seqItems ho hd ?_)
  dsimp only
  refine wpAny_bind ?_
  rw [← Array.forIn_toList]
  refine wpAny_forIn_list _ (fun rest r s' => r.1 = none ∧ s' = s ∧ ∀ v ∈ rest, ofAClassStatement 7 v = pure false) _ ?_ ?_ _ _ ⟨rfl, rfl, fun v hv => items_none hi v hv 7⟩
  · rintro v rest r s' ⟨hr, rfl, hall⟩
    rw [hall v List.mem_cons_self]
    refine wpAny_bind (wpAny_pure ?_)
    simp only [Bool.false_eq_true, if_false]
    exact wpAny_pure ⟨rfl, rfl, fun u hu' => hall u (List.mem_cons_of_mem _ hu')⟩
  · rintro ⟨r1, r2⟩ s' ⟨hr, rfl, _⟩
    simp only at hr
    subst hr
    exact wpAny_pure h
theorem hbv_val {v : Value} (h : carriedByValue v = true) (n : Nat) : ∃ b, hashByValue n v = pure b := by
  cases v with
  | ref a => simp [carriedByValue] at h
  | _ => cases n <;> exact ⟨_, by unfold hashByValue; rfl⟩
/-- whole numbers alone -/
def IO (knd : KeyKind prog w K) (ks : List K) : Prop := ∀ k, k ∈ ks → ∀ v, knd.is k v = true → ∃ (n : Int) (t : Tok), v = Value.int n t
theorem items_mem {ks : List K} {vs : List Value} (h : ItemsAre knd ks vs) : ∀ v, v ∈ vs → ∃ k, k ∈ ks ∧ knd.is k v = true := by
  induction h with
  | nil => intro v hv; cases hv
  | cons hk _ ih =>
    intro v hv
    rcases List.mem_cons.mp hv with rfl | hv
    · exact ⟨_, List.mem_cons_self .., hk⟩
    · obtain ⟨k, a, b⟩ := ih v hv
      exact ⟨k, List.mem_cons_of_mem _ a, b⟩
theorem hbv_int {n : Int} {t : Tok} (m : Nat) : hashByValue m (Value.int n t) = pure true := by
  cases m <;> rfl
theorem hbv_tuple {ks : List K} {a : Addr} {Q : Bool → Shared → Prop} (hk : IsTupleKey knd s.heap ks a) (h : ∀ b, (IO knd ks → b = true) → Q b s) : wpAny (model prog w) A (hashByValue 8 (.ref a)) Q E s := by
  have hT := hk.typeIs
  obtain ⟨o, items, n, ho, hc, hd, hi⟩ := hk
  unfold hashByValue
  refine wpAny_bind (wpAny_specialOf hT F.slot_tuple_hash.lookup ?_)
  show wpAny _ _ (seqItems? (.ref a) >>= _) _ _ s
  refine wpAny_bind (wpAny_seqItems ho hd ?_)
  refine wpAny_bind ?_
  show wpAny _ _ (forIn items _ _) _ _ s
  rw [← Array.forIn_toList]
  have each : ∀ v ∈ items.toList, ∃ b, hashByValue 7 v = pure b ∧ (IO knd ks → b = true) := fun v hv => by
    obtain ⟨k, k1, k2⟩ := items_mem hi v hv
    by_cases hv2 : ∃ (n : Int) (t : Tok), v = Value.int n t
    · obtain ⟨n, t, rfl⟩ := hv2
      exact ⟨true, hbv_int 7, fun _ => rfl⟩
    · obtain ⟨b, eb⟩ := hbv_val (hi.byValue v hv) 7
      exact ⟨b, eb, fun io => absurd (io k k1 v k2) hv2⟩
  refine wpAny_forIn_list _ (fun rest r s' => r.1 = none ∧ s' = s ∧ ∀ v ∈ rest, ∃ b, hashByValue 7 v = pure b ∧ (IO knd ks → b = true)) _ ?_ ?_ _ _ ⟨rfl, rfl, each⟩
  · rintro v rest r s' ⟨hr, rfl, hall⟩
    obtain ⟨b, eb, ebt⟩ := hall v List.mem_cons_self
    rw [eb]
    refine wpAny_bind (wpAny_pure ?_)
    cases b with
    | true =>
      simp only [Bool.not_true, Bool.false_eq_true, if_false]
      exact wpAny_pure ⟨rfl, rfl, fun u hu' => hall u (List.mem_cons_of_mem _ hu')⟩
    | false =>
      simp only [Bool.not_false, if_true]
      exact wpAny_pure (wpAny_pure (h false ebt))
  · rintro ⟨r1, r2⟩ s' ⟨hr, rfl, _⟩
    simp only at hr
    subst hr
    exact wpAny_pure (h true fun _ => rfl)
theorem seen_no {k : List K} {a : Addr} {Q : Bool → Shared → Prop} (hk : IsTupleKey knd s.heap k a) (l : List Value) (hl : ∀ v, v ∈ l → ∃ k' b, v = .ref b ∧ IsTupleKey knd s.heap k' b) (h : Q false s) : wpAny (model prog w) A (searchCouldBeSeen (.ref a) l) Q E s := by
  unfold searchCouldBeSeen
  refine wpAny_bind ?_
  refine wpAny_forIn_list _ (fun rest r s' => r.1 = none ∧ s' = s ∧ ∀ v ∈ rest, v ∈ l) _ ?_ ?_ _ _ ⟨rfl, rfl, fun v hv => hv⟩
  · rintro v rest r s' ⟨hr, rfl, hall⟩
    obtain ⟨k', b, rfl, hb⟩ := hl v (hall v List.mem_cons_self)
    dsimp only
    by_cases e : a = b
    · subst e
      rw [if_pos (by simp)]
      exact wpAny_pure ⟨rfl, rfl, fun u hu' => hall u (List.mem_cons_of_mem _ hu')⟩
    · rw [if_neg (by simp [e, carriedByValue])]
      refine wpAny_bind (wpAny_eqIsQuiet_tuple hk ?_)
      simp only [Bool.not_true, Bool.false_eq_true, if_false]
      refine wpAny_bind (wpAny_eqIsQuiet_tuple hb ?_)
      simp only [Bool.not_true, Bool.false_eq_true, if_false]
      refine wpAny_bind (stmt_tuple hk ?_)
      simp only [Bool.false_eq_true, if_false]
      refine wpAny_bind (stmt_tuple hb ?_)
      simp only [Bool.false_eq_true, if_false]
      exact wpAny_pure ⟨rfl, rfl, fun u hu' => hall u (List.mem_cons_of_mem _ hu')⟩
  · rintro ⟨r1, r2⟩ s' ⟨hr, rfl, _⟩
    simp only at hr
    subst hr
    exact wpAny_pure h
/-- the set's object, its table, its keys with their tuples -/
structure Held (knd : KeyKind prog w K) (h : Heap) (a : Addr) (o : Obj) (es : Array (Int × Value)) (ep : Nat) (t : SetTable) (kb : List (List K × Addr)) : Prop where
  ob : h.get? a = some o
  ex : o.ExactSet
  dt : o.data = .set es ep t
  tab : Tab t es.toList
  few : es.size * 5 < t.mask * 3
  ent : es.toList = kb.map (en knd)
  ldd : t.led = !w.params.followText "set-order"
  pln : (∀ q, q ∈ kb → IO knd q.1) → t.plain = true
  key : ∀ q, q ∈ kb → IsTupleKey knd h q.1 q.2
theorem Held.size {h : Heap} {a : Addr} {o : Obj} {es : Array (Int × Value)} {ep : Nat} {t : SetTable} {kb : List (List K × Addr)} (X : Held knd h a o es ep t kb) : es.size = kb.length := by
  rw [← Array.length_toList, X.ent, List.length_map]
theorem Held.fits {h : Heap} {a : Addr} {o : Obj} {es : Array (Int × Value)} {ep : Nat} {t : SetTable} {kb : List (List K × Addr)} (X : Held knd h a o es ep t kb) : t.fits es.size = true := X.tab.fits (by have := X.few; omega)
/-- the key at the n-th place of a way -/
theorem Held.at {h : Heap} {a : Addr} {o : Obj} {es : Array (Int × Value)} {ep : Nat} {t : SetTable} {kb : List (List K × Addr)} (X : Held knd h a o es ep t kb) {j : Nat} (hj : j ∈ t.place.toList) :
    ∃ q, q ∈ kb ∧ es[rk t.place.toList j]? = some (en knd q) := by
  have e := rk_get X.tab.ris hj
  have hl : rk t.place.toList j < t.place.toList.length := (List.getElem?_eq_some_iff.mp e).1
  have hl2 : rk t.place.toList j < kb.length := by
    have := X.tab.len
    rw [X.ent, List.length_map] at this
    omega
  refine ⟨kb[rk t.place.toList j], List.getElem_mem _, ?_⟩
  rw [← Array.getElem?_toList, X.ent, List.getElem?_map, List.getElem?_eq_getElem hl2]
  rfl
/-- a key that is held stands ahead of the first free place of its way -/
theorem Held.before {h : Heap} {a : Addr} {o : Obj} {es : Array (Int × Value)} {ep : Nat} {t : SetTable} {kb : List (List K × Addr)} (X : Held knd h a o es ep t kb) {q : List K × Addr} (hq : q ∈ kb) {N : Nat}
    (F : Fst t.mask (tupleKeyHash knd q.1) t.place.toList N) : ∃ n, n < N ∧ es[rk t.place.toList (sq t.mask (tupleKeyHash knd q.1) n)]? = some (en knd q) := by
  obtain ⟨i, hi, rfl⟩ := List.mem_iff_getElem.mp hq
  have hl : i < t.place.toList.length := by
    have := X.tab.len
    rw [X.ent, List.length_map] at this
    omega
  have he : i < es.toList.length := by rw [X.ent, List.length_map]; exact hi
  have ee : es.toList[i] = en knd kb[i] := by
    have : es.toList[i]? = some (en knd kb[i]) := by rw [X.ent, List.getElem?_map, List.getElem?_eq_getElem hi]; rfl
    rw [List.getElem?_eq_getElem he] at this
    exact Option.some.inj this
  have hz : (t.place.toList[i], en knd kb[i]) ∈ t.place.toList.zip es.toList := by
    rw [← ee]
    refine List.mem_iff_getElem?.mpr ⟨i, ?_⟩
    rw [List.getElem?_zip_eq_some]
    exact ⟨List.getElem?_eq_getElem hl, List.getElem?_eq_getElem he⟩
  have hm : t.place.toList[i] ∈ t.place.toList := List.getElem_mem _
  obtain ⟨n, h1, h2⟩ := (X.tab.rch _ hz).before hm F
  refine ⟨n, h1, ?_⟩
  have e2 : sq t.mask (tupleKeyHash knd kb[i].1) n = t.place.toList[i] := h2
  rw [e2]
  have er := rk_get X.tab.ris hm
  have : rk t.place.toList t.place.toList[i] = i := by
    have h1 := (List.getElem?_eq_some_iff.mp er).1
    exact (List.getElem?_inj h1 (ris_nodup X.tab.ris)).mp (by rw [er, List.getElem?_eq_getElem hl])
  rw [this, ← Array.getElem?_toList, List.getElem?_eq_getElem he, ee]
theorem search_ok (hu : A.units < cLine) {a : Addr} {o : Obj} {es : Array (Int × Value)} {ep : Nat} {t : SetTable} {kb : List (List K × Addr)} (X : Held knd s.heap a o es ep t kb) {k : List K} {b : Addr} (hb : IsTupleKey knd s.heap k b)
    {N : Nat} (F : Fst t.mask (tupleKeyHash knd k) t.place.toList N) {Q : SetFound → Shared → Prop} (hin : (∃ q, q ∈ kb ∧ q.1 = k) → Q (.there none) s) (hout : (¬ ∃ q, q ∈ kb ∧ q.1 = k) → Q (.free (sq t.mask (tupleKeyHash knd k) N) false) s)
    (hN : N ≤ 10 * (13 + t.mask)) :
    ∀ (f n : Nat) (st : Option Probe), st.getD (t.probeStart (tupleKeyHash knd k)) = pr t.mask (tupleKeyHash knd k) n → n ≤ N → N - n < f →
      (∀ n', n' < n → ∀ q, es[rk t.place.toList (sq t.mask (tupleKeyHash knd k) n')]? = some (en knd q) → q ∈ kb → q.1 ≠ k) →
      wpAny (model prog w) A (setSearchFrom a (.ref b) (tupleKeyHash knd k) true f st) Q E s
  | 0, n, st, _, _, hf, _ => by omega
  | f + 1, n, st, est, hn, hf, hno => by
    unfold setSearchFrom
    refine wpAny_bind (wpAny_setState_of X.ob X.dt X.fits ?_)
    dsimp only
    have hg : t.gaveWay = false := by
      unfold gaveWay
      rcases X.tab.msk with e | e | e | e <;> rw [e] <;> rfl
    rw [hg, if_neg Bool.false_ne_true, est]
    have hne : ∀ q, q ∈ kb → ∀ m, es[rk t.place.toList (sq t.mask (tupleKeyHash knd k) m)]? = some (en knd q) → (fun i => ((es[i]?).map (·.1)).getD 0) (rk t.place.toList (sq t.mask (tupleKeyHash knd k) m)) = tupleKeyHash knd q.1 := fun q _ m e => by
      show ((es[rk t.place.toList (sq t.mask (tupleKeyHash knd k) m)]?).map (·.1)).getD 0 = _
      rw [e]
      rfl
    rcases go_is X.tab.dum X.tab.ris (fun i => ((es[i]?).map (·.1)).getD 0) F (10 * turns t.mask) n hn (by unfold turns; omega) with ⟨c, c1, c2, c3, c4, e⟩ | ⟨c4, e⟩
    · split
      · rename_i met heq
        have em : some (Met.candidate (sq t.mask (tupleKeyHash knd k) c) (rk t.place.toList (sq t.mask (tupleKeyHash knd k) c)) (pr t.mask (tupleKeyHash knd k) (c + 1))) = some met := e.symm.trans heq
        obtain rfl := Option.some.inj em
        dsimp only
        have hj := F.ins c c2
        obtain ⟨q, hq, eq⟩ := X.at hj
        have hsl := slot_is X.tab.dum X.tab.ris (sq t.mask (tupleKeyHash knd k) c)
        rw [if_pos hj] at hsl
        have rest : wpAny (model prog w) A (do
            let equal ← holding [Value.ref q.2] (eqBool (Value.ref q.2) (Value.ref b))
            let x ← setState a
            if (true && equal) = true then pure (SetFound.there none)
              else
                match x.2.2.sameMemory t.moves t.mask with
                | some same =>
                  match (if same = true then x.2.2.slot (sq t.mask (tupleKeyHash knd k) c) else Slot.empty) with
                  | Slot.live i' =>
                    match x.1[i']? with
                    | some (_, y') => do
                      let r ← isSame y' (Value.ref q.2)
                      let still ← pure (if r = true then some i' else none)
                      match still with
                        | none => do
                          rule "set.search.anew"
                          setSearchFrom a (Value.ref b) (tupleKeyHash knd k) true f none
                        | some i' =>
                          if equal = true then pure (SetFound.there (some i'))
                          else setSearchFrom a (Value.ref b) (tupleKeyHash knd k) true f (some (pr t.mask (tupleKeyHash knd k) (c + 1)))
                    | none => do
                      let still ← pure none
                      match still with
                        | none => do
                          rule "set.search.anew"
                          setSearchFrom a (Value.ref b) (tupleKeyHash knd k) true f none
                        | some i' =>
                          if equal = true then pure (SetFound.there (some i'))
                          else setSearchFrom a (Value.ref b) (tupleKeyHash knd k) true f (some (pr t.mask (tupleKeyHash knd k) (c + 1)))
                  | _ => do
                    let still ← pure none
                    match still with
                      | none => do
                        rule "set.search.anew"
                        setSearchFrom a (Value.ref b) (tupleKeyHash knd k) true f none
                      | some i' =>
                        if equal = true then pure (SetFound.there (some i'))
                        else setSearchFrom a (Value.ref b) (tupleKeyHash knd k) true f (some (pr t.mask (tupleKeyHash knd k) (c + 1)))
                | _ => unsupported "set.changed-during-lookup:is-the-new-block-at-the-old-address") Q E s := by
          refine wpAny_bind (wpAny_holding (wpAny_eqBool_tuple hu (X.key q hq) hb ?_))
          refine wpAny_bind (wpAny_setState_of X.ob X.dt X.fits ?_)
          by_cases hk : q.1 = k
          · rw [decide_eq_true hk]
            simp only [Bool.and_self, if_true]
            exact wpAny_pure (hin ⟨q, hq, hk⟩)
          · rw [decide_eq_false hk]
            simp only [Bool.and_false, Bool.false_eq_true, if_false]
            have esm : t.sameMemory t.moves t.mask = some true := by
              unfold sameMemory
              rw [if_pos (beq_self_eq_true _)]
            rw [esm]
            dsimp only
            rw [if_pos rfl, hsl]
            dsimp only
            rw [eq]
            dsimp only
            refine wpAny_bind (wpAny_isSame_ref_self ?_)
            refine wpAny_bind (wpAny_pure ?_)
            rw [if_pos rfl]
            dsimp only
            refine search_ok hu X hb F hin hout hN f (c + 1) _ rfl (by omega) (by omega) fun n' hn' q' hq1 hq2 => ?_
            by_cases h1 : n' < n
            · exact hno n' h1 q' hq1 hq2
            · by_cases h2 : n' < c
              · intro ek
                exact c4 n' (by omega) h2 ((hne q' hq2 n' hq1).trans (by rw [ek]))
              · have : n' = c := by omega
                subst this
                intro ek
                rw [eq] at hq1
                have e2 : Value.ref q.2 = Value.ref q'.2 := congrArg Prod.snd (Option.some.inj hq1)
                have e3 : q.2 = q'.2 := by injection e2
                have k1 := X.key q hq
                rw [e3] at k1
                exact hk ((k1.inj (X.key q' hq2)).trans ek)
        by_cases hl : (!t.led) = true
        · rw [if_pos hl]
          refine wpAny_bind (seen_no hb _ (fun v hv => ?_) ?_)
          · obtain ⟨e', he', rfl⟩ := List.mem_map.mp hv
            rw [Array.toList_filter, List.mem_filter, X.ent] at he'
            obtain ⟨q', hq', rfl⟩ := List.mem_map.mp he'.1
            exact ⟨q'.1, q'.2, rfl, X.key q' hq'⟩
          · simp only [Bool.false_eq_true, if_false]
            rw [eq]
            exact rest
        · rw [if_neg hl, eq]
          exact rest
      · rename_i hx
        exact absurd e (hx _)
    · split
      · rename_i met heq
        have em : some (Met.empty (sq t.mask (tupleKeyHash knd k) N) none) = some met := e.symm.trans heq
        obtain rfl := Option.some.inj em
        dsimp only
        refine wpAny_pure (hout ?_)
        rintro ⟨q, hq, rfl⟩
        obtain ⟨m, hm, em⟩ := X.before hq F
        by_cases h1 : m < n
        · exact hno m h1 q em hq rfl
        · exact c4 m (by omega) hm (hne q hq m em)
      · rename_i hx
        exact absurd e (hx _)
theorem perm_back {α β : Type} (f : α → β) {l' l : List β} (p : l'.Perm l) : ∀ kb : List α, l = kb.map f → ∃ kb' : List α, kb'.Perm kb ∧ l' = kb'.map f := by
  induction p with
  | nil =>
    intro kb e
    cases kb with
    | nil => exact ⟨[], .rfl, rfl⟩
    | cons a r => cases e
  | cons x p ih =>
    intro kb e
    cases kb with
    | nil => cases e
    | cons a r =>
      obtain ⟨e1, e2⟩ := List.cons.inj e
      obtain ⟨r', p', e'⟩ := ih r e2
      exact ⟨a :: r', p'.cons a, by rw [List.map_cons, e', e1]⟩
  | swap x y l =>
    intro kb e
    cases kb with
    | nil => cases e
    | cons a r =>
      cases r with
      | nil => simp at e
      | cons c r =>
        obtain ⟨e1, e2⟩ := List.cons.inj e
        obtain ⟨e3, e4⟩ := List.cons.inj e2
        exact ⟨c :: a :: r, .swap .., by rw [List.map_cons, List.map_cons, e1, e3, e4]⟩
  | trans p q ih1 ih2 =>
    intro kb e
    obtain ⟨k1, p1, e1⟩ := ih2 kb e
    obtain ⟨k2, p2, e2⟩ := ih1 k1 e1
    exact ⟨k2, p2.trans p1, e2⟩
/-- a set whose members are tuples: these keys, each once -/
def SetT (knd : KeyKind prog w K) (h : Heap) (a : Addr) (S : List (List K)) (M : List (List K × Addr)) : Prop := S.Nodup ∧ ∃ o es ep t kb, Held knd h a o es ep t kb ∧ (kb.map (·.1)).Perm S ∧ ∀ q, q ∈ kb → q ∈ M
theorem keeps {h h' : Heap} {ks : List K} {a d : Addr} {o : Obj} {es ep t} (x : IsTupleKey knd h ks a) (ho : h.get? d = some o) (hd : o.data = .set es ep t) (hs : Heap.SameBut d h h') : IsTupleKey knd h' ks a := by
  obtain ⟨o', items, n, ho', hc, hd', hi⟩ := x
  have hne : a ≠ d := by
    rintro rfl
    obtain rfl : o' = o := Option.some.inj (ho'.symm.trans ho)
    rw [hd] at hd'
    exact nomatch hd'
  exact ⟨o', items, n, (hs.2 a hne).trans ho', hc, hd', hi⟩
theorem relay_size {m n : Nat} (M : Msk m) (h1 : n * 5 < m * 3) (h2 : (n + 1) * 5 ≥ m * 3) (h3 : n < 100) : Msk (sizeAbove (grown (n + 1)) - 1) ∧ n + 1 ≤ sizeAbove (grown (n + 1)) - 1 ∧ (n + 1) * 5 < (sizeAbove (grown (n + 1)) - 1) * 3 ∧ sizeAbove (grown (n + 1)) ≤ 512 := by
  rcases M with rfl | rfl | rfl | rfl
  · obtain rfl : n = 4 := by omega
    exact ⟨.inr (.inl (by decide)), by decide, by decide, by decide⟩
  · obtain rfl : n = 18 := by omega
    exact ⟨.inr (.inr (.inl (by decide))), by decide, by decide, by decide⟩
  · obtain rfl : n = 76 := by omega
    exact ⟨.inr (.inr (.inr (by decide))), by decide, by decide, by decide⟩
  · omega
theorem put_at {h : Heap} {a : Addr} {o : Obj} {es : Array (Int × Value)} {ep : Nat} {t : SetTable} (ho : h.get? a = some o) (hd : o.data = .set es ep t) (es' : Array (Int × Value)) (t' : SetTable) :
    (h.update a (Obj.putSet es' t')).get? a = some { o with data := .set es' (ep + 1) t' } := by
  have g := Heap.get?_update_self (Obj.putSet es' t') ho (by rw [putSet_of es' t' hd]; rfl)
  rw [putSet_of es' t' hd] at g
  exact g
theorem small_line {n : Nat} (h : n ≤ 512) : n ≤ sizeLine := by
  rw [sizeLine_eq]
  omega
theorem relaid_led {t t' : SetTable} {n : Nat} {hs : Array Int} {order : Array Nat} (h : t.relaid hs n = some (t', order)) : t'.led = t.led := by
  unfold SetTable.relaid SetTable.laid at h
  simp only [Option.bind_eq_bind, Option.bind_eq_some_iff, Option.pure_def, Option.some.injEq, Prod.mk.injEq] at h
  grind
theorem relaid_plain {t t' : SetTable} {n : Nat} {hs : Array Int} {order : Array Nat} (h : t.relaid hs n = some (t', order)) : t'.plain = t.plain := by
  unfold SetTable.relaid SetTable.laid at h
  simp only [Option.bind_eq_bind, Option.bind_eq_some_iff, Option.pure_def, Option.some.injEq, Prod.mk.injEq] at h
  grind
theorem tail_ok {a : Addr} {o : Obj} {es : Array (Int × Value)} {ep : Nat} {t : SetTable} (ho : s.heap.get? a = some o) (hex : o.ExactSet) (hd : o.data = .set es ep t) {t1 : SetTable} {es1 : Array (Int × Value)} {kb1 : List (List K × Addr)} {n : Nat}
    (T1 : Tab t1 es1.toList) (hz : es1.size = n + 1) (hw : n * 5 < t1.mask * 3) (hn : n < 100) (ent : es1.toList = kb1.map (en knd)) (hld : t1.led = !w.params.followText "set-order") (hpl : (∀ q, q ∈ kb1 → IO knd q.1) → t1.plain = true) (key : ∀ q, q ∈ kb1 → IsTupleKey knd s.heap q.1 q.2) {Q : Bool → Shared → Prop}
    (fin : ∀ h', Heap.SameBut a s.heap h' → (∃ o es ep t kb, Held knd h' a o es ep t kb ∧ kb.Perm kb1) → Q true { s with heap := h' }) :
    wpAny (model prog w) A (do
      storeSet a es1 t1
      if (!false && t1.tooFull) = true then do
        setRelay a (grown (n + 1))
        pure true
      else pure true) Q E s := by
  have hle : es1.size ≤ sizeLine := small_line (by omega)
  refine wpAny_bind (wpAny_storeSet_of ho hd ?_ hle)
  have g1 := put_at ho hd es1 t1
  have sb1 := Heap.SameBut.update s.heap a (Obj.putSet es1 t1)
  have key1 : ∀ q, q ∈ kb1 → IsTupleKey knd (s.heap.update a (Obj.putSet es1 t1)) q.1 q.2 := fun q hq => keeps (key q hq) ho hd sb1
  have hfull : t1.tooFull = decide ((n + 1) * 5 ≥ t1.mask * 3) := by
    unfold SetTable.tooFull SetTable.fill
    have := T1.len
    rw [Array.length_toList, Array.length_toList] at this
    rw [T1.dum, this, hz]
    rfl
  rw [hfull]
  by_cases hf : (n + 1) * 5 ≥ t1.mask * 3
  · rw [decide_eq_true hf, if_pos (show (!false && true) = true from rfl)]
    obtain ⟨m1, m2, m3, m4⟩ := relay_size T1.msk hw hf hn
    obtain ⟨t', order, er, T', em, pp⟩ := relaid_ok (t := t1) (es := es1) m1 (by omega)
    obtain ⟨kb', pk, ek⟩ := perm_back (en knd) pp kb1 ent
    have hs' : (order.filterMap (es1[·]?)).size = n + 1 := by
      rw [← Array.length_toList, pp.length_eq, Array.length_toList, hz]
    refine wpAny_bind ?_
    unfold setRelay
    refine wpAny_bind (wpAny_setState_of g1 rfl (T1.fits (by have := T1.msk; rcases this with e | e | e | e <;> omega)) ?_)
    dsimp only
    rw [if_neg (Nat.not_lt.mpr (small_line m4)), er]
    refine wpAny_bind ?_
    show wpAny _ _ (if ((order.filterMap (es1[·]?)).size != es1.size) = true then _ else pure (order.filterMap (es1[·]?), t')) _ _ _
    rw [if_neg (by rw [hs', hz]; simp)]
    refine wpAny_pure ?_
    refine wpAny_storeSet_of g1 rfl ?_ (small_line (by show (order.filterMap (es1[·]?)).size ≤ 512; omega))
    have g2 := put_at g1 rfl (order.filterMap (es1[·]?)) t'
    have sb2 := Heap.SameBut.update (s.heap.update a (Obj.putSet es1 t1)) a (Obj.putSet (order.filterMap (es1[·]?)) t')
    refine wpAny_pure (fin _ (sb1.trans sb2) ⟨_, _, _, _, kb', ⟨g2, hex, rfl, T', ?_, ek, (relaid_led er).trans hld, fun io => (relaid_plain er).trans (hpl fun q hq => io q (pk.mem_iff.mpr hq)), fun q hq => keeps (key1 q (pk.mem_iff.mp hq)) g1 rfl sb2⟩, pk⟩)
    rw [hs', em]
    exact m3
  · rw [decide_eq_false hf, if_neg (by simp)]
    exact wpAny_pure (fin _ sb1 ⟨_, _, _, _, kb1, ⟨g1, hex, rfl, T1, by omega, ent, hld, hpl, key1⟩, .rfl⟩)
theorem add_ok (hu : A.units < cLine) {a : Addr} {S : List (List K)} {M : List (List K × Addr)} (X : SetT knd s.heap a S M) {k : List K} {b : Addr} (hb : IsTupleKey knd s.heap k b) (hM : (k, b) ∈ M) (hn : S.length < 100) {Q : Bool → Shared → Prop}
    (h : ∀ r h', Heap.SameBut a s.heap h' → SetT knd h' a (if k ∈ S then S else k :: S) M → Q r { s with heap := h' }) :
    wpAny (model prog w) A (setAddHashed a (.ref b) (tupleKeyHash knd k)) Q E s := by
  obtain ⟨nd, o, es, ep, t, kb, X, pm, mm⟩ := X
  have hsz : es.size = S.length := by rw [X.size, ← pm.length_eq, List.length_map]
  unfold setAddHashed setAddHashedIn
  refine wpAny_holding (wpAny_bind (wpAny_setState_of X.ob X.dt X.fits ?_))
  dsimp only
  have hbs : byScan (.ref b) es = false := rfl
  rw [hbs, if_neg Bool.false_ne_true]
  obtain ⟨N, hN, F⟩ := fst_ex X.tab.msk (tupleKeyHash knd k) X.tab.ris (by have := X.few; have := X.tab.len; rw [Array.length_toList, Array.length_toList] at this; rw [Array.length_toList]; omega)
  have hmask : t.mask ≤ 511 := by rcases X.tab.msk with e | e | e | e <;> omega
  refine wpAny_bind ?_
  unfold setSearch
  refine search_ok hu X hb F (fun hin => ?_) (fun hout => ?_) hN 100000 0 none rfl (Nat.zero_le _) (by omega) (fun n' h' => by omega)
  · have hk : k ∈ S := by
      obtain ⟨q, hq, e⟩ := hin
      exact pm.mem_iff.mp (List.mem_map.mpr ⟨q, hq, e⟩)
    dsimp only
    have := h false s.heap (Heap.SameBut.refl a s.heap)
    rw [if_pos hk] at this
    have e : s = { s with heap := s.heap } := by cases s; rfl
    exact wpAny_pure (e ▸ this ⟨nd, o, es, ep, t, kb, X, pm, mm⟩)
  · have hk : ¬ k ∈ S := fun hk => by
      obtain ⟨q, hq, e⟩ := List.mem_map.mp (pm.mem_iff.mpr hk)
      exact hout ⟨q, hq, e⟩
    dsimp only
    refine wpAny_bind (wpAny_setState_of X.ob X.dt X.fits ?_)
    dsimp only
    obtain ⟨T1, em, pp⟩ := X.tab.put (x := Value.ref b) F
    obtain ⟨kb', pk, ek⟩ := perm_back (en knd) pp ((k, b) :: kb) (by rw [X.ent]; rfl)
    have hkey : ∀ q, q ∈ kb' → IsTupleKey knd s.heap q.1 q.2 := fun q hq => by
      rcases List.mem_cons.mp (pk.mem_iff.mp hq) with e | e
      · rw [e]
        exact hb
      · exact X.key q e
    have hz : (insertAt es (t.put (sq t.mask (tupleKeyHash knd k) N)).2 (tupleKeyHash knd k, Value.ref b)).size = es.size + 1 := by
      rw [← Array.length_toList, pp.length_eq, List.length_cons, Array.length_toList]
    have fin : ∀ h', Heap.SameBut a s.heap h' → (∃ o es ep t kb, Held knd h' a o es ep t kb ∧ kb.Perm kb') → Q true { s with heap := h' } := fun h' sb ⟨o2, es2, ep2, t2, kb2, X2, p2⟩ => by
      refine h true h' sb ?_
      rw [if_neg hk]
      refine ⟨List.nodup_cons.mpr ⟨hk, nd⟩, o2, es2, ep2, t2, kb2, X2, ((p2.trans pk).map _).trans (pm.cons _), fun q hq => ?_⟩
      rcases List.mem_cons.mp ((p2.trans pk).mem_iff.mp hq) with e | e
      · rw [e]
        exact hM
      · exact mm q e
    have both : ∀ bv : Bool, ((t.put (sq t.mask (tupleKeyHash knd k) N)).1.plain = true → IO knd k → bv = true) → wpAny (model prog w) A (do
        storeSet a (insertAt es (t.put (sq t.mask (tupleKeyHash knd k) N)).2 (tupleKeyHash knd k, Value.ref b)) (if bv = true then (t.put (sq t.mask (tupleKeyHash knd k) N)).1 else { (t.put (sq t.mask (tupleKeyHash knd k) N)).1 with plain := false })
        if (!false && (if bv = true then (t.put (sq t.mask (tupleKeyHash knd k) N)).1 else { (t.put (sq t.mask (tupleKeyHash knd k) N)).1 with plain := false }).tooFull) = true then do
          setRelay a (grown (es.size + 1))
          pure true
        else pure true) Q E s := fun bv hbv => by
      refine tail_ok X.ob X.ex X.dt ?_ hz ?_ (by omega) ek ?_ (fun io => ?_) hkey fin
      · cases bv with
        | true => exact T1
        | false => exact ⟨T1.dum, T1.msk, T1.len, T1.ris, T1.le, T1.rch⟩
      · cases bv with
        | true =>
          show es.size * 5 < (t.put (sq t.mask (tupleKeyHash knd k) N)).1.mask * 3
          rw [em]
          exact X.few
        | false =>
          show es.size * 5 < (t.put (sq t.mask (tupleKeyHash knd k) N)).1.mask * 3
          rw [em]
          exact X.few
      · have e : (t.put (sq t.mask (tupleKeyHash knd k) N)).1.led = t.led := rfl
        cases bv with
        | true => exact e.trans X.ldd
        | false => exact e.trans X.ldd
      · have e0 : t.plain = true := X.pln fun q hq => io q (pk.mem_iff.mpr (List.mem_cons_of_mem _ hq))
        have e : (t.put (sq t.mask (tupleKeyHash knd k) N)).1.plain = true := e0
        have eb := hbv e (io (k, b) (pk.mem_iff.mpr (List.mem_cons_self ..)))
        subst eb
        exact e
    by_cases hp : (t.put (sq t.mask (tupleKeyHash knd k) N)).1.plain = true
    · rw [if_pos hp]
      exact wpAny_bind (hbv_tuple hb fun bv hb2 => both bv fun _ => hb2)
    · rw [if_neg hp]
      exact wpAny_bind (wpAny_pure (both true fun _ _ => rfl))
end
end Ht

set_option Elab.async false
set_option maxRecDepth 100000
namespace Ht
open PySem PySem.SetTable PySem.Spec
section
variable {prog : Program} {w : World} {K : Type} [DecidableEq K] {knd : KeyKind prog w K} {A : Around} {E : Value → Shared → Prop} {s : Shared} {R : Result → Shared → Prop}
def ded (S : List (List K)) (l : List (List K)) : List (List K) := l.foldl (fun S k => if k ∈ S then S else k :: S) S
theorem IsTupleKey.move {h h' : Heap} {ks : List K} {a I : Addr} (x : IsTupleKey knd h ks a) {oi : Obj} (hi : h.get? I = some oi) (hd : ∀ xs n, oi.data ≠ .seq xs n) (hk : ∀ b o, b ∉ [I] → h.get? b = some o → h'.get? b = some o) : IsTupleKey knd h' ks a := by
  obtain ⟨o, items, n, ho, hc, hdt, hit⟩ := x
  refine ⟨o, items, n, hk a o (fun hm => ?_) ho, hc, hdt, hit⟩
  have : a = I := by simpa using hm
  subst this
  rw [hi] at ho
  cases ho
  exact hd _ _ hdt
theorem SetT.move {h h' : Heap} {a I : Addr} {S : List (List K)} {M : List (List K × Addr)} (x : SetT knd h a S M) (hne : a ≠ I) {oi : Obj} (hi : h.get? I = some oi) (hd : ∀ xs n, oi.data ≠ .seq xs n) (hk : ∀ b o, b ∉ [I] → h.get? b = some o → h'.get? b = some o) : SetT knd h' a S M := by
  obtain ⟨nd, o, es, ep, t, kb, X, pm, mm⟩ := x
  exact ⟨nd, o, es, ep, t, kb, ⟨hk a o (by simpa using hne) X.ob, X.ex, X.dt, X.tab, X.few, X.ent, X.ldd, X.pln, fun q hq => IsTupleKey.move (X.key q hq) hi hd hk⟩, pm, mm⟩
theorem SetT.ob {h : Heap} {a : Addr} {S : List (List K)} {M : List (List K × Addr)} (x : SetT knd h a S M) : ∃ o es ep t, h.get? a = some o ∧ o.data = .set es ep t := by
  obtain ⟨_, o, es, ep, t, _, X, _⟩ := x
  exact ⟨o, es, ep, t, X.ob, X.dt⟩
theorem iter_obj {h : Heap} {I l : Addr} {i : Nat} (x : h.IsListIter I l i) : ∃ oi, h.get? I = some oi ∧ ∀ xs n, oi.data ≠ .seq xs n := by
  obtain ⟨o, ho, hx⟩ := x
  exact ⟨o, ho, fun xs n q => by simp [q] at hx⟩
theorem loop_ok (hh : A.in1.handled = none) (hu : A.in1.units < cLine) {S I l : Addr} {items : Array Value} {M : List (List K × Addr)} (hl : l ≠ I) (hSI : S ≠ I) (hSl : S ≠ l) : ∀ (rest : List (List K × Addr)) (i : Nat) (s : Shared) (ks : List (List K)),
    items.toList.drop i = rest.map (fun q => Value.ref q.2) → i ≤ items.size → (s.heap.IsListIter I l i ∧ s.heap.IsList l items) → (∀ q, q ∈ rest → IsTupleKey knd s.heap q.1 q.2 ∧ q ∈ M) → SetT knd s.heap S ks M → ks.length + rest.length ≤ 100 →
    (∀ s', Moved [S, I] (fun a b => b = a) s s' → SetT knd s'.heap S (ded ks (rest.map (·.1))) M → R (.ok (.ret .none)) s') →
    codeAny (model prog w) A (.builtin "set.update.loop" ⟨[.ref S, .ref I], []⟩) R s := by
  have W := (Walks.list (prog := prog) (w := w) hh I l hl items).toS
  have sub : ∀ b ∈ [I], b ∈ [S, I] := fun b hb => List.mem_cons_of_mem _ hb
  intro rest
  induction rest with
  | nil =>
    intro i s ks hd hi hst hq hS hn hR
    have hin : i = items.size := by
      have := congrArg List.length hd
      rw [List.length_drop, Array.length_toList, List.map_nil, List.length_nil] at this
      omega
    subst hin
    refine codeAny_builtin PyProof.Rows.F.entry_set_update_loop ?_
    rw [Around.under_plainId PyProof.Rows.F.plain_set_update_loop _]
    show wpAny _ A.in1 (pyNext (.ref I) >>= _) _ _ s
    refine wpAny_bind (W.done s _ _ hst fun s' hm => ?_)
    show wpAny _ A.in1 (ret Value.none) _ _ s'
    obtain ⟨oi, ho, hx⟩ := iter_obj hst.1
    exact wpAny_pure (hR s' (hm.mono sub) (hS.move hSI ho hx hm.heap))
  | cons q rest ih =>
    intro i s ks hd hi hst hq hS hn hR
    have hlt : i < items.size := by
      have := congrArg List.length hd
      rw [List.length_drop, Array.length_toList, List.map_cons, List.length_cons] at this
      omega
    have hat : items[i]? = some (.ref q.2) := by
      have := congrArg (fun z => z[0]?) hd
      simp only [List.getElem?_drop, Nat.add_zero, List.map_cons, List.getElem?_cons_zero, Array.getElem?_toList] at this
      exact this
    refine codeAny_builtin PyProof.Rows.F.entry_set_update_loop ?_
    rw [Around.under_plainId PyProof.Rows.F.plain_set_update_loop _]
    show wpAny _ A.in1 (pyNext (.ref I) >>= _) _ _ s
    refine wpAny_bind (W.item i s _ _ hlt hst fun v s' hP hst' hm => ?_)
    obtain ⟨oi, ho, hx⟩ := iter_obj hst.1
    have ev : v = .ref q.2 := Option.some.inj (hP.symm.trans hat)
    subst ev
    have hS' := hS.move hSI ho hx hm.heap
    have hq' : ∀ p, p ∈ q :: rest → IsTupleKey knd s'.heap p.1 p.2 := fun p hp => IsTupleKey.move (hq p hp).1 ho hx hm.heap
    show wpAny _ A.in1 (holding [Value.ref q.2] (setAdd S (.ref q.2)) >>= _) _ _ s'
    refine wpAny_bind (wpAny_holding ?_)
    unfold setAdd
    refine wpAny_holding (wpAny_bind (wpAny_pyHash_tuple hu (hq' q (List.mem_cons_self ..)) ?_))
    refine add_ok (s := { s' with toks := s'.toks + (q.1.length + 1) }) hu hS' (hq' q (List.mem_cons_self ..)) (hq q (List.mem_cons_self ..)).2 (by rw [List.length_cons] at hn; omega) fun r h' sb hS2 => ?_
    obtain ⟨o1, es1, ep1, t1, ob1, dt1⟩ := hS'.ob
    refine wpAny_pure ⟨plainId_quiet PyProof.Rows.F.plain_set_update_loop _, ih (i + 1) _ (if q.1 ∈ ks then ks else q.1 :: ks) ?_ hlt (W.frame _ s' _ _ hst' (Nat.le_add_right _ _) fun b hb o e => ?_) (fun p hp => ⟨keeps (hq' p (List.mem_cons_of_mem _ hp)) ob1 dt1 sb, (hq p (List.mem_cons_of_mem _ hp)).2⟩) hS2 ?_ fun s2 hm2 hS3 => ?_⟩
    · have := congrArg List.tail hd
      rw [List.tail_drop, List.map_cons, List.tail_cons] at this
      exact this
    · rw [sb.2 b (fun z : b = S => by
        rw [z] at hb
        rcases List.mem_cons.mp hb with y | y
        · exact hSI y
        · exact hSl (List.mem_singleton.mp y))]
      exact e
    · rw [List.length_cons] at hn
      split
      · omega
      · rw [List.length_cons]
        omega
    · refine hR s2 (Moved.trans (fun a b c h1 h2 => h2.trans h1) ((hm.mono sub).then_heap (Nat.le_add_right _ _) fun b o hb e => ?_) hm2) hS3
      rw [sb.2 b (fun z => hb (by rw [z]; exact List.mem_cons_self))]
      exact e
end
end Ht

set_option Elab.async false
set_option maxRecDepth 100000
namespace Ht
open PySem PySem.SetTable PySem.Spec
section
variable {prog : Program} {w : World} {K : Type} [DecidableEq K] {knd : KeyKind prog w K} {A : Around} {E : Value → Shared → Prop} {s : Shared}
abbrev em (led : Bool) : Obj := { cls := .type "set", dict := none, data := .set #[] 0 (.fresh 0 0 led) }
theorem setT_new {h : Heap} {a : Addr} {led : Bool} (ho : h.get? a = some (em led)) (hl : led = !w.params.followText "set-order") {M : List (List K × Addr)} : SetT knd h a [] M :=
  ⟨List.nodup_nil, em led, #[], 0, .fresh 0 0 led, [], ⟨ho, ⟨rfl, rfl, rfl⟩, rfl, Tab.fresh led, by show 0 * 5 < 7 * 3; decide, rfl, hl, fun _ => rfl, fun q hq => (by cases hq)⟩, .rfl, fun q hq => (by cases hq)⟩
/-- a new set, and how its table is led -/
theorem new_led (a : Value) {Q₁ : Value → Shared → Prop} (h : Q₁ (.ref s.heap.objs.size) { s with heap := s.heap.push (em (!w.params.followText "set-order")) }) : codeAny (model prog w) A (.call (.builtin "set.__new__") ⟨[.type "set", a], []⟩) (wants Q₁ E) s := by
  refine codeAny_of_tree (show wpAny _ A.in1 (do checkBuiltinCall "set.__new__" ⟨[.type "set", a], []⟩; again (.builtin "set.__new__" ⟨[.type "set", a], []⟩)) _ _ s from ?_)
  refine wpAny_bind (wpAny_of_eq (F.newCall_set_1 a) (wpAny_pure (And.intro (plainId_quiet F.plain_set_new _) (codeAny_builtin F.entry_set_new ?_))))
  rw [(Around.under_plainId F.plain_set_new _)]
  have hsub := (sub_set_self)
  obtain ⟨hp, g, d, tk, os⟩ := s
  unfold «Builtin».«set.__new__» Builtin.Frozenset.newClass
  dsimp only
  wp_walk
  refine wpAny_askSetting (wpAny_pure (?_))
  (dsimp only); (simp only [newObj])
  exact wpAny_bind (wpAny_alloc (wpAny_pure (wpAny_pure h)))
set_option maxHeartbeats 3200000 in
theorem call_set_tup {l : Addr} {items : Array Value} {prs : List (List K × Addr)} {Q : Value → Shared → Prop} (hh : A.handled = none) (hu : A.units + 64 < cLine) (hl : s.heap.IsList l items) (hi : items.toList = prs.map fun q => Value.ref q.2)
    (hk : ∀ q, q ∈ prs → IsTupleKey knd s.heap q.1 q.2) (hn : prs.length ≤ 100)
    (h : ∀ (h' : Heap) (tk : Nat), SetT knd h' s.heap.objs.size (ded [] (prs.map (·.1))) prs → (∀ b o, b < s.heap.objs.size → s.heap.get? b = some o → h'.get? b = some o) → Q (.ref s.heap.objs.size) { s with heap := h', toks := tk }) :
    wpAny (model prog w) A (call (.type "set") [.ref l]) Q E s := by
  obtain ⟨c, tl, hmro⟩ := F.called_set.mro
  have hmade := F.called_set.made
  have hsub := F.called_set.sub
  refine wpAny_call (codeAny_of_tree ?_)
  show wpAny _ _ (callAny (.type "set") _) _ _ _
  refine wpAny_pure ⟨Code.quiet_builtin _ (by decide +kernel), codeAny_builtin F.entry_type_call ?_⟩
  rw [Around.under_plain (weight_type_call_type "set" [.ref l] []) rfl]
  have h1 := F.called_set.notType
  have h2 := F.called_set.canCreate
  have hct := F.typeCall_set_1 (.ref l)
  repeat (any_goals (first | assumption | wp_step))
  refine codeAny_mono (new_led (.ref l) (E := E) (Q₁ := fun obj s1 => ∃ led : Bool, (led = !w.params.followText "set-order") ∧ obj = .ref s.heap.objs.size ∧ s1 = { s with heap := s.heap.push (em led) }) ⟨_, rfl, rfl, rfl⟩) fun r s1 hr => ?_
  cases r with
  | error e => exact hr
  | ok fl =>
    cases fl with
    | ret obj =>
      obtain ⟨led, hld, rfl, rfl⟩ := hr
      have hS : (s.heap.push (em led)).get? s.heap.objs.size = some (em led) := Heap.get?_push_size _ rfl
      have hT : Shared.TypeIs { s with heap := s.heap.push (em led) } (.ref s.heap.objs.size) "set" := ⟨_, hS, rfl⟩
      have hli := F.called_set.init.lookup
      have hbi := F.called_set.init.bind (.ref s.heap.objs.size)
      repeat (any_goals (first | assumption | wp_step))
      refine codeAny_mono (codeAny_call_builtin (R := wants (fun r s2 => r = .none ∧ ∃ h' tk, s2 = { s with heap := h', toks := tk } ∧ SetT knd h' s.heap.objs.size (ded [] (prs.map (·.1))) prs ∧
          (∀ b o, b < s.heap.objs.size → s.heap.get? b = some o → h'.get? b = some o)) E) F.called_set.init.plain F.entry_set_init (check_set_init_1 hT ?_)) fun r2 s2 hr2 => ?_
      · obtain ⟨ol, hol, hcl, nl, hdl⟩ := hl
        obtain ⟨ocls, odict, odata, oslots⟩ := ol
        simp only at hcl hdl
        subst hcl; subst hdl
        have hol' : (s.heap.push (em led)).get? l = some { cls := .type "list", dict := odict, data := .seq items nl, slots := oslots } := Heap.get?_push_of_some _ hol
        have hsls := F.sub_list_set
        have hslf := F.sub_list_frozenset
        have hne : (Value.type "list" == Value.type "dict") = false := by decide
        have hl1 : (s.heap.push (em led)).IsList l items := ⟨_, hol', rfl, nl, rfl⟩
        unfold Builtin.«set.__init__» noKeywords Builtin.Frozenset.updateFrom
        generalize hPI : pyIter = PI
        wp_walk
        subst hPI
        refine wpAny_pyIter_list hl1 ?_
        refine wpAny_bind (wpAny_runValue ?_)
        have hlS : l < s.heap.objs.size := Heap.lt_size hol
        have hh3 : A.in1.in1.in1.handled = none := by simp [hh]
        have hsz : (s.heap.push (em led)).objs.size = s.heap.objs.size + 1 := Heap.size_push ..
        refine loop_ok (knd := knd) (M := prs) (S := s.heap.objs.size) (I := (s.heap.push (em led)).objs.size) (l := l) (items := items) hh3 ?hu (by rw [hsz]; exact Nat.ne_of_lt (Nat.lt_succ_of_lt hlS)) (by rw [hsz]; exact Nat.ne_of_lt (Nat.lt_succ_self _)) (Nat.ne_of_gt hlS) prs 0 _ [] hi (Nat.zero_le _)
          ⟨⟨_, Heap.get?_push_size _ rfl, rfl, rfl⟩, hl1.push _⟩ (fun q hq => ?hk) (setT_new (led := led) (Heap.get?_push_of_some _ hS) hld) (by simpa using hn) (fun s' hm hS' => ?hR)
        case hu =>
          simp only [Around.in1_units]
          omega
        case hk =>
          obtain ⟨o, it, n, ho, rest⟩ := hk q hq
          exact ⟨⟨o, it, n, Heap.get?_push_of_some _ (Heap.get?_push_of_some _ ho), rest⟩, hq⟩
        case hR =>
          obtain ⟨h', g', d', tk', os'⟩ := s'
          have eg : g' = s.gens := hm.gens
          have ed : d' = s.drawn := hm.drawn
          have eo : os' = s.os := hm.os
          subst eg; subst ed; subst eo
          show wpAny _ _ _ _ _ _
          refine wpAny_pure ?_
          show wpAny _ _ (ret Value.none) _ _ _
          refine wpAny_pure ⟨rfl, h', tk', rfl, hS', fun b o hb e => ?_⟩
          refine hm.heap b o (fun hmem => ?_) (Heap.get?_push_of_some _ (Heap.get?_push_of_some _ e))
          rcases List.mem_cons.mp hmem with y | y
          · exact Nat.ne_of_lt hb y
          · have y := List.mem_singleton.mp y
            rw [hsz] at y
            exact Nat.ne_of_lt (Nat.lt_succ_of_lt hb) y
      · cases r2 with
        | error e => exact hr2
        | ok fl2 =>
          cases fl2 with
          | ret r =>
            obtain ⟨rfl, h', tk, rfl, hS', hk'⟩ := hr2
            repeat (any_goals (first | assumption | wp_step))
            exact h _ _ hS' hk'
          | _ => exact hr2.elim
    | _ => exact hr.elim
end
end Ht

set_option Elab.async false
set_option maxRecDepth 100000
namespace Ht
open PySem PySem.SetTable PySem.Spec
/-! ### a walk over a set -/
theorem slot_next : Slot "set_iterator" "__next__" "set_iterator.__next__" := .of (owner := "set_iterator") (n := "__next__") (by rw [typeLookup_type, builtinLookup_eq_fast]; kernel_rfl) (by decide +kernel) (by decide +kernel) (by decide +kernel) (.inl (by decide +kernel)) (by rw [isSubtype_type]; kernel_rfl)
theorem entry_next : entryFor table "set_iterator.__next__" = some Builtin.«set_iterator.__next__» := entryFor_of_fast (by kernel_rfl)
theorem entry_iter : entryFor table "set.__iter__" = some Builtin.«frozenset.__iter__» := entryFor_alias (id' := "frozenset.__iter__") (by kernel_rfl) rfl (by decide +kernel) (by kernel_rfl)
theorem args_next (a : Value) : argsOk "set_iterator.__next__" ⟨[a], []⟩ := by
  unfold argsOk
  kernel_rfl
theorem slot_self : Slot "set_iterator" "__iter__" "set_iterator.__iter__" := .of (owner := "set_iterator") (n := "__iter__") (by rw [typeLookup_type, builtinLookup_eq_fast]; kernel_rfl) (by decide +kernel) (by decide +kernel) (by decide +kernel) (.inl (by decide +kernel)) (by rw [isSubtype_type]; kernel_rfl)
theorem entry_self : entryFor table "set_iterator.__iter__" = some Builtin.«dict_keyiterator.__iter__» := entryFor_alias (id' := "dict_keyiterator.__iter__") (by kernel_rfl) rfl (by decide +kernel) (by kernel_rfl)
theorem args_self (a : Value) : argsOk "set_iterator.__iter__" ⟨[a], []⟩ := by
  unfold argsOk
  kernel_rfl
theorem drawn_is (a : Addr) : setDrawn a = (do
    let (es, _, t) ← setState a
    let byText ← setsByText
    return !byText && (!t.plain && decide (es.size > 1))) := rfl
def mbl (es : Array (Int × Value)) (t : SetTable) : Sem Unit := do
  if !t.led && !es.isEmpty then unsupported "set:maker-not-led"
theorem next_is (a : Addr) (slot given epochThen : Nat) : setNext a slot given epochThen = (do
    let (es, epoch, t) ← setState a
    if ← setsByText then
      if epoch != epochThen then unsupported "set_iterator.__next__:elements-changed"
      return ((← setWalk a)[given]?).map fun e => (e.2, slot)
    if (!t.plain && decide (es.size > 1)) then unsupported "set_iterator.__next__:the-table-is-plain-no-more"
    mbl es t
    let i := SetTable.below t.place slot
    return match es[i]?, t.place[i]? with
      | some (_, x), some j => some (x, j + 1)
      | _, _ => none) := rfl
theorem cons_erase {α : Type} : ∀ (l : List α) {i : Nat} (h : i < l.length), (l[i] :: l.eraseIdx i).Perm l
  | [], i, h => absurd h (Nat.not_lt_zero _)
  | a :: l, 0, _ => .rfl
  | a :: l, i + 1, h => by
    have h' : i < l.length := Nat.lt_of_succ_lt_succ h
    show (l[i] :: a :: l.eraseIdx i).Perm (a :: l)
    exact (List.Perm.swap a l[i] _).trans ((cons_erase l h').cons a)
theorem pick_go {α : Type} (next : Nat → Nat) : ∀ (fuel k : Nat) (left : List α) (out : Array α), left.length ≤ fuel → (pickOrder.go next fuel k left out).toList.Perm (out.toList ++ left)
  | 0, k, left, out, h => by
    have e : left = [] := List.eq_nil_of_length_eq_zero (by omega)
    subst e
    rw [List.append_nil]
    exact .rfl
  | fuel + 1, k, left, out, h => by
    unfold pickOrder.go
    cases e : left[next k % left.length]? with
    | none =>
      have hl : left = [] := by
        cases left with
        | nil => rfl
        | cons x r =>
          have hlt : next k % (x :: r).length < (x :: r).length := Nat.mod_lt _ (by simp)
          rw [List.getElem?_eq_getElem hlt] at e
          cases e
      subst hl
      rw [List.append_nil]
    | some x =>
      obtain ⟨hlt, ex⟩ := List.getElem?_eq_some_iff.mp e
      refine (pick_go next fuel (k + 1) _ _ (by rw [List.length_eraseIdx_of_lt hlt]; omega)).trans ?_
      rw [Array.toList_push, List.append_assoc]
      refine List.Perm.append_left _ ?_
      rw [← ex]
      exact cons_erase left hlt
theorem pick_perm {α : Type} (next : Nat → Nat) (xs : Array α) : (pickOrder next xs).toList.Perm xs.toList := by
  have := pick_go next xs.size 0 xs.toList #[] (by simp)
  simpa [pickOrder] using this
abbrev sitO (slot i : Nat) (S : Addr) (n ep : Nat) : Obj := { cls := .type "set_iterator", data := .fields #[.int slot 0, .int i 0, .ref S, .int n 0, .int ep 0] }
/-- what the walk leans on -/
structure Wlk (w : World) (h : Heap) (S : Addr) (es : Array (Int × Value)) (ep : Nat) (t : SetTable) : Prop where
  ob : ∃ o, h.get? S = some o ∧ o.ExactSet ∧ o.data = .set es ep t
  fits : t.fits es.size = true
  led : t.led = !w.params.followText "set-order"
  plain : t.plain = true
  len : t.place.toList.length = es.toList.length
  ris : t.place.toList.Pairwise (· < ·)
section
variable {prog : Program} {w : World} {A : Around} {E : Value → Shared → Prop} {s : Shared} {S I : Addr} {es : Array (Int × Value)} {ep : Nat} {t : SetTable}
/-- in this order -/
def wOrd (w : World) (S : Addr) (es : Array (Int × Value)) (ep : Nat) : List Value := if w.params.followText "set-order" = true then (pickOrder (w.params.setOrder S ep) es).toList.map (·.2) else es.toList.map (·.2)
theorem wOrd_perm (w : World) (S : Addr) (es : Array (Int × Value)) (ep : Nat) : (wOrd w S es ep).Perm (es.toList.map (·.2)) := by
  unfold wOrd
  split
  · exact (pick_perm _ es).map _
  · exact .rfl
theorem wOrd_len (w : World) (S : Addr) (es : Array (Int × Value)) (ep : Nat) : (wOrd w S es ep).length = es.size := by
  rw [(wOrd_perm w S es ep).length_eq, List.length_map, Array.length_toList]
/-- the slot ahead of the i-th -/
def slotAt (w : World) (t : SetTable) (i : Nat) : Nat := if w.params.followText "set-order" = true then 0 else if i = 0 then 0 else t.place.toList.getD (i - 1) 0 + 1
theorem iter_set (X : Wlk w s.heap S es ep t) {Q : Value → Shared → Prop} (h : Q (.ref s.heap.objs.size) { s with heap := s.heap.push (sitO 0 0 S es.size ep) }) : wpAny (model prog w) A (pyIter (.ref S)) Q E s := by
  obtain ⟨o, ho, hx, hd⟩ := X.ob
  have hT : s.TypeIs (.ref S) "set" := ⟨o, ho, hx.1⟩
  refine wpAny_pyIter_slot hT F.slot_set_iter (wpAny_call_entry F.slot_set_iter hT entry_iter ?_ (F.args_set_iter_1 _))
  unfold Builtin.«frozenset.__iter__»
  show wpAny _ _ (Builtin.Frozenset.sizeOf S >>= _) _ _ s
  unfold Builtin.Frozenset.sizeOf setEntries
  refine wpAny_bind (wpAny_bind (wpAny_bind (wpAny_setState_of ho hd X.fits (wpAny_pure (wpAny_pure ?_)))))
  rw [drawn_is]
  refine wpAny_bind (wpAny_bind (wpAny_setState_of ho hd X.fits ?_))
  dsimp only
  unfold setsByText
  refine wpAny_bind (wpAny_bind (wpAny_askSetting (wpAny_pure (wpAny_pure ?_))))
  rw [X.plain]
  simp only [Bool.not_true, Bool.false_and, Bool.and_false, Bool.false_eq_true, if_false]
  refine wpAny_bind (wpAny_pure ?_)
  unfold setEpoch
  refine wpAny_bind (wpAny_bind (wpAny_setState_of ho hd X.fits (wpAny_pure ?_)))
  unfold newFields
  refine wpAny_bind (wpAny_newObj_type (wpAny_pure ⟨_, rfl, "set_iterator", _, ⟨_, Heap.get?_push_size _ rfl, rfl⟩, slot_next.lookup, ?_⟩))
  exact h
theorem byText {Q : Bool → Shared → Prop} (h : Q (w.params.followText "set-order") s) : wpAny (model prog w) A setsByText Q E s := wpAny_bind (wpAny_askSetting (wpAny_pure h))
theorem Wlk.keep {h h' : Heap} (X : Wlk w h S es ep t) (k : ∀ o, h.get? S = some o → h'.get? S = some o) : Wlk w h' S es ep t :=
  ⟨let ⟨o, a, b⟩ := X.ob; ⟨o, k o a, b⟩, X.fits, X.led, X.plain, X.len, X.ris⟩
theorem rk_at {l : List Nat} (hr : l.Pairwise (· < ·)) (i : Nat) (hi : i ≤ l.length) : rk l (if i = 0 then 0 else l.getD (i - 1) 0 + 1) = i := by
  have hg := List.pairwise_iff_getElem.mp hr
  unfold rk
  generalize hS : (if i = 0 then 0 else l.getD (i - 1) 0 + 1) = S
  have h1 : (l.take i).filter (fun a => decide (a < S)) = l.take i := by
    refine List.filter_eq_self.mpr fun a ha => ?_
    obtain ⟨j, hj, rfl⟩ := List.mem_iff_getElem.mp ha
    rw [List.length_take] at hj
    rw [List.getElem_take]
    have h0 : ¬ i = 0 := by omega
    rw [if_neg h0, List.getD_eq_getElem?_getD, List.getElem?_eq_getElem (show i - 1 < l.length by omega)] at hS
    have hS : l[i - 1] + 1 = S := hS
    refine decide_eq_true ?_
    by_cases e : j = i - 1
    · subst e
      omega
    · have := hg j (i - 1) (by omega) (by omega) (by omega)
      omega
  have h2 : (l.drop i).filter (fun a => decide (a < S)) = [] := by
    refine List.filter_eq_nil_iff.mpr fun a ha => ?_
    obtain ⟨j, hj, rfl⟩ := List.mem_iff_getElem.mp ha
    rw [List.length_drop] at hj
    rw [List.getElem_drop, decide_eq_true_eq]
    by_cases h0 : i = 0
    · rw [if_pos h0] at hS
      omega
    · rw [if_neg h0, List.getD_eq_getElem?_getD, List.getElem?_eq_getElem (show i - 1 < l.length by omega)] at hS
      have hS : l[i - 1] + 1 = S := hS
      have := hg (i - 1) (i + j) (by omega) (by omega) (by omega)
      omega
  have e : l.filter (fun a => decide (a < S)) = (l.take i ++ l.drop i).filter (fun a => decide (a < S)) := by rw [List.take_append_drop]
  rw [e, List.filter_append, h1, h2, List.append_nil, List.length_take, Nat.min_eq_left hi]
/-- what comes next -/
theorem nxt_ok (X : Wlk w s.heap S es ep t) {i : Nat} (hi : i ≤ es.size) {Q : Option (Value × Nat) → Shared → Prop} (h1 : ∀ v, (wOrd w S es ep)[i]? = some v → Q (some (v, slotAt w t (i + 1))) s) (h2 : i = es.size → Q none s) :
    wpAny (model prog w) A (setNext S (slotAt w t i) i ep) Q E s := by
  obtain ⟨o, ho, hx, hd⟩ := X.ob
  rw [next_is]
  refine wpAny_bind (wpAny_setState_of ho hd X.fits ?_)
  dsimp only
  refine wpAny_bind (byText ?_)
  by_cases ht : w.params.followText "set-order" = true
  · rw [if_pos ht, if_neg (by simp)]
    unfold setWalk
    refine wpAny_bind (wpAny_bind (wpAny_setState_of ho hd X.fits ?_))
    dsimp only
    refine wpAny_bind (byText ?_)
    rw [if_pos ht]
    refine wpAny_bind (wpAny_askSetting (wpAny_pure (wpAny_pure ?_)))
    have e0 : ∀ j, slotAt w t j = 0 := fun j => by
      unfold slotAt
      rw [if_pos ht]
    have ew : wOrd w S es ep = (pickOrder (w.params.setOrder S ep) es).toList.map (·.2) := if_pos ht
    show Q (Option.map (fun e => (e.2, slotAt w t i)) (pickOrder (w.params.setOrder S ep) es)[i]?) s
    cases e : (pickOrder (w.params.setOrder S ep) es)[i]? with
    | none =>
      refine h2 ?_
      have hl := wOrd_len w S es ep
      rw [ew, List.length_map, Array.length_toList] at hl
      have := Array.getElem?_eq_none_iff.mp e
      omega
    | some p =>
      have := h1 p.2 (by rw [ew, List.getElem?_map, Array.getElem?_toList, e]; rfl)
      rw [e0] at this ⊢
      exact this
  · have ht' : w.params.followText "set-order" = false := by simpa using ht
    rw [if_neg ht, X.plain, if_neg (by simp)]
    unfold mbl
    have hl : t.led = true := by rw [X.led, ht']; rfl
    rw [hl]
    simp only [Bool.not_true, Bool.false_and, Bool.false_eq_true, if_false]
    refine wpAny_bind (wpAny_pure (wpAny_pure ?_))
    have es' : ∀ j, slotAt w t j = if j = 0 then 0 else t.place.toList.getD (j - 1) 0 + 1 := fun j => by
      unfold slotAt
      rw [if_neg ht]
    have eb : SetTable.below t.place (slotAt w t i) = i := by
      rw [es']
      have hl := X.len
      rw [Array.length_toList, Array.length_toList] at hl
      rw [below_rk X.ris]
      exact rk_at X.ris i (by rw [Array.length_toList]; omega)
    rw [eb]
    have ew : wOrd w S es ep = es.toList.map (·.2) := if_neg ht
    by_cases hlt : i < es.size
    · have hp : i < t.place.size := by
        have := X.len
        rw [Array.length_toList, Array.length_toList] at this
        omega
      rw [Array.getElem?_eq_getElem hlt, Array.getElem?_eq_getElem hp]
      have := h1 es[i].2 (by rw [ew, List.getElem?_map, Array.getElem?_toList, Array.getElem?_eq_getElem hlt]; rfl)
      rw [es' (i + 1), if_neg (Nat.succ_ne_zero i), Nat.add_sub_cancel, List.getD_eq_getElem?_getD, Array.getElem?_toList, Array.getElem?_eq_getElem hp] at this
      exact this
    · rw [Array.getElem?_eq_none (by omega)]
      exact h2 (by omega)
theorem next_item (X : Wlk w s.heap S es ep t) {i : Nat} (hI : s.heap.get? I = some (sitO (slotAt w t i) i S es.size ep)) (hi : i < es.size) {Q : Option Value → Shared → Prop}
    (h : ∀ v h', (wOrd w S es ep)[i]? = some v → h'.get? I = some (sitO (slotAt w t (i + 1)) (i + 1) S es.size ep) → Heap.SameBut I s.heap h' → Q (some v) { s with heap := h' }) :
    wpAny (model prog w) A (pyNext (.ref I)) Q E s := by
  have hT : s.TypeIs (.ref I) "set_iterator" := ⟨_, hI, rfl⟩
  obtain ⟨o, ho, hx, hd⟩ := X.ob
  unfold pyNext
  refine wpAny_bind (wpAny_attempt (wpAny_callSpecial?_slot (name := Str.ofString "__next__") hT slot_next (wpAny_call_entry slot_next hT entry_next ?_ (args_next _))))
  unfold Builtin.«set_iterator.__next__»
  refine wpAny_bind (wpAny_pure ?_)
  refine wpAny_bind (wpAny_fieldsOf hI rfl ?_)
  show wpAny _ _ (setEntries S >>= _) _ _ s
  unfold setEntries
  refine wpAny_bind (wpAny_bind (wpAny_setState_of ho hd X.fits (wpAny_pure ?_)))
  rw [if_neg (by simp)]
  show wpAny _ _ (setNext S (slotAt w t i) i ep >>= _) _ _ s
  refine wpAny_bind (nxt_ok X (Nat.le_of_lt hi) (fun v hv => ?_) fun e => by omega)
  show wpAny _ _ (setField (.ref I) 0 (rawInt (slotAt w t (i + 1))) >>= _) _ _ s
  refine wpAny_bind (wpAny_setField hI rfl (by simp) ?_)
  have g1 := Heap.get?_update_self (Obj.mapFields (·.setIfInBounds 0 (rawInt (slotAt w t (i + 1))))) hI rfl
  refine wpAny_bind (wpAny_setField g1 rfl (by simp) ?_)
  have g2 := Heap.get?_update_self (Obj.mapFields (·.setIfInBounds 1 (rawInt ((i : Int) + 1)))) g1 rfl
  refine wpAny_pure ⟨v, rfl, wpAny_pure (h v _ hv ?_ ((Heap.SameBut.update ..).trans (Heap.SameBut.update ..)))⟩
  exact g2
theorem next_end (hh : A.handled = none) (X : Wlk w s.heap S es ep t) {sl : Nat} (hsl : sl = slotAt w t es.size) (hI : s.heap.get? I = some (sitO sl es.size S es.size ep)) {Q : Option Value → Shared → Prop} (h : ∀ h', Heap.ExtBut I s.heap h' → Q none { s with heap := h' }) :
    wpAny (model prog w) A (pyNext (.ref I)) Q E s := by
  subst hsl
  have hT : s.TypeIs (.ref I) "set_iterator" := ⟨_, hI, rfl⟩
  obtain ⟨o, ho, hx, hd⟩ := X.ob
  unfold pyNext
  refine wpAny_bind (wpAny_attempt (wpAny_callSpecial?_slot (name := Str.ofString "__next__") hT slot_next (wpAny_call_entry slot_next hT entry_next ?_ (args_next _))))
  unfold Builtin.«set_iterator.__next__»
  refine wpAny_bind (wpAny_pure ?_)
  refine wpAny_bind (wpAny_fieldsOf hI rfl ?_)
  show wpAny _ _ (setEntries S >>= _) _ _ s
  unfold setEntries
  refine wpAny_bind (wpAny_bind (wpAny_setState_of ho hd X.fits (wpAny_pure ?_)))
  rw [if_neg (by simp)]
  show wpAny _ _ (setNext S (slotAt w t es.size) es.size ep >>= _) _ _ s
  refine wpAny_bind (nxt_ok X (Nat.le_refl _) (fun v hv => ?_) fun _ => ?_)
  · have := (List.getElem?_eq_some_iff.mp hv).1
    rw [wOrd_len] at this
    exact absurd this (Nat.lt_irrefl _)
  · show wpAny _ _ (setField (.ref I) 2 .none >>= _) _ _ s
    refine wpAny_bind (wpAny_setField hI rfl (by simp) ?_)
    show wpAny _ _ (newExc (.type "StopIteration") [] >>= _) _ _ _
    refine wpAny_bind ?_
    simp only [newExc, newTuple]
    refine wpAny_bind (wpAny_newObj_type (?_) (by size_fits))
    refine wpAny_bind (m := firstArgMember _ _) (wpAny_of_eq (a := Value.none) (by rfl) ?_)
    refine wpAny_newObj_type (?_) (by size_fits)
    simp only [raiseNew]
    refine wpAny_bind (wpAny_handled (?_))
    rw [show A.in1.handled = none from (hh)]
    refine wpAny_bind (wpAny_pure (wpAny_throw (?_)))
    refine wpAny_bind (wpAny_isInstance (T := "StopIteration") (b := true) (And.intro (Heap.get?_push_size _ rfl) rfl |> fun z => ⟨_, z.1, z.2⟩) isSubtype_stop ?_)
    exact wpAny_pure (h _ (((Heap.SameBut.update _ _ _).extBut.push _).push _))
theorem walk_set (hh : A.handled = none) (hne : S ≠ I) : Walks prog w A I [I, S] [I] es.size (fun i v => (wOrd w S es ep)[i]? = some v) (fun i h => h.get? I = some (sitO (slotAt w t i) i S es.size ep) ∧ Wlk w h S es ep t) where
  sub := fun b hb => List.mem_cons.mpr (.inl (List.mem_singleton.mp hb))
  frame := fun _ _ _ st hk => ⟨hk I (by simp) _ st.1, st.2.keep fun o e => hk S (by simp) o e⟩
  item := fun i s Q E hi st hQ => next_item st.2 st.1 hi fun v h' hv hI hs => hQ v h' s.toks hv ⟨hI, st.2.keep fun o e => hs.extBut S o hne e⟩ fun b o hb e => hs.extBut b o (fun z => hb (List.mem_singleton.mpr z)) e
  done := fun s Q E st hQ => next_end hh st.2 rfl st.1 fun h' he => hQ h' s.toks fun b o hb e => he b o (fun z => hb (List.mem_singleton.mpr z)) e
  self := fun i s Q E st hQ => by
    have hT : s.TypeIs (.ref I) "set_iterator" := ⟨_, st.1, rfl⟩
    refine wpAny_pyIter_slot hT slot_self (wpAny_call_entry slot_self hT entry_self ?_ (args_self _))
    show wpAny _ _ (ret (.ref I)) _ _ s
    exact wpAny_pure ⟨_, rfl, "set_iterator", _, hT, slot_next.lookup, hQ⟩
theorem hint_set (hT : s.TypeIs (.ref S) "set") {Q : Bool → Shared → Prop} (h : Q false s) : wpAny (model prog w) A (Builtin.List.listLengthHint (.ref S)) Q E s := by
  unfold Builtin.List.listLengthHint
  refine wpAny_bind (wpAny_specialOf hT F.slot_set_len.lookup ?_)
  generalize hid : ("set.__len__" : String) = id0
  wp_delta
  rw [show splitId id0 = some ("set", "__len__") from by subst hid; decide +kernel]
  subst hid
  refine wpAny_bind (wpAny_isInstance (T := "set") (b := true) hT (by rw [isSubtype_type]; kernel_rfl) ?_)
  refine wpAny_ite_split (fun q => absurd q (by decide)) fun _ => wpAny_ite_split (fun _ => ?_) fun q => absurd (by decide +kernel) q
  exact wpAny_bind (wpAny_typeOf hT (wpAny_pure h))
/-- a set as what is gone through -/
theorem src_set : PySem.W.KdlSrc prog w "set" S S es.size (fun i v => (wOrd w S es ep)[i]? = some v) (fun h => Wlk w h S es ep t) where
  type := fun s X => let ⟨o, ho, hx, _⟩ := X.ob; ⟨o, ho, hx.1⟩
  there := fun h X => let ⟨o, ho, _⟩ := X.ob; ⟨Heap.lt_size ho, Heap.lt_size ho⟩
  keep := fun h h' X k => X.keep fun o e => k S (.inl rfl) o e
  notList := by decide
  notTuple := by decide
  hint := fun A E s Q X h => let ⟨o, ho, hx, _⟩ := X.ob; hint_set ⟨o, ho, hx.1⟩ h
  iter := fun A s hh X => ⟨sitO 0 0 S es.size ep, _, fun E Q h => iter_set X h, walk_set hh (let ⟨_, ho, _⟩ := X.ob; Nat.ne_of_lt (Heap.lt_size ho)), by
    refine ⟨?_, X.keep fun o e => Heap.get?_push_of_some _ e⟩
    have e : slotAt w t 0 = 0 := by
      unfold slotAt
      split <;> rfl
    rw [e]
    exact Heap.get?_push_size _ rfl⟩
end
end Ht

set_option Elab.async false
set_option maxRecDepth 100000
namespace Ht
open PySem PySem.SetTable PySem.Spec PyProof.Rows PyProof.Rows.G PySem.W
/-! ### sorted(a set of tuples of whole numbers) -/
def shp : Nat → Bool := fun _ => false
/-- a tuple of these whole numbers -/
def TupI (h : Heap) (q : List Int × Addr) : Prop := q.1 ≠ [] ∧ ∃ o items n, h.get? q.2 = some o ∧ o.cls = .type "tuple" ∧ o.data = .seq items n ∧ IntsAre items.toList q.1
theorem tup_items : ∀ {vs : List Value} {ns : List Int} (i : Nat), IntsAre vs ns → tupItems shp i vs = some (ns.map Sum.inl)
  | _, _, _, .nil => rfl
  | _, _, i, .cons n t r => by
    show (if shp i = true then none else (tupItems shp (i + 1) _).map (Sum.inl n :: ·)) = _
    rw [if_neg (by show ¬ false = true; decide), tup_items (i + 1) r]
    rfl
theorem tup_key {h : Heap} {q : List Int × Addr} (x : TupI h q) : tupKeyC h shp (.ref q.2) = some (q.1.map Sum.inl) := by
  obtain ⟨_, o, items, n, ho, hc, hd, hi⟩ := x
  have e1 : isTupObj h (.ref q.2) = true := by simp [isTupObj, ho, hc]
  have e2 : tupKey h shp (.ref q.2) = tupItems shp 0 items.toList := by simp only [tupKey, ho, hd]
  unfold tupKeyC
  rw [if_pos e1, e2]
  exact tup_items 0 hi
theorem tups_of {h : Heap} : ∀ {qs : List (List Int × Addr)}, (∀ q, q ∈ qs → TupI h q) → ∃ fs, TupsOf h shp (qs.map fun q => Value.ref q.2) fs
  | [], _ => ⟨[], .nil⟩
  | q :: qs, x => by
    obtain ⟨fs, r⟩ := tups_of (qs := qs) fun p hp => x p (List.mem_cons_of_mem _ hp)
    obtain ⟨hne, o, items, n, ho, hc, hd, hi⟩ := x q (List.mem_cons_self ..)
    cases hns : q.1 with
    | nil => exact absurd hns hne
    | cons k ks =>
      rw [hns] at hi
      cases hit : items.toList with
      | nil =>
        rw [hit] at hi
        cases hi
      | cons v vs =>
        rw [hit] at hi
        have hv : ∃ t, v = Value.int k t := by
          cases hi with
          | cons _ t _ => exact ⟨t, rfl⟩
        obtain ⟨t, rfl⟩ := hv
        refine ⟨.int k t :: fs, .cons ⟨q.2, o, items, n, rfl, ho, hc, hd, ?_, fun _ => ⟨k, t, rfl⟩, fun e => absurd e (by decide)⟩ r⟩
        rw [← Array.getElem?_toList, hit]
        rfl
theorem TupI.keep {h h' : Heap} {q : List Int × Addr} (x : TupI h q) (k : ∀ b o, h.get? b = some o → h'.get? b = some o) : TupI h' q :=
  let ⟨a, o, items, n, ho, r⟩ := x; ⟨a, o, items, n, k _ _ ho, r⟩
theorem zip_twice {α β : Type} (f : α → β) : ∀ l : List α, (l.map f).zip (l.map f) = l.map fun q => (f q, f q)
  | [] => rfl
  | a :: l => by
    rw [List.map_cons, List.zip_cons_cons, zip_twice f l]
    rfl
theorem sorted_out' {h : Heap} {qs : List (List Int × Addr)} (x : ∀ q, q ∈ qs → TupI h q) {arr : Array Keyed} (hp : arr.Perm (pairsOf (qs.map fun q => Value.ref q.2))) (hs : SortedToK (tupKindC h shp) arr (pairsOf (qs.map fun q => Value.ref q.2)).size) :
    ∃ qs' : List (List Int × Addr), qs'.Perm qs ∧ (arr.map (·.2)).toList = qs'.map (fun q => Value.ref q.2) ∧ qs'.Pairwise fun p q => lexLt itemOrd (q.1.map Sum.inl) (p.1.map Sum.inl) = false := by
  have e1 : (pairsOf (qs.map fun q => Value.ref q.2)).toList = qs.map fun q => ((Value.ref q.2, Value.ref q.2) : Keyed) := by
    rw [pairsOf_toList, zip_twice]
  have p1 : arr.toList.Perm (qs.map fun q => ((Value.ref q.2, Value.ref q.2) : Keyed)) := by
    rw [← e1]
    exact Array.perm_iff_toList_perm.mp hp
  obtain ⟨qs', pq, eq⟩ := perm_back (fun q : List Int × Addr => ((Value.ref q.2, Value.ref q.2) : Keyed)) p1 qs rfl
  have hsz : (pairsOf (qs.map fun q => Value.ref q.2)).size = qs'.length := by rw [pairsOf_size, List.length_map, pq.length_eq]
  refine ⟨qs', pq, ?_, ?_⟩
  · rw [Array.toList_map, eq, List.map_map]
    rfl
  · rw [List.pairwise_iff_getElem]
    intro i j hi hj hij
    have kk : ∀ m (hm : m < qs'.length), KK (tupKindC h shp) arr m = qs'[m].1.map Sum.inl := fun m hm => by
      have ea : arr[m]? = some ((Value.ref qs'[m].2, Value.ref qs'[m].2) : Keyed) := by
        rw [← Array.getElem?_toList, eq, List.getElem?_map, List.getElem?_eq_getElem hm]
        rfl
      unfold KK
      rw [ea]
      show (tupKeyC h shp (.ref qs'[m].2)).getD [] = _
      rw [tup_key (x _ (pq.mem_iff.mp (List.getElem_mem hm)))]
      rfl
    have := hs i j (Nat.le_of_lt hij) (by rw [hsz]; exact hj)
    rw [kk i hi, kk j hj] at this
    exact this
section
variable {prog : Program} {w : World} {A : Around} {E : Value → Shared → Prop} {s : Shared} {S : Addr} {es : Array (Int × Value)} {ep : Nat} {t : SetTable}
theorem sorted_set (X : Wlk w s.heap S es ep t) (hh : A.handled = none) {qs : List (List Int × Addr)} (he : es.toList.map (·.2) = qs.map fun q => Value.ref q.2) (hq : ∀ q, q ∈ qs → TupI s.heap q) (hn : qs.length ≤ 1000) {Q : Value → Shared → Prop}
    (h : ∀ (h1 h' : Heap) (tk : Nat) (qs' : List (List Int × Addr)) (e : Nat), (∀ b o, s.heap.get? b = some o → h1.get? b = some o) → (∀ b o, h1.get? b = some o → h'.get? b = some o) → h'.get? h1.objs.size = some (seqObj "list" (qs'.map fun q => Value.ref q.2).toArray e) → qs'.Perm qs →
      (qs'.Pairwise fun p q => lexLt itemOrd (q.1.map Sum.inl) (p.1.map Sum.inl) = false) → Q (.ref h1.objs.size) { s with heap := h', toks := tk }) :
    wpAny (model prog w) A (call (.builtin "sorted") [.ref S]) Q E s := by
  have hz : es.size = qs.length := by
    have := congrArg List.length he
    simpa using this
  have hL : es.size ≤ sizeLine := by rw [sizeLine_eq]; omega
  refine (Calls.call_function_entry kind_sorted plain_sorted entry_sorted (args_sorted1 _) (?_))
  unfold Builtin.«sorted»
  refine wpAny_bind (m := checkCount "sorted" 1 1 _) (wpAny_pure (wpAny_bind (kdu_collect (A := A.in1) src_set hh X hL fun h' tk acc hk hacc => ?_)))
  have ea : acc.toList = wOrd w S es ep := by
    refine List.ext_getElem? fun i => ?_
    by_cases hi : i < es.size
    · have hi2 : i < acc.size := by rw [hacc.1]; exact hi
      have hi3 : i < acc.toList.length := by rw [Array.length_toList]; exact hi2
      rw [hacc.2 i acc[i] (Array.getElem?_eq_getElem hi2), List.getElem?_eq_getElem hi3]
      rfl
    · rw [List.getElem?_eq_none (by rw [Array.length_toList, hacc.1]; omega), List.getElem?_eq_none (by rw [wOrd_len]; omega)]
  have p0 : acc.toList.Perm (es.toList.map (·.2)) := by
    rw [ea]
    exact wOrd_perm w S es ep
  obtain ⟨qs1, p1, e1⟩ := perm_back (fun q : List Int × Addr => Value.ref q.2) p0 qs he
  have hl1 : acc.toList.length ≤ sizeLine := by rw [Array.length_toList, hacc.1]; exact hL
  refine wpAny_bind (wpAny_newList (?_) (hl1))
  have ho : (h'.push (seqObj "list" acc.toList.toArray 0)).get? h'.objs.size = some (seqObj "list" acc.toList.toArray 0) := Heap.get?_push_size _ rfl
  have hq1 : ∀ q, q ∈ qs1 → TupI (h'.push (seqObj "list" acc.toList.toArray 0)) q := fun q hm => (hq q (p1.mem_iff.mp hm)).keep fun b o e => Heap.get?_push_of_some _ (hk b o e)
  obtain ⟨fs, TS⟩ := tups_of hq1
  rw [← e1] at TS
  refine wpAny_bind (wpAny_holding (wpAny_call_entry slot_list_sort ⟨_, ho, rfl⟩ entry_list_sort (list_sort_tups (s := { s with heap := h'.push (seqObj "list" acc.toList.toArray 0), toks := tk }) ho TS (fun v hv => ?_) hl1 fun st' hp hs _ => ⟨_, rfl, ?_⟩) (args_list_sort _)))
  · rw [e1] at hv
    obtain ⟨q, hm, rfl⟩ := List.mem_map.mp hv
    exact ⟨_, tup_key (hq1 q hm)⟩
  · have hp' := hp
    have hs' : SortedToK (tupKindC (h'.push (seqObj "list" acc.toList.toArray 0)) shp) (arrOf st') (pairsOf acc.toList).size := hs
    rw [congrArg pairsOf e1] at hp' hs'
    obtain ⟨qs', pq, eo, so⟩ := sorted_out' hq1 hp' hs'
    obtain ⟨ee, at_⟩ := sortedHeap_at (vs := acc.toList) (out := (arrOf st').map (·.2)) ho
    have eo' : (arrOf st').map (·.2) = (qs'.map fun q => Value.ref q.2).toArray := Array.ext' (by rw [eo])
    refine wpAny_pure ⟨_, rfl, h h' _ tk qs' ee hk (fun b o h1 => ?_) ?_ (pq.trans p1) so⟩
    · have hlt : b < h'.objs.size := Heap.lt_size h1
      rw [sortedHeap_old (Nat.ne_of_lt hlt) (by rw [size_push']; exact Nat.lt_succ_of_lt hlt)]
      exact Heap.get?_push_of_some _ h1
    · rw [← eo']
      exact at_
end
end Ht

end
namespace L2
open PySem PySem.Spec PyProof.Rows
/-! ### rules that the layer lacks: sets of tuples, any over ints, a comprehension over a range with a step -/
def setN (a : Addr) (n : Nat) : HO := .ext fun h => ∃ o es ep t, h.get? a = some o ∧ Obj.ExactSet o ∧ o.data = .set es ep t ∧ t.fits es.size = true ∧ es.size = n
section
variable {X : Cx}
theorem keyed {P : Program} {w : World} {H : Hp} {h : Heap} {a : Addr} {ks : List Key} (hok : HOk P w H h) (e : H a = some (.tup (ks.map kV))) : IsTupleKey (mixKind P w) h ks a := key_of hok e
theorem refs_vals : ∀ {ps : List Addr} {us : List Value}, Vals (ps.map V.ref) us → us = ps.map Value.ref
  | [], us, h => by
    cases h
    rfl
  | p :: ps, us, h => by
    cases h with
    | cons r t =>
      cases r
      rw [refs_vals t]
      rfl
theorem call_setT (hc : X.calm = true) (hu : X.A.units + 64 < cLine) : CallR X (.type "set") (fun xs H Q => ∃ (a : Addr) (prs : List (List Key × Addr)), xs = [.ref a] ∧ SqL X.K H a ((prs.map (·.2)).map V.ref) ∧ (∀ q, q ∈ prs → H q.2 = some (.tup (q.1.map kV))) ∧ prs.length ≤ 100 ∧
    ∀ l, H l = none → Q (.ref l) (upd H l (setN l (Ht.ded [] (prs.map (·.1))).length))) := by
  intro pins s σ H xs us Q I r h
  obtain ⟨a, prs, rfl, hq, hk, hn, q⟩ := h
  obtain ⟨u, rfl, rx⟩ := vals1 r
  cases rx
  obtain ⟨its, rv, pl, hz⟩ := I.list hq
  have ei : its.toArray.toList = prs.map fun q => Value.ref q.2 := by
    rw [refs_vals rv, List.map_map]
    rfl
  refine Ht.call_set_tup (knd := mixKind X.prog X.w) (I.ok.hd hc) hu pl.isList ei (fun q hq => keyed I.hok (hk q hq)) hn fun h' tk hS kp => ?_
  obtain ⟨nd, o, es, ep, t, kb, Y, pm, _⟩ := hS
  have hsz : es.size = (Ht.ded [] (prs.map (·.1))).length := by
    rw [Y.size, ← pm.length_eq, List.length_map]
  have kp' : ∀ b o', s.heap.get? b = some o' → h'.get? b = some o' := fun b o' e => kp b o' (Heap.lt_size e) e
  refine ⟨.ref s.heap.objs.size, _, I.laid (t' := tk) kp' (Nat.le_refl _) (show ObjOk X.prog X.w _ h' _ (setN s.heap.objs.size (Ht.ded [] (prs.map (·.1))).length) from ?_), rfl, q _ (I.hok.fresh (Nat.le_refl _))⟩
  refine ⟨⟨o, es, ep, t, Y.ob, Y.ex, Y.dt, Y.fits, hsz⟩, ⟨o, Y.ob⟩, fun h1 h2 ⟨o1, es1, ep1, t1, e1, r1⟩ k => ⟨o1, es1, ep1, t1, k o1 e1, r1⟩⟩
theorem call_lenS : CallR X (.builtin "len") (fun xs H Q => ∃ (a : Addr) (n : Nat), xs = [.ref a] ∧ H a = some (setN a n) ∧ n ≤ 1000 ∧ Q (.int n) H) := by
  intro pins s σ H xs us Q I r h
  obtain ⟨a, n, rfl, hq, hn, q⟩ := h
  obtain ⟨u, rfl, rx⟩ := vals1 r
  cases rx
  obtain ⟨⟨o, es, ep, t, ho, hx, hd, hf, hs⟩, _⟩ := (show ObjOk X.prog X.w H s.heap a (setN a n) from I.hok _ _ hq)
  subst hs
  exact call_len_set ho hx hd hf (by omega) ⟨.int es.size, H, I.tok _, ⟨_, rfl⟩, q⟩
def rTup (K : PySem.W.Frag) : List V → Hp → VK → Prop := fun xs H Q => ∃ p ys, xs = [.ref p] ∧ ((SqL K H p ys ∧ ∀ l, H l = none → Q (.ref l) (upd H l (.tup ys))) ∨ (SqT K H p ys ∧ Q (.ref p) H))
theorem call_tupK : CallR X (.type "tuple") (rTup X.K) := call_tuple_of
theorem truth_ints {prog : Program} {w : World} {A : Around} {ns : List Int} {its : List Value} (e : IntsAre its ns) :
    TruthOf prog w A (fun i v => its.toArray[i]? = some v) (fun i => ns.getD i 0 != 0) := fun i v s Q E hv hq => by
  obtain ⟨t, rfl⟩ := IntsAre.int_at e i v (by simpa using hv)
  exact PyProof.Rows.truthy_int hq
theorem any_rangeI : ∀ ns : List Int, (List.range ns.length).any (fun i => ns.getD i 0 != 0) = ns.any fun a => a != 0
  | [] => rfl
  | b :: bs => by
    rw [List.length_cons, List.range_succ_eq_map, List.any_cons, List.any_map, List.any_cons, ← any_rangeI bs]
    rfl
theorem cr_anyI (hc : X.calm = true) : CallR X (.builtin "any") (fun vs H Q => ∃ (a : Addr) (ns : List Int), vs = [V.ref a] ∧ SqL X.K H a (ns.map V.int) ∧ Q (.bl (ns.any fun a => a != 0)) H) := by
  intro pins s σ H vs us Q I r h
  obtain ⟨a, ns, rfl, hs, q⟩ := h
  obtain ⟨its, rv, hl, _⟩ := I.list hs
  rw [Vals.ref1 r]
  have hb := rv.ints
  have hlen := rv.length
  rw [List.length_map] at hlen
  refine call_any_walk (iter_any hl.isList fun s2 e2 st hne => ?_)
  subst e2
  refine ⟨_, _, _, _, _, _, _, rfl, Walks.list (A := X.A.in1) (I.ok.hd hc) _ a hne its.toArray, st, truth_ints hb, fun h' tk hk => ?_⟩
  refine ⟨.bl (ns.any fun a => a != 0), H, I.kept fun b o eo => hk b o (fun hmem => ?_) (Heap.get?_push_of_some _ eo), ?_, q⟩
  · exact absurd (List.mem_singleton.mp hmem ▸ Heap.lt_size eo) (Nat.lt_irrefl _)
  · show Value.bool _ = Value.bool _
    rw [← any_rangeI, List.size_toArray, hlen]
end
theorem RgC.four (k : Nat) (hk : k ≤ 1000) : RgC 1 ((4 * k + 1 : Nat) : Int) 4 k := by
  have e : Builtin.Range.rangeSize 1 ((4 * k + 1 : Nat) : Int) 4 = (k : Int) := by
    unfold Builtin.Range.rangeSize
    rw [if_pos (by decide)]
    by_cases h : (1 : Int) < ((4 * k + 1 : Nat) : Int)
    · rw [if_pos h]
      omega
    · rw [if_neg h]
      omega
  refine ⟨by decide, by decide, ?_, e⟩
  unfold Builtin.Range.small
  rw [e]
  have fl : ∀ z : Int, -5000 ≤ z → z ≤ 5000 → Builtin.Range.rangeFitsLong z = true := fun z h1 h2 => by
    unfold Builtin.Range.rangeFitsLong
    have e : (2 : Int) ^ 63 = 9223372036854775808 := by decide
    rw [e, Bool.and_eq_true]
    exact ⟨decide_eq_true (by omega), decide_eq_true (by omega)⟩
  rw [fl 1 (by decide) (by decide), fl _ (by omega) (by omega), fl 4 (by decide) (by decide), fl (k : Int) (by omega) (by omega), if_pos (show (4 : Int) > 0 by decide), fl _ (by omega) (by omega)]
  simp
/-- a comprehension over a range with a step -/
theorem lc_rangeC {lo c : Int} {n : Nat} {g : TG} {tt : TT} {te : TE} {vs : List Nat} {σ : St} {H1 : Hp} {D : Addr} {Qd : Hp → Prop} (Pv : Nat → Hp → Prop) (h0 : Pv 0 (upd H1 D (.lst [])))
    (hs : ∀ i H, i < n → Pv i H → g (.int (lo + (i : Nat) * c)) (wipe σ vs) H fun σ2 H2 => wipe σ2 vs = wipe σ vs ∧ tt σ2 H2 fun b H3 => if b = true then te σ2 H3 fun y H4 => ∃ acc, H4 D = some (.lst acc) ∧ acc.length < sizeLine ∧ Pv (i + 1) (upd H4 D (.lst (acc ++ [y]))) else Pv (i + 1) H3)
    (hd : ∀ H, Pv n H → Qd H) :
    ∃ W : Nat → Nat → Hp → Prop, (∃ m, W 0 m (upd H1 D (.lst []))) ∧ ∀ i m H, W i m H → ((Itc lo c n).stop i H ∧ Qd H) ∨ ((Itc lo c n).go i H ∧ ∃ Nx : Hp → Prop, (∀ H', Nx H' → ∃ m', m' < m ∧ W (i + 1) m' H') ∧ ∀ x H', (Itc lo c n).yld i H x H' →
      g x (wipe σ vs) H' fun σ2 H2 => wipe σ2 vs = wipe σ vs ∧ tt σ2 H2 fun b H3 => if b = true then te σ2 H3 fun y H4 => ∃ acc, H4 D = some (.lst acc) ∧ acc.length < sizeLine ∧ Nx (upd H4 D (.lst (acc ++ [y]))) else Nx H3) := by
  refine ⟨fun i m H => m = n - i ∧ i ≤ n ∧ Pv i H, ⟨n, by simp, Nat.zero_le _, h0⟩, ?_⟩
  rintro i m H ⟨rfl, hi, p⟩
  by_cases hlt : i < n
  · refine .inr ⟨hlt, Pv (i + 1), fun H' p' => ⟨n - (i + 1), by omega, rfl, hlt, p'⟩, fun x H' y => ?_⟩
    obtain ⟨e, y⟩ := y
    subst e y
    exact hs i _ hlt p
  · obtain rfl : i = n := by omega
    exact .inl ⟨Nat.le_refl _, hd H p⟩
/-! ### whole numbers of any size that is met -/
abbrev Bt (k : Nat) (a : Int) : Prop := PySem.Builtin.Int.intBits a ≤ k
def CMulB (i j : Int) : Prop := ∃ m n : Nat, Bt m i ∧ Bt n j ∧ m + n ≤ 134217728
theorem op_mulB {X : Cx} : OpR X (binaryOp .Mult) (rI CMulB fun i j => .int (i * j)) := opI fun _ _ _ _ _ _ _ ⟨_, _, h1, h2, h3⟩ q => mul_int q (PyProof.Rows.mulOk_of_bits h1 h2 h3)
theorem log_of {j : Int} {k : Nat} (h : Bt k j) (h0 : 0 < j) : j.natAbs.log2 < k := by
  have e : PySem.Builtin.Int.intBits j = j.natAbs.log2 + 1 := by
    unfold PySem.Builtin.Int.intBits
    rw [if_neg (by simp; omega)]
  have : PySem.Builtin.Int.intBits j ≤ k := h
  omega
theorem op_fdivB {X : Cx} : OpR X (binaryOp .FloorDiv) (rI (fun _ j => 0 < j ∧ Bt 9000 j) fun i j => .int (i / j)) := opI fun i j _ _ _ _ _ hc q =>
  floordiv_int (by have := hc.1; omega) (by rw [Int.fdiv_eq_ediv_of_nonneg i (by have := hc.1; omega)]; exact q) (.inl (PyProof.noPylong_of_log2 (log_of hc.2 hc.1)))
end L2
namespace L2
open PySem PySem.Spec PyProof.Rows
/-! ### sets of tuples of whole numbers, sorted -/
def setK (w : World) (a : Addr) (kb : List (List Int × Addr)) : HO := .ext fun h => ∃ es ep t, Ht.Wlk w h a es ep t ∧ es.toList.map (·.2) = kb.map fun q => Value.ref q.2
theorem ded_mem {κ : Type} [DecidableEq κ] : ∀ (l S : List (List κ)) (k : List κ), k ∈ Ht.ded S l ↔ k ∈ S ∨ k ∈ l
  | [], S, k => by
    show k ∈ S ↔ _
    simp
  | x :: l, S, k => by
    show k ∈ Ht.ded (if x ∈ S then S else x :: S) l ↔ _
    rw [ded_mem l _ k, List.mem_cons]
    by_cases hx : x ∈ S
    · rw [if_pos hx]
      constructor
      · rintro (h | h)
        · exact .inl h
        · exact .inr (.inr h)
      · rintro (h | rfl | h)
        · exact .inl h
        · exact .inl hx
        · exact .inr h
    · rw [if_neg hx, List.mem_cons]
      constructor
      · rintro ((h | h) | h)
        · exact .inr (.inl h)
        · exact .inl h
        · exact .inr (.inr h)
      · rintro (h | h | h)
        · exact .inl (.inr h)
        · exact .inl (.inl h)
        · exact .inr h
theorem from_map {α β : Type} (f : α → β) (l : List α) : ∀ kb : List β, (∀ q, q ∈ kb → q ∈ l.map f) → ∃ kb' : List α, kb = kb'.map f ∧ ∀ q, q ∈ kb' → q ∈ l
  | [], _ => ⟨[], rfl, fun q h => by cases h⟩
  | x :: kb, h => by
    obtain ⟨kb', e, m⟩ := from_map f l kb fun q hq => h q (List.mem_cons_of_mem _ hq)
    obtain ⟨a, ha, ea⟩ := List.mem_map.mp (h x (List.mem_cons_self ..))
    refine ⟨a :: kb', by rw [List.map_cons, ea, e], fun q hq => ?_⟩
    rcases List.mem_cons.mp hq with r | r
    · rw [r]
      exact ha
    · exact m q r
theorem inl_inj : ∀ {x y : List Int}, x.map (Sum.inl : Int → Key) = y.map Sum.inl → x = y := fun {x y} e => (List.map_inj_right (fun a b q => Sum.inl.inj q)).mp e
section
variable {X : Cx}
theorem io_ints (P : Program) (w : World) (ns : List Int) : Ht.IO (mixKind P w) (ns.map (Sum.inl : Int → Key)) := by
  intro k hk v hv
  obtain ⟨n, _, rfl⟩ := List.mem_map.mp hk
  cases v with
  | int m t => exact ⟨m, t, rfl⟩
  | _ => exact absurd hv (by intro z; first | cases z | (simp [mixKind] at z))
theorem call_setK (hc : X.calm = true) (hu : X.A.units + 64 < cLine) : CallR X (.type "set") (fun xs H Q => ∃ (a : Addr) (prs : List (List Int × Addr)), xs = [.ref a] ∧ SqL X.K H a ((prs.map (·.2)).map V.ref) ∧ (∀ q, q ∈ prs → H q.2 = some (.tup (q.1.map V.int))) ∧ prs.length ≤ 100 ∧
    ∀ (l : Addr) (kb : List (List Int × Addr)), H l = none → (∀ q, q ∈ kb → q ∈ prs) → (kb.map (·.1)).Nodup → (∀ q, q ∈ prs → q.1 ∈ kb.map (·.1)) → Q (.ref l) (upd H l (setK X.w l kb))) := by
  intro pins s σ H xs us Q I r h
  obtain ⟨a, prs, rfl, hq, hk, hn, q⟩ := h
  obtain ⟨u, rfl, rx⟩ := vals1 r
  cases rx
  obtain ⟨its, rv, pl, hz⟩ := I.list hq
  have ei : its.toArray.toList = (prs.map fun q => (q.1.map (Sum.inl : Int → Key), q.2)).map fun q => Value.ref q.2 := by
    rw [refs_vals rv, List.map_map, List.map_map]
    rfl
  refine Ht.call_set_tup (knd := mixKind X.prog X.w) (prs := prs.map fun q => (q.1.map (Sum.inl : Int → Key), q.2)) (I.ok.hd hc) hu pl.isList ei (fun q hq => ?_) (by rw [List.length_map]; exact hn) fun h' tk hS kp => ?_
  · obtain ⟨p, hp, rfl⟩ := List.mem_map.mp hq
    refine keyed I.hok ?_
    rw [hk p hp, List.map_map]
    rfl
  · obtain ⟨nd, o, es, ep, t, kb0, Y, pm, mm⟩ := hS
    obtain ⟨kb, rfl, km⟩ := from_map _ prs kb0 mm
    have kp' : ∀ b o', s.heap.get? b = some o' → h'.get? b = some o' := fun b o' e => kp b o' (Heap.lt_size e) e
    have W : Ht.Wlk X.w h' s.heap.objs.size es ep t := ⟨⟨o, Y.ob, Y.ex, Y.dt⟩, Y.fits, Y.ldd, Y.pln fun q hq => by
      obtain ⟨p, _, rfl⟩ := List.mem_map.mp hq
      exact io_ints _ _ _, Y.tab.len, Y.tab.ris⟩
    have ee : es.toList.map (·.2) = kb.map fun q => Value.ref q.2 := by
      rw [Y.ent, List.map_map, List.map_map]
      rfl
    have e1 : ((kb.map fun q => (q.1.map (Sum.inl : Int → Key), q.2)).map (·.1)) = (kb.map (·.1)).map fun x => x.map (Sum.inl : Int → Key) := by
      rw [List.map_map, List.map_map]
      rfl
    refine ⟨.ref s.heap.objs.size, _, I.laid (t' := tk) kp' (Nat.le_refl _) (show ObjOk X.prog X.w _ h' _ (setK X.w s.heap.objs.size kb) from ?_), rfl, q _ kb (I.hok.fresh (Nat.le_refl _)) km ?_ ?_⟩
    · refine ⟨⟨es, ep, t, W, ee⟩, ⟨o, Y.ob⟩, fun h1 h2 ⟨es1, ep1, t1, W1, e1⟩ k => ⟨es1, ep1, t1, W1.keep fun o ho => k o ho, e1⟩⟩
    · have n1 := pm.nodup_iff.mpr nd
      rw [e1] at n1
      exact List.Pairwise.imp (fun {x y} z e => z (by rw [e])) (List.pairwise_map.mp n1)
    · intro p hp
      have m1 : p.1.map (Sum.inl : Int → Key) ∈ Ht.ded [] ((prs.map fun q => (q.1.map (Sum.inl : Int → Key), q.2)).map (·.1)) := (ded_mem _ _ _).mpr (.inr (List.mem_map.mpr ⟨_, List.mem_map.mpr ⟨p, hp, rfl⟩, rfl⟩))
      have m2 := pm.mem_iff.mpr m1
      rw [e1] at m2
      obtain ⟨x, hx, ex⟩ := List.mem_map.mp m2
      rw [← inl_inj ex]
      exact hx
theorem tup_of {P : Program} {w : World} {H : Hp} {h : Heap} {q : List Int × Addr} (hok : HOk P w H h) (e : H q.2 = some (.tup (q.1.map V.int))) (hne : q.1 ≠ []) : Ht.TupI h q := by
  obtain ⟨_, its, rv, o, ho, hc, n, hd⟩ := (show ObjOk P w H h q.2 (.tup (q.1.map V.int)) from hok _ _ e)
  exact ⟨hne, o, its.toArray, n, ho, hc, hd, rv.ints⟩
theorem cr_sortedK (hc : X.calm = true) : CallR X (.builtin "sorted") (fun xs H Q => ∃ (l : Addr) (kb : List (List Int × Addr)), xs = [.ref l] ∧ H l = some (setK X.w l kb) ∧ (∀ q, q ∈ kb → H q.2 = some (.tup (q.1.map V.int)) ∧ q.1 ≠ []) ∧ kb.length ≤ 1000 ∧
    ∀ (D : Addr) (kb' : List (List Int × Addr)), H D = none → kb'.Perm kb → (kb'.Pairwise fun p q => PyProof.Rows.lexLt PyProof.Rows.itemOrd (q.1.map Sum.inl) (p.1.map Sum.inl) = false) → Q (.ref D) (upd H D (.lst (kb'.map fun q => V.ref q.2)))) := by
  intro pins s σ H xs us Q I r h
  obtain ⟨l, kb, rfl, hl, hk, hn, q⟩ := h
  rw [Vals.ref1 r]
  obtain ⟨⟨es, ep, t, W, ee⟩, _⟩ := (show ObjOk X.prog X.w H s.heap l (setK X.w l kb) from I.hok _ _ hl)
  refine Ht.sorted_set W (I.ok.hd hc) ee (fun q hq => tup_of I.hok (hk q hq).1 (hk q hq).2) hn fun h1 h' tk kb' e k1 k2 hD pm so => ?_
  have I1 := I.kept (h' := h1) (t' := tk) k1
  have hlen : (kb'.map fun q => V.ref q.2).length ≤ sizeLine := by rw [List.length_map, pm.length_eq, sizeLine_eq]; omega
  have vr : ∀ l : List (List Int × Addr), Vals (l.map fun q => V.ref q.2) (l.map fun q => Value.ref q.2) := fun l => by
    induction l with
    | nil => exact .nil
    | cons a l ih => exact .cons rfl ih
  have I2 := I1.laid (h' := h') (t' := tk) (a := h1.objs.size) (o := .lst (kb'.map fun q => V.ref q.2)) k2 (Nat.le_refl _) ⟨hlen, _, e, vr kb', hD⟩
  exact ⟨.ref h1.objs.size, _, I2, rfl, q _ kb' (I1.hok.fresh (Nat.le_refl _)) pm so⟩
/-- xs.extend(a tuple) -/
theorem mt_extendT : MtM X "list.extend" (fun x vs H Q => ∃ l b xs zs, x = .ref l ∧ vs = [.ref b] ∧ H l = some (.lst xs) ∧ H b = some (.tup zs) ∧ xs.length + zs.length ≤ sizeLine ∧ Q .non (upd H l (.lst (xs ++ zs)))) := by
  intro pins s σ H x vs v us Q I rx rv h
  obtain ⟨l, b, xs, zs, rfl, rfl, hH, hB, hz, q⟩ := h
  cases rx
  obtain ⟨u, rfl, ru⟩ := rv.one
  cases ru
  obtain ⟨z, its, n, r, hl, e⟩ := I.lstM hH
  obtain ⟨z2, its2, r2, o2, e2, hc2, n2, hd2⟩ := (show ObjOk X.prog X.w H s.heap b (.tup zs) from I.hok _ _ hB)
  have hl2 := r2.length
  have hsz : its.toArray.size + its2.toArray.size ≤ sizeLine := by rw [List.size_toArray, List.size_toArray]; omega
  refine wpAny_call_entry F.slot_list_extend ⟨_, e, rfl⟩ F.entry_list_extend ?_ (F.args_list_extend_2 _ _)
  show wpAny _ _ (Builtin.List.listExtendWith (.ref l) (.ref b) .none) _ _ s
  unfold Builtin.List.listExtendWith
  refine wpAny_bind (wpAny_typeOf (T := "tuple") ⟨o2, e2, hc2⟩ ?_)
  have ht : (Value.type "tuple" == Value.type "tuple") = true := by rfl
  rw [if_pos (by rw [ht]; simp)]
  refine wpAny_bind (listItems_at e2 hd2 (wpAny_bind (listItems_at e rfl ?_)))
  rw [if_neg (by rw [notLongL hsz, Bool.and_false]; exact Bool.false_ne_true)]
  refine wpAny_bind (listUpdate_at e rfl ?_ (by rw [List.size_toArray]; omega) (by rw [Array.size_append]; omega))
  refine wpAny_pure ⟨_, rfl, ?_⟩
  refine ⟨.non, _, I.lset (its' := its ++ its2) hH e (by simp) (r.append r2) ?_, rfl, q⟩
  rw [List.length_append]
  exact hz
end
end L2
set_option Elab.async false
set_option maxRecDepth 100000
set_option maxHeartbeats 4000000
namespace Cr
open PySem PySem.Spec PyProof.Rows L2
open PySem.W (Codec)
/-! ### the text by places -/
def top (i : Nat) : Stmt := PySem.Challenge.pw_crystalsums_s08_going.main.body.getD i (.Pass ⟨0, 0, 0, 0⟩)
/-- a list of whole numbers -/
abbrev li (l : List Int) : HO := .lst (l.map V.int)
/-- a list of naturals -/
abbrev ln (l : List Nat) : HO := .lst (l.map fun (e : Nat) => V.int ((e : Nat) : Int))
theorem small {n : Nat} (h : n ≤ 1000) : n ≤ sizeLine := Nat.le_of_lt (small1000 h)
/-- a def that may be called -/
def Cal (P : Program) (w : World) (K : PySem.W.Frag) (mg : Str → Option Value) (base : Heap) (k : Nat) (x : Str) (ps : List Str) (sp : Sp) : Prop :=
  ∃ f fd, FnOk P w K mg base CX0 k f fd ps sp ∧ Binds K fd ps [] ∧ mg x = some (.ref f) ∧ PySem.W.keepIn K (.ref f) = true
section
variable {P : Program} {w : World} {K : PySem.W.Frag} {mg : Str → Option Value} {base : Heap}
theorem Same.upd {H : Hp} {a : Addr} {o : HO} (h : H a = Option.none) : Same H (upd H a o) := fun b u e => by
  rw [upd_ne (ne_of_none e h)]
  exact e
/-- o[i] of a list, by values -/
theorem get_list {X : Cx} : PGet X (fun x y H Q => ∃ (p : Addr) (xs : List V) (j : Nat) (v : V), x = .ref p ∧ y = .int (j : Int) ∧ SqL X.K H p xs ∧ xs[j]? = some v ∧ Q v H) := by
  intro pins s σ H o i ov iv Q I r1 r2 h
  obtain ⟨p, xs, j, z, rfl, rfl, hq, he, q⟩ := h
  cases r1
  obtain ⟨t, rfl⟩ := r2
  obtain ⟨its, r, pl, hz⟩ := I.list hq
  obtain ⟨w', ew, rw'⟩ := r.get he
  have hl := r.length
  have hn := line63
  have hj : j < xs.length := (List.getElem?_eq_some_iff.mp he).1
  have e0 : ((j : Int)).toNat = j := by omega
  refine wpAny_getItem_list pl.isList (by omega) (by omega) (by rw [e0]; simpa using ew) ⟨z, H, I, rw', q⟩
theorem at_int {L : List Int} {z : Int} {j : Nat} (e : z = (j : Int)) (h : j < L.length) : atI (L.map V.int) z = some (V.int (My.cf L j)) := by
  refine at_of e ?_
  rw [List.getElem?_map, My.cf_get? h]
  rfl
theorem ix_int {n : Nat} {z : Int} {j : Nat} (e : z = (j : Int)) (h : j < n) : ixN n z = some j := by
  unfold ixN
  rw [if_pos (by omega), if_pos (by omega)]
  congr 1
  omega
end
end Cr
set_option Elab.async false
set_option maxRecDepth 100000
set_option maxHeartbeats 4000000
namespace Cr
open PySem PySem.Spec PyProof.Rows L2
open PySem.W (Codec)
abbrev sWit : Stmt := top 5
abbrev sSml : Stmt := top 6
structure TxtS (mg : Str → Option Value) : Prop where
  number : ∃ t, mg "LARGEST_NUMBER" = some (.int 1048575 t)
  len : mg "len" = none
  all : mg "all" = none
theorem smallL {n : Nat} (h : n ≤ 1000000) : n < sizeLine := Nat.lt_of_le_of_lt h (by decide)
def spWit (K : PySem.W.Frag) : Sp := fun vs H Q _ => ∃ (a : Addr) (W : List Int) (lo hi : Int), vs = [.ref a, .int lo, .int hi] ∧ SqL K H a (W.map V.int) ∧ W.length ≤ 2000 ∧ ∀ H', Same H H' → Q (.bl (Sm.withinB W lo hi)) H'
/-- a list is handed in, a truth value comes back -/
def spL (K : PySem.W.Frag) (g : List Int → Bool) : Sp := fun vs H Q _ => ∃ (a : Addr) (W : List Int), vs = [.ref a] ∧ SqL K H a (W.map V.int) ∧ W.length ≤ 2000 ∧ ∀ H', Same H H' → Q (.bl (g W)) H'
section
variable {P : Program} {w : World} {K : PySem.W.Frag} {mg : Str → Option Value} {base : Heap}
theorem get_ints {l : List Int} {i : Nat} {y : V} (h : (l.map V.int)[i]? = some y) : ∃ x, l[i]? = some x ∧ y = V.int x := by
  rw [List.getElem?_map] at h
  obtain ⟨x, e, rfl⟩ := Option.map_eq_some_iff.mp h
  exact ⟨x, e, rfl⟩
theorem get_refs {l : List Addr} {i : Nat} {y : V} (h : (l.map V.ref)[i]? = some y) : ∃ x, l[i]? = some x ∧ y = V.ref x := by
  rw [List.getElem?_map] at h
  obtain ⟨x, e, rfl⟩ := Option.map_eq_some_iff.mp h
  exact ⟨x, e, rfl⟩
/-- what a comprehension has made, one more -/
theorem grow {H H' : Hp} {D : Addr} {xs ys : List V} {y : V} (nD : H D = Option.none) (q1 : H' D = some (.lst xs)) (q2 : Same H H') (hl : xs.length ≤ 999999) (e : ys = xs ++ [y]) :
    ∃ acc, H' D = some (.lst acc) ∧ acc.length < sizeLine ∧ (upd H' D (.lst (acc ++ [y])) D = some (.lst ys) ∧ Same H (upd H' D (.lst (acc ++ [y])))) := by
  refine ⟨xs, q1, smallL (by omega), by rw [upd_same, e], fun b o eb => ?_⟩
  rw [upd_ne (ne_of_none eb nD)]
  exact q2 b o eb
theorem map_snoc {α β : Type} (g : α → β) {l : List α} {i : Nat} {x : α} (h : l[i]? = some x) : (l.take (i + 1)).map g = (l.take i).map g ++ [g x] := by
  rw [My.take_snoc h, List.map_append]
  rfl
theorem dec_len {n m : Nat} : decide (V.int ((n : Nat) : Int) = V.int ((m : Nat) : Int)) = decide (n = m) := decide_eq_decide.mpr ⟨fun e => by have := V.int.inj e; omega, fun e => by rw [e]⟩
theorem cf_in {L : List Int} {j : Nat} (h : j < L.length) : My.cf L j ∈ L := by
  rw [My.cf_get h]
  exact List.getElem_mem _
theorem Cal.lift {j k : Nat} {x : Str} {ps : List Str} {sp : Sp} (C : Cal P w K mg base j x ps sp) (h : j ≤ k) : Cal P w K mg base k x ps sp := by
  obtain ⟨f, fd, G, r⟩ := C
  exact ⟨f, fd, G.mono h, r⟩
/-! ### are_within, are_small -/
theorem scWit : FnScope ["numbers", "least", "most", "number"] ["numbers", "least", "most"] (defScope sWit) := ⟨rfl, rfl, rfl, by decide +kernel, rfl, by decide +kernel, by decide +kernel⟩
theorem blkWit : BlkOk ["numbers", "least", "most", "number"] (defScope sWit) { kind := ScopeKind.function, names := [(Str.ofString ".0", NameKind.local), (Str.ofString "number", NameKind.local), (Str.ofString "least", NameKind.free), (Str.ofString "most", NameKind.free)], isGenerator := false, isCoroutine := false } [("number", 3)] := blkOk_by (by decide +kernel)
theorem ok_wit {f : Addr} {fd : FuncData} (F : Fun K "are_within" "are_within" sWit f fd) (T : TxtS mg) : FnOk P w K mg base CX0 1 f fd ["numbers", "least", "most"] (spWit K) := by
  refine F.ok scWit (fun vs H Q E h => ?_) (fun cdv A outer s H vs Q E hr h => ?_)
  · obtain ⟨a, W, lo, hi, rfl, _⟩ := h
    rfl
  · obtain ⟨a, W, lo, hi, rfl, hA, hl, k⟩ := h
    refine ⟨_, pss_one (ps_ret (pe_callB (cr_all rfl) (by rfl) T.all boot_all (pa_cons (pe_lc rfl scWit.nd (pi_list (pv 0)) blkWit
      (fun s H C cl fp => pg_name (i := 3) scWit.nd rfl (Or.inl rfl)) (fun s H C cl fp => pts_nil) (fun s H C cl fp => pe_chain op_le op_le (pv 1) (pv 3) (pv 2))) pa_nil))), ?_⟩
    refine ⟨_, rfl, a, rfl, ⟨_, hA⟩, fun D hD => ?_⟩
    refine lc_list (K := K) (a := a) (xs := W.map V.int) (fun i H' => H' D = some (.lst ((W.take i).map fun x => V.bl (decide (lo ≤ x) && decide (x ≤ hi)))) ∧ Same H H') ⟨upd_same, Same.upd hD⟩ (fun i H' _ ⟨_, q⟩ => q.seq hA) ?_ ?_
    · rintro i y H' hy ⟨q1, q2⟩
      obtain ⟨x, hx, rfl⟩ := get_ints hy
      have hg : ∀ y', y' = V.bl (decide (lo ≤ x) && decide (x ≤ hi)) → ∃ acc, H' D = some (.lst acc) ∧ acc.length < sizeLine ∧ (upd H' D (.lst (acc ++ [y'])) D = some (.lst ((W.take (i + 1)).map fun x => V.bl (decide (lo ≤ x) && decide (x ≤ hi)))) ∧ Same H (upd H' D (.lst (acc ++ [y'])))) := fun y' e =>
        grow hD q1 q2 (by rw [List.length_map, List.length_take]; omega) (by rw [map_snoc _ hx, e])
      refine ⟨rfl, _, rfl, _, rfl, lo, x, rfl, rfl, _, rfl, ite2 (fun h => ?_) (fun h => ?_)⟩
      · exact ⟨_, rfl, x, hi, rfl, rfl, hg _ (by rw [h]; rfl)⟩
      · exact hg _ (by
          have e : decide (lo ≤ x) = false := by simpa using h
          rw [e]
          rfl)
    · rintro H' ⟨q1, q2⟩
      rw [List.length_map, List.take_length] at q1
      refine ⟨D, W.map fun x => decide (lo ≤ x) && decide (x ≤ hi), rfl, SqL.of (by rw [q1, List.map_map]; rfl), ?_⟩
      have e : (W.map fun x => decide (lo ≤ x) && decide (x ≤ hi)).all id = Sm.withinB W lo hi := by
        unfold Sm.withinB
        rw [List.all_map]
        rfl
      rw [e]
      exact k H' q2
theorem scSml : FnScope ["numbers"] ["numbers"] (defScope sSml) := ⟨rfl, rfl, rfl, by decide +kernel, rfl, by decide +kernel, by decide +kernel⟩
theorem ok_sml {f : Addr} {fd : FuncData} (F : Fun K "are_small" "are_small" sSml f fd) (T : TxtS mg) (C : Cal P w K mg base 1 "are_within" ["numbers", "least", "most"] (spWit K)) : FnOk P w K mg base CX0 2 f fd ["numbers"] (spL K Sm.smallB) := by
  obtain ⟨fW, fdW, GW, bW, mW, kW⟩ := C
  refine F.ok scSml (fun vs H Q E h => ?_) (fun cdv A outer s H vs Q E hr h => ?_)
  · obtain ⟨a, W, rfl, _⟩ := h
    rfl
  · obtain ⟨a, W, rfl, hA, hl, k⟩ := h
    obtain ⟨t, eN⟩ := T.number
    refine ⟨_, pss_one (ps_ret (pe_call GW hr rfl mW kW bW .nil pass0 (pa_cons (pv 0) (pa_cons (pe_un un_neg (pe_glob (v := .int 1048575) rfl eN ⟨_, rfl⟩)) (pa_cons (pe_glob (v := .int 1048575) rfl eN ⟨_, rfl⟩) pa_nil))))), ?_⟩
    exact ⟨_, rfl, 1048575, rfl, a, W, -1048575, 1048575, rfl, hA, hl, k⟩
end
end Cr
set_option Elab.async false
set_option maxRecDepth 100000
set_option maxHeartbeats 4000000
namespace Cr
open PySem PySem.Spec PyProof.Rows L2
open PySem.W (Codec)
abbrev sIdx : Stmt := top 7
section
variable {P : Program} {w : World} {K : PySem.W.Frag} {mg : Str → Option Value} {base : Heap}
theorem scIdx : FnScope ["h"] ["h"] (defScope sIdx) := ⟨rfl, rfl, rfl, by decide +kernel, rfl, by decide +kernel, by decide +kernel⟩
theorem ok_idx {f : Addr} {fd : FuncData} (F : Fun K "is_index" "is_index" sIdx f fd) (T : TxtS mg) (C : Cal P w K mg base 2 "are_small" ["numbers"] (spL K Sm.smallB)) : FnOk P w K mg base CX0 3 f fd ["h"] (spL K Sm.idxB) := by
  obtain ⟨fW, fdW, GW, bW, mW, kW⟩ := C
  refine F.ok scIdx (fun vs H Q E h => ?_) (fun cdv A outer s H vs Q E hr h => ?_)
  · obtain ⟨a, W, rfl, _⟩ := h
    rfl
  · obtain ⟨a, W, rfl, hA, hl, k⟩ := h
    refine ⟨_, pss_one (ps_ret (pe_and (pe_cmpR op_eq (pe_callB call_len_seq (by rfl) T.len PySem.boot_len (pa_cons (pv 0) pa_nil)) pe_int (nomark _)) (pe_one (pe_call GW hr rfl mW kW bW .nil pass0 (pa_cons (pv 0) pa_nil))))), ?_⟩
    refine ⟨_, rfl, a, _, rfl, .inl hA, rfl, _, rfl, ?_⟩
    rw [List.length_map]
    have e : decide (V.int ((W.length : Nat) : Int) = V.int 3) = decide (W.length = 3) := dec_len (m := 3)
    rw [e]
    have un : Sm.idxB W = (decide (W.length = 3) && Sm.smallB W) := rfl
    refine ite2 (fun h => ?_) (fun h => ?_)
    · refine ⟨_, rfl, a, W, rfl, hA, hl, fun H' s' => ?_⟩
      have := k H' s'
      rw [un, h] at this
      exact this
    · have h' : decide (W.length = 3) = false := by simpa using h
      have := k H (Same.refl _)
      rw [un, h'] at this
      exact this
end
end Cr
set_option Elab.async false
set_option maxRecDepth 100000
set_option maxHeartbeats 4000000
namespace Cr
open PySem PySem.Spec PyProof.Rows L2
open PySem.W (Codec)
abbrev sEch : Stmt := top 8
abbrev sMts : Stmt := top 9
abbrev sRtm : Stmt := top 10
structure TxtM (mg : Str → Option Value) : Prop extends TxtS mg where
  mnum : ∃ t, mg "MOTION_NUMBERS" = some (.int 13 t)
  most : ∃ t, mg "MOST_MOTIONS" = some (.int 96 t)
  told : ∃ t, mg "NOT_AS_TOLD" = some (.int (-1) t)
  range : mg "range" = none
/-- the j-th motion's numbers -/
def mt (m : List Int) (j : Nat) : List Int := (m.drop (13 * j)).take 13
theorem mt_len {m : List Int} {k j : Nat} (h : m.length = 13 * k) (hj : j < k) : (mt m j).length = 13 := by
  unfold mt
  rw [List.length_take, List.length_drop]
  omega
theorem mt_cf (m : List Int) (j : Nat) {i : Nat} (hi : i < 13) : My.cf (mt m j) i = m.getD (13 * j + i) 0 := by
  show ((m.drop (13 * j)).take 13).getD i 0 = _
  rw [Mo.getD_take _ _ hi, Sm.getD_drop]
theorem mt_in {m : List Int} {j : Nat} {x : Int} (h : x ∈ mt m j) : x ∈ m := List.mem_of_mem_drop (List.mem_of_mem_take h)
def Mts (H : Hp) (m : List Int) (as : List Addr) (k : Nat) : Prop := as.length = k ∧ ∀ (j : Nat) (a : Addr), as[j]? = some a → H a = some (li (mt m j))
theorem Mts.same {H H' : Hp} {m : List Int} {as : List Addr} {k : Nat} (x : Mts H m as k) (s : Same H H') : Mts H' m as k := ⟨x.1, fun j a e => s _ _ (x.2 j a e)⟩
def spEch (K : PySem.W.Frag) : Sp := fun vs H Q _ => ∃ (a : Addr) (m : List Int) (k : Nat), vs = [.ref a] ∧ SqL K H a (m.map V.int) ∧ m.length = 13 * k ∧ k ≤ 100 ∧ ∀ (H' : Hp) (r : Addr) (as : List Addr), H' r = some (.lst (as.map V.ref)) → Mts H' m as k → Same H H' → Q (.ref r) H'
/-- h times a matrix -/
def rwm (h n : List Int) : List Int := (List.range 3).map fun k => My.cf h 0 * My.cf n k + My.cf h 1 * My.cf n (k + 3) + My.cf h 2 * My.cf n (k + 6)
def spRtm (K : PySem.W.Frag) : Sp := fun vs H Q _ => ∃ (g b : Addr) (h n : List Int), vs = [.ref g, .ref b] ∧ SqL K H g (h.map V.int) ∧ SqL K H b (n.map V.int) ∧ h.length = 3 ∧ n.length = 13 ∧ (∀ x, x ∈ h → -1048576 < x ∧ x < 1048576) ∧ ∀ (H' : Hp) (r : Addr), H' r = some (li (rwm h n)) → Same H H' → Q (.ref r) H'
section
variable {P : Program} {w : World} {K : PySem.W.Frag} {mg : Str → Option Value} {base : Heap}
/-! ### each_motion -/
theorem cut13 {m : List Int} {i : Nat} (h : 13 * i + 13 ≤ m.length) : cutV (m.map V.int) (some ((13 * i : Nat) : Int)) (some ((13 * i + 13 : Nat) : Int)) = (mt m i).map V.int := by
  unfold cutV
  rw [HT.sIx_nat, HT.sIx_nat, List.length_map, Nat.min_eq_left (by omega), Nat.min_eq_left (by omega)]
  have e : 13 * i + 13 - 13 * i = 13 := by omega
  rw [e, ← List.map_drop, ← List.map_take]
  rfl
theorem RgC.thirteen (k : Nat) (hk : k ≤ 100) : RgC 0 ((13 * k : Nat) : Int) 13 k := by
  have e : Builtin.Range.rangeSize 0 ((13 * k : Nat) : Int) 13 = (k : Int) := by
    unfold Builtin.Range.rangeSize
    rw [if_pos (by decide)]
    by_cases h : (0 : Int) < ((13 * k : Nat) : Int)
    · rw [if_pos h]
      omega
    · rw [if_neg h]
      omega
  refine ⟨by decide, by decide, ?_, e⟩
  unfold Builtin.Range.small
  rw [e]
  have fl : ∀ z : Int, -5000 ≤ z → z ≤ 5000 → Builtin.Range.rangeFitsLong z = true := fun z h1 h2 => by
    unfold Builtin.Range.rangeFitsLong
    have e : (2 : Int) ^ 63 = 9223372036854775808 := by decide
    rw [e, Bool.and_eq_true]
    exact ⟨decide_eq_true (by omega), decide_eq_true (by omega)⟩
  rw [fl 0 (by decide) (by decide), fl _ (by omega) (by omega), fl 13 (by decide) (by decide), fl (k : Int) (by omega) (by omega), if_pos (show (13 : Int) > 0 by decide), fl _ (by omega) (by omega)]
  simp
theorem scEch : FnScope ["motions", "k"] ["motions"] (defScope sEch) := ⟨rfl, rfl, rfl, by decide +kernel, rfl, by decide +kernel, by decide +kernel⟩
theorem blkEch : BlkOk ["motions", "k"] (defScope sEch) { kind := ScopeKind.function, names := [(Str.ofString ".0", NameKind.local), (Str.ofString "k", NameKind.local), (Str.ofString "MOTION_NUMBERS", NameKind.globalImplicit), (Str.ofString "motions", NameKind.free)], isGenerator := false, isCoroutine := false } [("k", 1)] := blkOk_by (by decide +kernel)
theorem ok_ech {f : Addr} {fd : FuncData} (F : Fun K "each_motion" "each_motion" sEch f fd) (T : TxtM mg) : FnOk P w K mg base CX0 1 f fd ["motions"] (spEch K) := by
  refine F.ok scEch (fun vs H Q E h => ?_) (fun cdv A outer s H vs Q E hr h => ?_)
  · obtain ⟨a, p, k, rfl, _⟩ := h
    rfl
  · obtain ⟨a, p, k, rfl, hA, hp, hk, kk⟩ := h
    obtain ⟨t, eM⟩ := T.mnum
    refine ⟨_, pss_one (ps_ret (pe_lc rfl scEch.nd (pi_range3 rfl T.range (pa_cons pe_int (pa_cons (pe_callB call_len_seq (by rfl) T.len PySem.boot_len (pa_cons (pv 0) pa_nil)) (pa_cons (pe_glob (v := .int 13) rfl eM ⟨_, rfl⟩) pa_nil)))) blkEch
      (fun s H C cl fp => pg_name (i := 1) scEch.nd rfl (Or.inl rfl)) (fun s H C cl fp => pts_nil) (fun s H C cl fp => pe_slice (r := rSlL K) sl_list (pv 0) (po_some (pv 1)) (po_some (pe_op op_add (pv 1) (pe_glob (v := .int 13) rfl eM ⟨_, rfl⟩)))))), ?_⟩
    refine ⟨_, rfl, a, _, rfl, .inl hA, 0, _, 13, k, rfl, ?_, fun D hD => ?_⟩
    · rw [List.length_map, hp]
      exact RgC.thirteen k hk
    refine lc_rangeC (lo := 0) (c := 13) (n := k) (fun i H' => ∃ as : List Addr, H' D = some (.lst (as.map V.ref)) ∧ Mts H' p as i ∧ (∀ a, a ∈ as → a ≠ D) ∧ Same H H') ⟨[], upd_same, ⟨rfl, fun j a e => by simp at e⟩, fun a e => by simp at e, Same.upd hD⟩ ?_ ?_
    · rintro i H' hi ⟨as, q1, q2, qf, q3⟩
      have e1 : (0 : Int) + (i : Nat) * 13 = ((13 * i : Nat) : Int) := by omega
      have e2 : (0 : Int) + (i : Nat) * 13 + 13 = ((13 * i + 13 : Nat) : Int) := by omega
      refine ⟨rfl, _, rfl, _, rfl, _, rfl, _, rfl, _, _, rfl, rfl, _, rfl, a, _, rfl, q3.seq hA, fun r nr => ?_⟩
      rw [e2, e1, cut13 (by omega)]
      have sr := Same.upd (o := li (mt p i)) nr
      have nD : D ≠ r := ne_of_none q1 nr
      refine ⟨as.map V.ref, sr _ _ q1, small1000 (by rw [List.length_map, q2.1]; omega), as ++ [r], by rw [upd_same, List.map_append]; rfl, ⟨by rw [List.length_append, q2.1]; rfl, fun j b e => ?_⟩, fun b hb => ?_, fun b o eb => ?_⟩
      · by_cases hj : j < as.length
        · rw [List.getElem?_append_left hj] at e
          rw [upd_ne (qf b (List.mem_of_getElem? e))]
          exact sr _ _ (q2.2 j b e)
        · have hj2 : j = as.length := by
            have h1 := (List.getElem?_eq_some_iff.mp e).1
            rw [List.length_append, List.length_singleton] at h1
            omega
          subst hj2
          rw [List.getElem?_append_right (Nat.le_refl _), Nat.sub_self] at e
          obtain rfl := Option.some.inj e
          rw [upd_ne nD.symm, q2.1]
          exact upd_same
      · rcases List.mem_append.mp hb with e | e
        · exact qf b e
        · rw [List.mem_singleton.mp e]
          exact nD.symm
      · rw [upd_ne (ne_of_none eb hD)]
        exact sr _ _ (q3 b o eb)
    · rintro H' ⟨as, q1, q2, qf, q3⟩
      exact kk H' D as q1 q2 q3
/-! ### are_motions -/
theorem okm_is {m : List Int} {k : Nat} (h : m.length = 13 * k) (hk : k ≤ 96) : CyG.okMotions m = (Sm.smallB m && (List.range k).all fun i => decide (1 ≤ m.getD (13 * i + 12) 0)) := by
  unfold CyG.okMotions
  rw [decide_eq_true (show m.length % 13 = 0 by omega), decide_eq_true (show m.length ≤ 13 * CyG.MOTIONS by show m.length ≤ 13 * 96; omega), Bool.true_and, Bool.true_and, Sm.small_in, Mo.motions_is h, List.all_map]
  congr 1
  rw [Bool.eq_iff_iff, List.all_eq_true, List.all_eq_true]
  constructor
  · intro q i hi
    have := q i hi
    simp only [Function.comp] at this
    rw [Mo.mo_d h (List.mem_range.mp hi)] at this
    exact this
  · intro q i hi
    have := q i hi
    simp only [Function.comp]
    rw [Mo.mo_d h (List.mem_range.mp hi)]
    exact this
theorem okm_no {m : List Int} (h : ¬ (m.length % 13 = 0 ∧ m.length ≤ 1248)) : CyG.okMotions m = false := by
  unfold CyG.okMotions
  by_cases h1 : m.length % 13 = 0
  · have h2 : ¬ m.length ≤ 13 * CyG.MOTIONS := fun q => h ⟨h1, q⟩
    rw [decide_eq_false h2, Bool.false_and, Bool.and_false]
  · rw [decide_eq_false h1, Bool.false_and]
theorem scMts : FnScope ["motions", "motion"] ["motions"] (defScope sMts) := ⟨rfl, rfl, rfl, by decide +kernel, rfl, by decide +kernel, by decide +kernel⟩
theorem blkMts : BlkOk ["motions", "motion"] (defScope sMts) { kind := ScopeKind.function, names := [(Str.ofString ".0", NameKind.local), (Str.ofString "motion", NameKind.local)], isGenerator := false, isCoroutine := false } [("motion", 1)] := blkOk_by (by decide +kernel)
theorem ok_mts {f : Addr} {fd : FuncData} (F : Fun K "are_motions" "are_motions" sMts f fd) (T : TxtM mg) (CS : Cal P w K mg base 2 "are_small" ["numbers"] (spL K Sm.smallB)) (CE : Cal P w K mg base 1 "each_motion" ["motions"] (spEch K)) : FnOk P w K mg base CX0 3 f fd ["motions"] (spL K CyG.okMotions) := by
  obtain ⟨f1, fd1, G1, b1, m1, k1⟩ := CS
  obtain ⟨f2, fd2, G2, b2, m2, k2⟩ := CE
  refine F.ok scMts (fun vs H Q E h => ?_) (fun cdv A outer s H vs Q E hr h => ?_)
  · obtain ⟨a, W, rfl, _⟩ := h
    rfl
  · obtain ⟨a, W, rfl, hA, hl, k⟩ := h
    have hr1 : Room 1 _ := hr.mono (by decide)
    obtain ⟨t, eM⟩ := T.mnum
    obtain ⟨t2, eO⟩ := T.most
    refine ⟨_, pss_cons (ps_if (PW.pt (pw_or (pt_cmpR op_ne (pe_op op_mod (pe_callB call_len_seq (by rfl) T.len PySem.boot_len (pa_cons (pv 0) pa_nil)) (pe_glob (v := .int 13) rfl eM ⟨_, rfl⟩)) pe_int (nomark _))
          (pw_or1 (pt_cmpR op_gt (pe_callB call_len_seq (by rfl) T.len PySem.boot_len (pa_cons (pv 0) pa_nil)) (pe_op op_mul (pe_glob (v := .int 96) rfl eO ⟨_, rfl⟩) (pe_glob (v := .int 13) rfl eM ⟨_, rfl⟩)) (nomark _)))))
        (pss_one (ps_ret pe_bl)) pss_nil)
      (pss_one (ps_ret (pe_and (pe_call G1 hr rfl m1 k1 b1 .nil pass0 (pa_cons (pv 0) pa_nil)) (pe_one (pe_callB (cr_all rfl) (by rfl) T.all boot_all (pa_cons (pe_lc rfl scMts.nd (pi_list (pe_call G2 hr1 rfl m2 k2 b2 .nil pass0 (pa_cons (pv 0) pa_nil))) blkMts
          (fun s H C cl fp => pg_name (i := 1) scMts.nd rfl (Or.inl rfl)) (fun s H C cl fp => pts_nil) (fun s H C cl fp => pe_cmpR op_ge (pe_ix (r := rIxL K) ix_list (pv 1) pe_int (fun _ _ => rfl)) pe_int (nomark _))) pa_nil)))))), ?_⟩
    have k0 := k H (Same.refl _)
    have no : ¬ (W.length % 13 = 0 ∧ W.length ≤ 1248) → Q (.bl false) H := fun q => by
      rw [okm_no q] at k0
      exact k0
    refine ⟨_, rfl, a, _, rfl, .inl hA, _, _, rfl, rfl, (by show (0 : Int) < 13; decide), rfl, _, rfl, ?_⟩
    rw [List.length_map]
    have e13 : (!decide (V.int (((W.length : Nat) : Int) % 13) = V.int 0)) = decide (¬ W.length % 13 = 0) := by
      rw [decide_not]
      congr 1
      exact decide_eq_decide.mpr ⟨fun q => by have := V.int.inj q; omega, fun q => by congr 1; omega⟩
    rw [e13]
    refine ite2 (fun h => ?_) (fun h => ?_)
    · exact no fun q => (of_decide_eq_true h) q.1
    · have h13 : W.length % 13 = 0 := by
        by_cases q : W.length % 13 = 0
        · exact q
        · exact absurd (decide_eq_true q) h
      refine ⟨_, rfl, a, _, rfl, .inl hA, _, _, rfl, rfl, .inl ⟨by decide, by decide⟩, _, _, rfl, rfl, _, rfl, ?_⟩
      rw [List.length_map]
      have e96 : decide (((96 : Int) * 13) < ((W.length : Nat) : Int)) = decide (¬ W.length ≤ 1248) := decide_eq_decide.mpr (by omega)
      rw [e96]
      refine ite2 (fun h2 => ?_) (fun h2 => ?_)
      · exact no fun q => (of_decide_eq_true h2) q.2
      · have h96 : W.length ≤ 1248 := by
          by_cases q : W.length ≤ 1248
          · exact q
          · exact absurd (decide_eq_true q) h2
        obtain ⟨n, hn⟩ : ∃ n, W.length = 13 * n := ⟨W.length / 13, by omega⟩
        rw [okm_is hn (by omega)] at k
        refine ⟨_, rfl, a, W, rfl, hA, hl, fun H1 s1 => ⟨_, rfl, ite2 (fun h3 => ?_) (fun h3 => ?_)⟩⟩
        · rw [h3, Bool.true_and] at k
          refine ⟨_, rfl, a, W, n, rfl, s1.seq hA, hn, by omega, fun H2 r as hr2 hP s2 => ⟨r, rfl, ⟨_, SqL.of hr2⟩, fun D hD => ?_⟩⟩
          refine lc_list (K := K) (a := r) (xs := as.map V.ref) (fun i H' => H' D = some (.lst ((List.range i).map fun j => V.bl (decide (1 ≤ W.getD (13 * j + 12) 0)))) ∧ Same H2 H') ⟨upd_same, Same.upd hD⟩ (fun i H' _ ⟨_, q⟩ => SqL.of (q _ _ hr2)) ?_ ?_
          · rintro i y H' hy ⟨q1, q2⟩
            obtain ⟨x, hx, rfl⟩ := get_refs hy
            have hi : i < as.length := (List.getElem?_eq_some_iff.mp hx).1
            have hi2 : i < n := by have := hP.1; omega
            refine ⟨rfl, _, rfl, x, _, _, _, rfl, rfl, SqL.of (q2 _ _ (hP.2 i x hx)), at_int (j := 12) rfl (by rw [mt_len hn hi2]; decide), _, _, rfl, rfl, ?_⟩
            rw [mt_cf _ _ (by decide)]
            exact grow hD q1 q2 (by rw [List.length_map, List.length_range]; have := hP.1; omega) (by rw [List.range_succ, List.map_append]; rfl)
          · rintro H' ⟨q1, q2⟩
            rw [List.length_map, hP.1] at q1
            refine ⟨D, (List.range n).map fun j => decide (1 ≤ W.getD (13 * j + 12) 0), rfl, SqL.of (by rw [q1, List.map_map]; rfl), ?_⟩
            have ea : ((List.range n).map fun j => decide (1 ≤ W.getD (13 * j + 12) 0)).all id = (List.range n).all fun i => decide (1 ≤ W.getD (13 * i + 12) 0) := by
              rw [List.all_map]
              rfl
            rw [ea]
            exact k H' ((s1.trans s2).trans q2)
        · have h3' : Sm.smallB W = false := by simpa using h3
          rw [h3', Bool.false_and] at k
          exact k H1 s1
/-! ### row_times_matrix -/
theorem scRtm : FnScope ["h", "motion", "k"] ["h", "motion"] (defScope sRtm) := ⟨rfl, rfl, rfl, by decide +kernel, rfl, by decide +kernel, by decide +kernel⟩
theorem blkRtm : BlkOk ["h", "motion", "k"] (defScope sRtm) { kind := ScopeKind.function, names := [(Str.ofString ".0", NameKind.local), (Str.ofString "k", NameKind.local), (Str.ofString "h", NameKind.free), (Str.ofString "motion", NameKind.free)], isGenerator := false, isCoroutine := false } [("k", 2)] := blkOk_by (by decide +kernel)
theorem ok_rtm {f : Addr} {fd : FuncData} (F : Fun K "row_times_matrix" "row_times_matrix" sRtm f fd) (T : TxtM mg) : FnOk P w K mg base CX0 1 f fd ["h", "motion"] (spRtm K) := by
  refine F.ok scRtm (fun vs H Q E h => ?_) (fun cdv A outer s H vs Q E hr h => ?_)
  · obtain ⟨g, b, h, n, rfl, _⟩ := h
    rfl
  · obtain ⟨g, b, h, n, rfl, hG, hB, h3, h13, hin, k⟩ := h
    refine ⟨_, pss_one (ps_ret (pe_lc rfl scRtm.nd (pi_range1 rfl T.range (pa_cons pe_int pa_nil)) blkRtm
      (fun s H C cl fp => pg_name (i := 2) scRtm.nd rfl (Or.inl rfl)) (fun s H C cl fp => pts_nil)
      (fun s H C cl fp => pe_op op_add (pe_op op_add (pe_op op_mul (pe_ix (r := rIxL K) ix_list (pv 0) pe_int (fun _ _ => rfl)) (pe_ix (r := rIxL K) ix_list (pv 1) (pv 2) (fun _ _ => rfl)))
        (pe_op op_mul (pe_ix (r := rIxL K) ix_list (pv 0) pe_int (fun _ _ => rfl)) (pe_ix (r := rIxL K) ix_list (pv 1) (pe_op op_add (pv 2) pe_int) (fun _ _ => rfl))))
        (pe_op op_mul (pe_ix (r := rIxL K) ix_list (pv 0) pe_int (fun _ _ => rfl)) (pe_ix (r := rIxL K) ix_list (pv 1) (pe_op op_add (pv 2) pe_int) (fun _ _ => rfl)))))), ?_⟩
    have bd : ∀ j, j < 3 → -(2 ^ 64) < My.cf h j ∧ My.cf h j < 2 ^ 64 := fun j hj => by
      have := hin _ (cf_in (L := h) (j := j) (by omega))
      have e : (2 : Int) ^ 64 = 18446744073709551616 := by decide
      rw [e]
      omega
    refine ⟨3, rfl, by decide, by decide, fun D hD => ?_⟩
    refine lc_range (lo := 0) (n := 3) (fun i H' => H' D = some (li ((List.range i).map fun k => My.cf h 0 * My.cf n k + My.cf h 1 * My.cf n (k + 3) + My.cf h 2 * My.cf n (k + 6))) ∧ Same H H') ⟨upd_same, Same.upd hD⟩ (fun i H' hi ⟨q1, q2⟩ => ?_) (fun H' ⟨q1, q2⟩ => k H' D q1 q2)
    refine ⟨rfl, _, rfl, g, _, _, _, rfl, rfl, q2.seq hG, at_int (j := 0) rfl (by omega), _, rfl, _, rfl, b, _, _, _, rfl, rfl, q2.seq hB, at_int (j := i) (by omega) (by omega), _, _, rfl, rfl, .inl (bd 0 (by decide)), ?_⟩
    refine ⟨_, rfl, g, _, _, _, rfl, rfl, q2.seq hG, at_int (j := 1) rfl (by omega), _, rfl, _, rfl, _, _, rfl, rfl, b, _, _, _, rfl, rfl, q2.seq hB, at_int (j := i + 3) (by omega) (by omega), _, _, rfl, rfl, .inl (bd 1 (by decide)), _, _, rfl, rfl, ?_⟩
    refine ⟨_, rfl, g, _, _, _, rfl, rfl, q2.seq hG, at_int (j := 2) rfl (by omega), _, rfl, _, rfl, _, _, rfl, rfl, b, _, _, _, rfl, rfl, q2.seq hB, at_int (j := i + 6) (by omega) (by omega), _, _, rfl, rfl, .inl (bd 2 (by decide)), _, _, rfl, rfl, ?_⟩
    exact grow hD q1 q2 (by rw [List.length_map, List.length_map, List.length_range]; omega) (by rw [List.range_succ, List.map_append, List.map_append]; rfl)
theorem rwm_hw {m h : List Int} {i : Nat} : rwm h (mt m i) = Mo.hw m h i := by
  show [My.cf h 0 * My.cf (mt m i) 0 + My.cf h 1 * My.cf (mt m i) 3 + My.cf h 2 * My.cf (mt m i) 6, My.cf h 0 * My.cf (mt m i) 1 + My.cf h 1 * My.cf (mt m i) 4 + My.cf h 2 * My.cf (mt m i) 7, My.cf h 0 * My.cf (mt m i) 2 + My.cf h 1 * My.cf (mt m i) 5 + My.cf h 2 * My.cf (mt m i) 8] = _
  rw [mt_cf m i (i := 0) (by decide), mt_cf m i (i := 1) (by decide), mt_cf m i (i := 2) (by decide), mt_cf m i (i := 3) (by decide), mt_cf m i (i := 4) (by decide), mt_cf m i (i := 5) (by decide), mt_cf m i (i := 6) (by decide), mt_cf m i (i := 7) (by decide), mt_cf m i (i := 8) (by decide)]
  rfl
end
end Cr
set_option Elab.async false
set_option maxRecDepth 100000
set_option maxHeartbeats 4000000
namespace Cr
open PySem PySem.Spec PyProof.Rows L2
open PySem.W (Codec)
abbrev sAns : Stmt := top 11
def spAns (K : PySem.W.Frag) : Sp := fun vs H Q _ => ∃ (a g : Addr) (m h : List Int), vs = [.ref a, .ref g] ∧ SqL K H a (m.map V.int) ∧ SqL K H g (h.map V.int) ∧ m.length ≤ 1300 ∧ h.length ≤ 3 ∧ ∀ (H' : Hp) (r : Addr), H' r = some (li (PyWqambr.going m h)) → Q (.ref r) H'
section
variable {P : Program} {w : World} {K : PySem.W.Frag} {mg : Str → Option Value} {base : Heap}
theorem going_no {m h : List Int} (e : (CyG.okMotions m && CyG.okIndex h) = false) : PyWqambr.going m h = [-1] := by
  show CyGNeutral.shown (CyG.answer (.with_ m h)) = _
  unfold CyG.answer
  dsimp only
  rw [if_pos e]
  rfl
theorem going_is {m h : List Int} (e : (CyG.okMotions m && CyG.okIndex h) = true) : PyWqambr.going m h = 0 :: (Cy.together (CyG.motionsIn m) h).flatMap fun k => k := by
  show CyGNeutral.shown (CyG.answer (.with_ m h)) = _
  unfold CyG.answer
  dsimp only
  rw [if_neg (by rw [e]; decide)]
  rfl
theorem lex_before {x y : List Int} (hx : Mo.L3 x) (hy : Mo.L3 y) (h : PyProof.Rows.lexLt PyProof.Rows.itemOrd (y.map Sum.inl) (x.map Sum.inl) = false) : ¬ Cy.before y x = true := by
  obtain ⟨a, b, c, rfl⟩ := hx
  obtain ⟨d, e, f, rfl⟩ := hy
  rw [Mo.before3]
  have h' : (decide (d < a) || (!decide (a < d) && (decide (e < b) || (!decide (b < e) && (decide (f < c) || (!decide (c < f) && false)))))) = false := h
  intro q
  simp only [Bool.or_eq_false_iff, Bool.and_eq_false_iff, Bool.not_eq_false', decide_eq_false_iff_not, decide_eq_true_eq] at h'
  omega
theorem hw_three (m h : List Int) (i : Nat) : Mo.L3 (Mo.hw m h i) := ⟨_, _, _, rfl⟩
theorem l3_of {h : List Int} (e : h.length = 3) : Mo.L3 h := by
  match h, e with
  | [a, b, c], _ => exact ⟨a, b, c, rfl⟩
/-- what the sorted set tells -/
theorem told_so {m h : List Int} {k : Nat} (M : Mo.Mok m h k) {t0 : Addr} {ts : List Addr} {kb kb' : List (List Int × Addr)} (km : ∀ q, q ∈ kb → q ∈ (h, t0) :: (List.range k).map fun j => (Mo.hw m h j, ts.getD j 0)) (nd : (kb.map (·.1)).Nodup)
    (al : ∀ q, q ∈ (h, t0) :: ((List.range k).map fun j => (Mo.hw m h j, ts.getD j 0)) → q.1 ∈ kb.map (·.1)) (pm : kb'.Perm kb) (so : kb'.Pairwise fun p q => PyProof.Rows.lexLt PyProof.Rows.itemOrd (q.1.map Sum.inl) (p.1.map Sum.inl) = false) :
    Cy.together (CyG.motionsIn m) h = kb'.map (·.1) := by
  have three : ∀ q, q ∈ kb' → Mo.L3 q.1 := fun q hq => by
    rcases List.mem_cons.mp (km q (pm.mem_iff.mp hq)) with rfl | e
    · exact l3_of M.h3
    · obtain ⟨j, _, rfl⟩ := List.mem_map.mp e
      exact hw_three m h j
  rw [Mo.together_is M.len]
  refine Mo.once_is ⟨fun x hx => ?_, ?_⟩ fun y => ?_
  · obtain ⟨q, hq, rfl⟩ := List.mem_map.mp hx
    exact three q hq
  · have nd' : (kb'.map (·.1)).Nodup := (pm.map _).nodup_iff.mpr nd
    rw [List.pairwise_map]
    have both := List.Pairwise.and so (List.pairwise_map.mp nd')
    refine List.Pairwise.imp_of_mem (fun {p q} hp hq z => ?_) both
    by_cases hb : Cy.before p.1 q.1 = true
    · exact hb
    · exact absurd (Mo.before_tri (three p hp) (three q hq) z.2 hb) (lex_before (three p hp) (three q hq) z.1)
  · constructor
    · intro hy
      obtain ⟨q, hq, rfl⟩ := List.mem_map.mp hy
      rcases List.mem_cons.mp (km q (pm.mem_iff.mp hq)) with rfl | e
      · exact List.mem_cons_self ..
      · obtain ⟨j, hj, rfl⟩ := List.mem_map.mp e
        exact List.mem_cons_of_mem _ (List.mem_map.mpr ⟨j, hj, rfl⟩)
    · intro hy
      have : y ∈ kb.map (·.1) := by
        rcases List.mem_cons.mp hy with rfl | e
        · exact al (y, t0) (List.mem_cons_self ..)
        · obtain ⟨j, hj, rfl⟩ := List.mem_map.mp e
          exact al _ (List.mem_cons_of_mem _ (List.mem_map.mpr ⟨j, hj, rfl⟩))
      exact (pm.map _).mem_iff.mpr this
theorem len_sub {α : Type} [DecidableEq α] : ∀ {l l' : List α}, l.Nodup → (∀ x, x ∈ l → x ∈ l') → l.length ≤ l'.length
  | [], _, _, _ => Nat.zero_le _
  | a :: l, l', h, hs => by
    obtain ⟨h1, h2⟩ := List.nodup_cons.mp h
    have ha := hs a (List.mem_cons_self ..)
    have ih := len_sub (l' := l'.erase a) h2 fun x hx => (List.mem_erase_of_ne (fun e => h1 (by rw [← e]; exact hx))).mpr (hs x (List.mem_cons_of_mem _ hx))
    rw [List.length_erase_of_mem ha] at ih
    have : 0 < l'.length := List.length_pos_of_mem ha
    rw [List.length_cons]
    omega
theorem len_flat3 : ∀ {l : List (List Int × Addr)}, (∀ q, q ∈ l → q.1.length = 3) → (l.flatMap (·.1)).length = 3 * l.length
  | [], _ => rfl
  | q :: l, h => by
    rw [List.flatMap_cons, List.length_append, h q (List.mem_cons_self ..), len_flat3 (l := l) fun p hp => h p (List.mem_cons_of_mem _ hp), List.length_cons]
    omega
theorem scAns : FnScope ["motions", "h", "met", "answer", "index", "motion"] ["motions", "h"] (defScope sAns) := ⟨rfl, rfl, rfl, by decide +kernel, rfl, by decide +kernel, by decide +kernel⟩
theorem blkAns : BlkOk ["motions", "h", "met", "answer", "index", "motion"] (defScope sAns) { kind := ScopeKind.function, names := [(Str.ofString ".0", NameKind.local), (Str.ofString "motion", NameKind.local), (Str.ofString "tuple", NameKind.globalImplicit), (Str.ofString "row_times_matrix", NameKind.globalImplicit), (Str.ofString "h", NameKind.free)], isGenerator := false, isCoroutine := false } [("motion", 5)] := blkOk_by (by decide +kernel)
theorem ok_ans {f : Addr} {fd : FuncData} (F : Fun K "going" "going" sAns f fd) (T : TxtM mg) (htup : mg "tuple" = none) (hset : mg "set" = none) (hsor : mg "sorted" = none) (CM : Cal P w K mg base 3 "are_motions" ["motions"] (spL K CyG.okMotions)) (CI : Cal P w K mg base 3 "is_index" ["h"] (spL K Sm.idxB)) (CE : Cal P w K mg base 1 "each_motion" ["motions"] (spEch K)) (CX : Cal P w K mg base 1 "row_times_matrix" ["h", "motion"] (spRtm K)) :
    FnOk P w K mg base CX0 4 f fd ["motions", "h"] (spAns K) := by
  obtain ⟨f1, fd1, G1, b1, m1, k1⟩ := CM
  obtain ⟨f2, fd2, G2, b2, m2, k2⟩ := CI
  obtain ⟨f3, fd3, G3, b3, m3, k3⟩ := CE
  obtain ⟨f4, fd4, G4, b4, m4, k4⟩ := CX
  refine F.ok scAns (fun vs H Q E h => ?_) (fun cdv A outer s H vs Q E hr h => ?_)
  · obtain ⟨a, g, m, h, rfl, _⟩ := h
    rfl
  · obtain ⟨a, g, m, h, rfl, hA, hG, lm, lh, k⟩ := h
    have hr1 : Room 1 _ := hr.mono (by decide)
    obtain ⟨t, eN⟩ := T.told
    refine ⟨_, pss_cons (ps_if (pt_not (PW.pt (pw_and (pt_val (pe_call G1 hr rfl m1 k1 b1 .nil pass0 (pa_cons (pv 0) pa_nil))) (pw_and1 (pt_val (pe_call G2 hr rfl m2 k2 b2 .nil pass0 (pa_cons (pv 1) pa_nil)))))))
        (pss_one (ps_ret (pe_lst (pa_cons (pe_glob (v := .int (-1)) rfl eN ⟨_, rfl⟩) pa_nil)))) pss_nil)
      (pss_cons (ps_set (i := 2) scAns.nd rfl (Or.inl rfl) (pe_op op_cat (pe_lst (pa_cons (pe_callTy (r := rTup K) call_tupK (by rfl) htup PyProof.Rows.boot_tuple (pa_cons (pv 1) pa_nil)) pa_nil)) (pe_lc rfl scAns.nd (pi_list (pe_call G3 hr1 rfl m3 k3 b3 .nil pass0 (pa_cons (pv 0) pa_nil))) blkAns
        (fun s H C cl fp => pg_name (i := 5) scAns.nd rfl (Or.inl rfl)) (fun s H C cl fp => pts_nil) (fun s H C cl fp => pe_callTy (r := rTup K) call_tupK (by rfl) htup PyProof.Rows.boot_tuple (pa_cons (pe_call G4 hr1 rfl m4 k4 b4 .nil pass0 (pa_cons (pv 1) (pa_cons (pv 5) pa_nil))) pa_nil)))))
      (pss_cons (ps_set (i := 3) scAns.nd rfl (Or.inl rfl) (pe_lst (pa_cons pe_int pa_nil)))
      (pss_cons (ps_for PassesOwn.never rfl (pi_list (pe_callB (cr_sortedK rfl) (by rfl) hsor PyProof.Rows.boot_sorted (pa_cons (pe_callTy (call_setK rfl hr.units) (by rfl) hset PyProof.Rows.boot_set (pa_cons (pv 2) pa_nil)) pa_nil))) (pg_name (i := 4) scAns.nd rfl (Or.inl rfl))
        (pss_one (ps_expr (pe_bm PySem.F.plainAttrs_list PySem.F.slot_list_extend PySem.F.type_list_extend mt_extendT (pv 3) (pa_cons (pv 4) pa_nil)))))
      (pss_one (ps_ret (pv 3)))))), ?_⟩
    have s1 : 1 ≤ sizeLine := small (by decide)
    have no : ∀ H', (CyG.okMotions m && CyG.okIndex h) = false → ∀ r, H' r = Option.none → Q (.ref r) (upd H' r (.lst [V.int (-1)])) := fun H' e r _ => k _ r (by rw [upd_same, going_no e]; rfl)
    refine ⟨_, rfl, a, m, rfl, hA, by omega, fun H1 s1' => ⟨_, rfl, ite2 (fun h1 => ?_) (fun h1 => ?_)⟩⟩
    · refine ⟨_, rfl, g, h, rfl, s1'.seq hG, by omega, fun H2 s2 => ⟨_, rfl, ?_⟩⟩
      rw [Sm.idx_ok]
      refine ite2 (fun h2 => ?_) (fun h2 => ?_)
      · have h2' : CyG.okIndex h = false := by simpa using h2
        exact ⟨s1, fun r nr => no H2 (by rw [h2', Bool.and_false]) r nr⟩
      · have h2' : CyG.okIndex h = true := by simpa using h2
        have ok : (CyG.okMotions m && CyG.okIndex h) = true := by rw [h1, h2']; rfl
        obtain ⟨n, M⟩ := Mo.mok_iff.mp ok
        have hn96 := M.k96
        rw [going_is ok] at k
        have sH := s1'.trans s2
        refine ⟨_, rfl, g, _, rfl, .inl ⟨sH.seq hG, fun t0 nt0 => ?_⟩⟩
        have st0 := Same.upd (o := HO.tup (h.map V.int)) nt0
        refine ⟨s1, fun c0 nc0 => ?_⟩
        have sc0 := Same.upd (o := HO.lst [V.ref t0]) nc0
        have sH2 := (sH.trans st0).trans sc0
        refine ⟨_, rfl, a, m, n, rfl, sH2.seq hA, M.len, by omega, fun H3 r as hr3 hP s3 => ⟨r, rfl, ⟨_, SqL.of hr3⟩, fun D hD => ?_⟩⟩
        have sH3 := sH2.trans s3
        refine lc_list (K := K) (a := r) (xs := as.map V.ref) (fun i H' => ∃ ts : List Addr, H' D = some (.lst (ts.map V.ref)) ∧ ts.length = i ∧ (∀ j t, ts[j]? = some t → H' t = some (.tup ((Mo.hw m h j).map V.int))) ∧ Same H3 H') ⟨[], upd_same, rfl, fun j t e => by simp at e, Same.upd hD⟩ (fun i H' _ ⟨_, _, _, _, q⟩ => SqL.of (q _ _ hr3)) ?_ ?_
        · rintro i y H' hy ⟨ts, q1, q2, q3, q4⟩
          obtain ⟨x, hx, rfl⟩ := get_refs hy
          have hi : i < as.length := (List.getElem?_eq_some_iff.mp hx).1
          have hi2 : i < n := by have := hP.1; omega
          refine ⟨rfl, _, rfl, _, rfl, g, x, h, mt m i, rfl, q4.seq (sH3.seq hG), SqL.of (q4 _ _ (hP.2 i x hx)), M.h3, mt_len M.len hi2, M.hin, fun H4 z hz s4 => ?_⟩
          refine ⟨z, _, rfl, .inl ⟨SqL.of hz, fun t nt => ?_⟩⟩
          rw [rwm_hw]
          have st := Same.upd (o := HO.tup ((Mo.hw m h i).map V.int)) nt
          have q1' := st _ _ (s4 _ _ q1)
          have nD : D ≠ t := ne_of_none (s4 _ _ q1) nt
          refine ⟨ts.map V.ref, q1', small1000 (by rw [List.length_map, q2]; omega), ts ++ [t], by rw [upd_same, List.map_append]; rfl, by rw [List.length_append, q2]; rfl, fun j b e => ?_, fun b o eb => ?_⟩
          · by_cases hj : j < ts.length
            · rw [List.getElem?_append_left hj] at e
              have hb := st _ _ (s4 _ _ (q3 j b e))
              rw [upd_ne (ne_of hb q1' (by intro z; cases z))]
              exact hb
            · have hj2 : j = ts.length := by
                have h1 := (List.getElem?_eq_some_iff.mp e).1
                rw [List.length_append, List.length_singleton] at h1
                omega
              subst hj2
              rw [List.getElem?_append_right (Nat.le_refl _), Nat.sub_self] at e
              obtain rfl := Option.some.inj e
              rw [upd_ne nD.symm, q2]
              exact upd_same
          · rw [upd_ne (ne_of_none eb hD)]
            exact st _ _ (s4 _ _ (q4 b o eb))
        · rintro H' ⟨ts, q1, q2, q3, q4⟩
          rw [List.length_map, hP.1] at q2
          have q4' := s3.trans q4
          have hc0 : H' c0 = some (.lst [V.ref t0]) := q4' _ _ upd_same
          have ht0 : H' t0 = some (.tup (h.map V.int)) := q4' _ _ (sc0 _ _ upd_same)
          refine ⟨c0, D, _, _, rfl, rfl, hc0, q1, ?_, fun z nz => ?_⟩
          · rw [List.length_map, q2]
            exact small (by show 1 + n ≤ 1000; omega)
          have sz := Same.upd (o := HO.lst ([V.ref t0] ++ ts.map V.ref)) nz
          refine ⟨s1, fun aw naw => ?_⟩
          have saw := Same.upd (o := HO.lst [V.int 0]) naw
          have s5 := sz.trans saw
          refine ⟨_, rfl, z, (h, t0) :: (List.range n).map fun j => (Mo.hw m h j, ts.getD j 0), rfl, ?_, fun q hq => ?_, by rw [List.length_cons, List.length_map, List.length_range]; omega, fun l kb nl km nd al => ?_⟩
          · have e0 : (((List.range n).map fun j => (Mo.hw m h j, ts.getD j 0)).map (·.2)) = ts := by
              rw [List.map_map]
              refine List.ext_getElem? fun j => ?_
              rw [List.getElem?_map]
              by_cases hj : j < n
              · rw [List.getElem?_range hj]
                show some (ts.getD j 0) = _
                rw [List.getD_eq_getElem?_getD, List.getElem?_eq_getElem (by omega)]
                rfl
              · rw [List.getElem?_eq_none (by simpa using hj), List.getElem?_eq_none (by omega)]
                rfl
            have e2 : ((((h, t0) :: (List.range n).map fun j => (Mo.hw m h j, ts.getD j 0)).map (·.2)).map V.ref) = [V.ref t0] ++ ts.map V.ref := by
              rw [List.map_cons, e0]
              rfl
            rw [e2]
            exact SqL.of (saw _ _ upd_same)
          · rcases List.mem_cons.mp hq with rfl | e
            · exact s5 _ _ ht0
            · obtain ⟨j, hj, rfl⟩ := List.mem_map.mp e
              have hj := List.mem_range.mp hj
              exact s5 _ _ (q3 j (ts.getD j 0) (by rw [List.getD_eq_getElem?_getD, List.getElem?_eq_getElem (by omega)]; rfl))
          have sl := Same.upd (o := setK w l kb) nl
          have tupq : ∀ q, q ∈ kb → (upd (upd (upd H' z (.lst ([V.ref t0] ++ ts.map V.ref))) aw (.lst [V.int 0])) l (setK w l kb)) q.2 = some (.tup (q.1.map V.int)) ∧ Mo.L3 q.1 := fun q hq => by
            rcases List.mem_cons.mp (km q hq) with rfl | e
            · exact ⟨sl _ _ (s5 _ _ ht0), l3_of M.h3⟩
            · obtain ⟨j, hj, rfl⟩ := List.mem_map.mp e
              have hj := List.mem_range.mp hj
              exact ⟨sl _ _ (s5 _ _ (q3 j (ts.getD j 0) (by rw [List.getD_eq_getElem?_getD, List.getElem?_eq_getElem (by omega)]; rfl))), hw_three m h j⟩
          have hkb : kb.length ≤ 1000 := by
            have e : kb.length = (kb.map (·.1)).length := by rw [List.length_map]
            have h2 : ((kb.map (·.1)).length) ≤ ((((h, t0) :: (List.range n).map fun j => (Mo.hw m h j, ts.getD j 0)).map (·.1))).length := by
              refine len_sub nd fun x hx => ?_
              obtain ⟨q, hq, rfl⟩ := List.mem_map.mp hx
              exact List.mem_map.mpr ⟨q, km q hq, rfl⟩
            simp only [List.length_map, List.length_cons, List.length_range] at h2
            omega
          refine ⟨l, kb, rfl, upd_same, fun q hq => ⟨(tupq q hq).1, fun e => ?_⟩, hkb, fun S kb' nS pm so => ⟨S, rfl, ⟨_, SqL.of upd_same⟩, ?_⟩⟩
          · obtain ⟨x, y, zz, e3⟩ := (tupq q hq).2
            rw [e3] at e
            cases e
          have sS := Same.upd (o := HO.lst (kb'.map fun q => V.ref q.2)) nS
          rw [told_so M km nd al pm so] at k
          have three : ∀ q, q ∈ kb' → q.1.length = 3 := fun q hq => by
            obtain ⟨x, y, zz, e3⟩ := (tupq q (pm.mem_iff.mp hq)).2
            rw [e3]
            rfl
          have naS : aw ≠ S := ne_of_none (sl _ _ upd_same) nS
          refine for_list (K := K) (a := S) (xs := kb'.map fun q => V.ref q.2) (fun i σ H5 => ∃ (vi vm : Option V), σ = [some (.ref a), some (.ref g), some (.ref z), some (.ref aw), vi, vm] ∧ H5 aw = some (li (0 :: (kb'.take i).flatMap (·.1))) ∧ H5 S = some (.lst (kb'.map fun q => V.ref q.2)) ∧ ∀ q, q ∈ kb' → H5 q.2 = some (.tup (q.1.map V.int)))
            ⟨_, _, rfl, sS _ _ (sl _ _ upd_same), upd_same, fun q hq => sS _ _ (tupq q (pm.mem_iff.mp hq)).1⟩ (fun i σ H5 _ ⟨_, _, _, _, q, _⟩ => SqL.of q) ?_ ?_
          · rintro i y σ H5 hy ⟨vi, vm, rfl, ha5, hS5, hq5⟩
            rw [List.getElem?_map] at hy
            obtain ⟨q, hq, rfl⟩ := Option.map_eq_some_iff.mp hy
            have hqm := List.mem_of_getElem? hq
            have hi : i < kb'.length := (List.getElem?_eq_some_iff.mp hq).1
            have hlen : (0 :: (kb'.take i).flatMap (·.1)).length ≤ 4000 := by
              rw [List.length_cons, len_flat3 fun p hp => three p (List.mem_of_mem_take hp), List.length_take]
              have := pm.length_eq
              omega
            refine ⟨_, rfl, .inl ⟨rfl, _, SqL.of ha5⟩, _, rfl, aw, q.2, _, _, rfl, rfl, ha5, hq5 q hqm, ?_, ?_⟩
            · rw [List.length_map, List.length_map, three q hqm]
              exact Nat.le_of_lt (smallL (by omega))
            · refine ⟨_, _, rfl, ?_, ?_, fun p hp => ?_⟩
              · rw [upd_same, ← List.map_append, My.take_snoc hq, List.flatMap_append, List.flatMap_cons, List.flatMap_nil, List.append_nil]
                rfl
              · rw [upd_ne (ne_of hS5 ha5 (by
                  intro z
                  have z2 := HO.lst.inj z
                  cases hk' : kb' with
                  | nil => rw [hk'] at hi; simp at hi
                  | cons p r =>
                    rw [hk'] at z2
                    have z3 := (List.cons.inj z2).1
                    cases z3))]
                exact hS5
              · rw [upd_ne (ne_of (hq5 p hp) ha5 (by intro z; cases z))]
                exact hq5 p hp
          · rintro σ H5 ⟨vi, vm, rfl, ha5, hS5, hq5⟩
            refine ⟨_, rfl, k H5 aw ?_⟩
            rw [ha5, List.length_map, List.take_length, List.flatMap_map]
    · have h1' : CyG.okMotions m = false := by simpa using h1
      exact ⟨s1, fun r nr => no H1 (by rw [h1', Bool.false_and]) r nr⟩
end
end Cr
set_option Elab.async false
set_option maxRecDepth 100000
set_option maxHeartbeats 4000000
namespace Cr
open PySem PySem.Spec PyProof.Rows L2
open PySem.W (Codec)
/-! ### what the top has written, and the row's head -/
theorem len_of {least most : Nat} {p : Int → Bool} {l : List Int} (h : Codec.inList least most p l = true) : l.length ≤ most := by
  unfold Codec.inList Codec.inLen Codec.inNat at h
  simp only [Bool.and_eq_true, decide_eq_true_eq] at h
  exact h.1.2
theorem all_mk {P : Program} {w : World} {K : PySem.W.Frag} {h : Heap} {mg : Str → Option Value} {fa f_are_within f_are_small f_is_index f_each_motion f_are_motions f_row_times_matrix f_going : Addr} {t_number t_mnum t_mostm t_told : Tok} (X : K.In h) (G : h.Ns mainGlobals mg) (hfa : mg "going" = some (.ref fa))
    {od_are_within an_are_within od_are_small an_are_small od_is_index an_is_index od_each_motion an_each_motion od_are_motions an_are_motions od_row_times_matrix an_row_times_matrix od_going an_going : Option Addr} {sl_are_within sl_are_small sl_is_index sl_each_motion sl_are_motions sl_row_times_matrix sl_going : Array (Option Value)} {oc_are_within kV_are_within dc_are_within pm_are_within cd_are_within ct_are_within oc_are_small kV_are_small dc_are_small pm_are_small cd_are_small ct_are_small oc_is_index kV_is_index dc_is_index pm_is_index cd_is_index ct_is_index oc_each_motion kV_each_motion dc_each_motion pm_each_motion cd_each_motion ct_each_motion oc_are_motions kV_are_motions dc_are_motions pm_are_motions cd_are_motions ct_are_motions oc_row_times_matrix kV_row_times_matrix dc_row_times_matrix pm_row_times_matrix cd_row_times_matrix ct_row_times_matrix oc_going kV_going dc_going pm_going cd_going ct_going : Value}
    (a_number : PySem.W.nsIn K mainGlobals "LARGEST_NUMBER" = some (some (.int 1048575 t_number)))
    (a_mnum : PySem.W.nsIn K mainGlobals "MOTION_NUMBERS" = some (some (.int 13 t_mnum)))
    (a_mostm : PySem.W.nsIn K mainGlobals "MOST_MOTIONS" = some (some (.int 96 t_mostm)))
    (a_told : PySem.W.nsIn K mainGlobals "NOT_AS_TOLD" = some (some (.int (-1) t_told)))
    (n_len : PySem.W.nsIn K mainGlobals "len" = some none)
    (n_all : PySem.W.nsIn K mainGlobals "all" = some none)
    (n_range : PySem.W.nsIn K mainGlobals "range" = some none)
    (n_tuple : PySem.W.nsIn K mainGlobals "tuple" = some none)
    (n_set : PySem.W.nsIn K mainGlobals "set" = some none)
    (n_sorted : PySem.W.nsIn K mainGlobals "sorted" = some none)
    (a_are_within : PySem.W.nsIn K mainGlobals "are_within" = some (some (.ref f_are_within))) (l_are_within : K.lookup f_are_within = some ⟨oc_are_within, od_are_within, .func (PySem.W.fnOf "are_within" "are_within" (defArgs sWit) (defBody sWit) (defScope sWit) .none kV_are_within dc_are_within pm_are_within an_are_within cd_are_within ct_are_within), sl_are_within⟩) (c_are_within : PySem.W.codeIn K cd_are_within "are_within" = true) (k_are_within : PySem.W.keepIn K (.ref f_are_within) = true)
    (a_are_small : PySem.W.nsIn K mainGlobals "are_small" = some (some (.ref f_are_small))) (l_are_small : K.lookup f_are_small = some ⟨oc_are_small, od_are_small, .func (PySem.W.fnOf "are_small" "are_small" (defArgs sSml) (defBody sSml) (defScope sSml) .none kV_are_small dc_are_small pm_are_small an_are_small cd_are_small ct_are_small), sl_are_small⟩) (c_are_small : PySem.W.codeIn K cd_are_small "are_small" = true) (k_are_small : PySem.W.keepIn K (.ref f_are_small) = true)
    (a_is_index : PySem.W.nsIn K mainGlobals "is_index" = some (some (.ref f_is_index))) (l_is_index : K.lookup f_is_index = some ⟨oc_is_index, od_is_index, .func (PySem.W.fnOf "is_index" "is_index" (defArgs sIdx) (defBody sIdx) (defScope sIdx) .none kV_is_index dc_is_index pm_is_index an_is_index cd_is_index ct_is_index), sl_is_index⟩) (c_is_index : PySem.W.codeIn K cd_is_index "is_index" = true) (k_is_index : PySem.W.keepIn K (.ref f_is_index) = true)
    (a_each_motion : PySem.W.nsIn K mainGlobals "each_motion" = some (some (.ref f_each_motion))) (l_each_motion : K.lookup f_each_motion = some ⟨oc_each_motion, od_each_motion, .func (PySem.W.fnOf "each_motion" "each_motion" (defArgs sEch) (defBody sEch) (defScope sEch) .none kV_each_motion dc_each_motion pm_each_motion an_each_motion cd_each_motion ct_each_motion), sl_each_motion⟩) (c_each_motion : PySem.W.codeIn K cd_each_motion "each_motion" = true) (k_each_motion : PySem.W.keepIn K (.ref f_each_motion) = true)
    (a_are_motions : PySem.W.nsIn K mainGlobals "are_motions" = some (some (.ref f_are_motions))) (l_are_motions : K.lookup f_are_motions = some ⟨oc_are_motions, od_are_motions, .func (PySem.W.fnOf "are_motions" "are_motions" (defArgs sMts) (defBody sMts) (defScope sMts) .none kV_are_motions dc_are_motions pm_are_motions an_are_motions cd_are_motions ct_are_motions), sl_are_motions⟩) (c_are_motions : PySem.W.codeIn K cd_are_motions "are_motions" = true) (k_are_motions : PySem.W.keepIn K (.ref f_are_motions) = true)
    (a_row_times_matrix : PySem.W.nsIn K mainGlobals "row_times_matrix" = some (some (.ref f_row_times_matrix))) (l_row_times_matrix : K.lookup f_row_times_matrix = some ⟨oc_row_times_matrix, od_row_times_matrix, .func (PySem.W.fnOf "row_times_matrix" "row_times_matrix" (defArgs sRtm) (defBody sRtm) (defScope sRtm) .none kV_row_times_matrix dc_row_times_matrix pm_row_times_matrix an_row_times_matrix cd_row_times_matrix ct_row_times_matrix), sl_row_times_matrix⟩) (c_row_times_matrix : PySem.W.codeIn K cd_row_times_matrix "row_times_matrix" = true) (k_row_times_matrix : PySem.W.keepIn K (.ref f_row_times_matrix) = true)
    (a_going : PySem.W.nsIn K mainGlobals "going" = some (some (.ref f_going))) (l_going : K.lookup f_going = some ⟨oc_going, od_going, .func (PySem.W.fnOf "going" "going" (defArgs sAns) (defBody sAns) (defScope sAns) .none kV_going dc_going pm_going an_going cd_going ct_going), sl_going⟩) (c_going : PySem.W.codeIn K cd_going "going" = true) (k_going : PySem.W.keepIn K (.ref f_going) = true) :
    ∃ fd : FuncData, (∀ (s : Shared) (us : List Value), us.length = (["motions", "h"] : List Str).length → BindsTo s fd ⟨us, []⟩ ((["motions", "h"] : List Str).zip us)) ∧ ∀ base : Heap, K.In base → base.Ns mainGlobals mg → FnOk P w K mg base CX0 4 fa fd ["motions", "h"] (spAns K) := by
  have e := hfa.symm.trans (PySem.W.mg_of X G a_going)
  cases e
  have TS : TxtS mg := ⟨⟨_, PySem.W.mg_of X G a_number⟩, PySem.W.mg_none_of X G n_len, PySem.W.mg_none_of X G n_all⟩
  have TM : TxtM mg := ⟨TS, ⟨_, PySem.W.mg_of X G a_mnum⟩, ⟨_, PySem.W.mg_of X G a_mostm⟩, ⟨_, PySem.W.mg_of X G a_told⟩, PySem.W.mg_none_of X G n_range⟩
  have F_are_within := fun_mk (st := sWit) l_are_within c_are_within k_are_within
  have b_are_within := F_are_within.binds (ps := ["numbers", "least", "most"]) fun _ _ _ _ _ _ us hl => match us, hl with | [_, _, _], _ => rfl
  have m_are_within := PySem.W.mg_of X G a_are_within
  have F_are_small := fun_mk (st := sSml) l_are_small c_are_small k_are_small
  have b_are_small := F_are_small.binds (ps := ["numbers"]) fun _ _ _ _ _ _ us hl => match us, hl with | [_], _ => rfl
  have m_are_small := PySem.W.mg_of X G a_are_small
  have F_is_index := fun_mk (st := sIdx) l_is_index c_is_index k_is_index
  have b_is_index := F_is_index.binds (ps := ["h"]) fun _ _ _ _ _ _ us hl => match us, hl with | [_], _ => rfl
  have m_is_index := PySem.W.mg_of X G a_is_index
  have F_each_motion := fun_mk (st := sEch) l_each_motion c_each_motion k_each_motion
  have b_each_motion := F_each_motion.binds (ps := ["motions"]) fun _ _ _ _ _ _ us hl => match us, hl with | [_], _ => rfl
  have m_each_motion := PySem.W.mg_of X G a_each_motion
  have F_are_motions := fun_mk (st := sMts) l_are_motions c_are_motions k_are_motions
  have b_are_motions := F_are_motions.binds (ps := ["motions"]) fun _ _ _ _ _ _ us hl => match us, hl with | [_], _ => rfl
  have m_are_motions := PySem.W.mg_of X G a_are_motions
  have F_row_times_matrix := fun_mk (st := sRtm) l_row_times_matrix c_row_times_matrix k_row_times_matrix
  have b_row_times_matrix := F_row_times_matrix.binds (ps := ["h", "motion"]) fun _ _ _ _ _ _ us hl => match us, hl with | [_, _], _ => rfl
  have m_row_times_matrix := PySem.W.mg_of X G a_row_times_matrix
  have F_going := fun_mk (st := sAns) l_going c_going k_going
  refine ⟨PySem.W.fnOf "going" "going" (defArgs sAns) (defBody sAns) (defScope sAns) .none kV_going dc_going pm_going an_going cd_going ct_going, fun s us hu => match us, hu with | [_, _], _ => .of_eq rfl, fun base _ _ => ?_⟩
  have C_are_within : Cal P w K mg base 1 "are_within" ["numbers", "least", "most"] (spWit K) := ⟨_, _, ok_wit F_are_within TS, b_are_within, m_are_within, F_are_within.kp⟩
  have C_are_small : Cal P w K mg base 2 "are_small" ["numbers"] (spL K Sm.smallB) := ⟨_, _, ok_sml F_are_small TS C_are_within, b_are_small, m_are_small, F_are_small.kp⟩
  have C_is_index : Cal P w K mg base 3 "is_index" ["h"] (spL K Sm.idxB) := ⟨_, _, ok_idx F_is_index TS C_are_small, b_is_index, m_is_index, F_is_index.kp⟩
  have C_each_motion : Cal P w K mg base 1 "each_motion" ["motions"] (spEch K) := ⟨_, _, ok_ech F_each_motion TM, b_each_motion, m_each_motion, F_each_motion.kp⟩
  have C_are_motions : Cal P w K mg base 3 "are_motions" ["motions"] (spL K CyG.okMotions) := ⟨_, _, ok_mts F_are_motions TM C_are_small C_each_motion, b_are_motions, m_are_motions, F_are_motions.kp⟩
  have C_row_times_matrix : Cal P w K mg base 1 "row_times_matrix" ["h", "motion"] (spRtm K) := ⟨_, _, ok_rtm F_row_times_matrix TM, b_row_times_matrix, m_row_times_matrix, F_row_times_matrix.kp⟩
  exact ok_ans F_going TM (PySem.W.mg_none_of X G n_tuple) (PySem.W.mg_none_of X G n_set) (PySem.W.mg_none_of X G n_sorted) C_are_motions C_is_index C_each_motion C_row_times_matrix
end Cr
open PySem PySem.W PyProof.Rows
set_option maxRecDepth 100000 in
set_option maxHeartbeats 0 in
theorem PySem.Challenge.cw_crystalsums_s08_going_holds : PySem.Challenge.rw_crystalsums_s08_going.Holds := by
  w_on; k_headS; (case hw => exact ⟨[.list [], .list []], by decide +kernel, by decide +kernel⟩)
  k_fillS
  refine L2.walk_specK (r := PySem.Challenge.rw_crystalsums_s08_going) (k := 4) (CX := L2.CX0) (ps := ["motions", "h"]) (sp := fun K => Cr.spAns K) (by decide +kernel) rfl rfl ⟨rfl, by decide, by decide⟩ (fun w h Y => PySem.W.kIn_of Y) ?F ?S (fun _ _ _ _ z => z)
  case F =>
    intro w mg fa h Y KX G hmg
    refine' Cr.all_mk KX G hmg ?a_number ?a_mnum ?a_mostm ?a_told ?n_len ?n_all ?n_range ?n_tuple ?n_set ?n_sorted ?a_are_within ?l_are_within ?c_are_within ?k_are_within ?a_are_small ?l_are_small ?c_are_small ?k_are_small ?a_is_index ?l_is_index ?c_is_index ?k_is_index ?a_each_motion ?l_each_motion ?c_each_motion ?k_each_motion ?a_are_motions ?l_are_motions ?c_are_motions ?k_are_motions ?a_row_times_matrix ?l_row_times_matrix ?c_row_times_matrix ?k_row_times_matrix ?a_going ?l_going ?c_going ?k_going
    (case a_number => k_is); (case a_mnum => k_is); (case a_mostm => k_is); (case a_told => k_is); (case n_len => k_is); (case n_all => k_is)
    (case n_range => k_is); (case n_tuple => k_is); (case n_set => k_is); (case n_sorted => k_is); (case a_are_within => k_is); (case l_are_within => k_is)
    (case c_are_within => k_is); (case k_are_within => k_is); (case a_are_small => k_is); (case l_are_small => k_is); (case c_are_small => k_is); (case k_are_small => k_is)
    (case a_is_index => k_is); (case l_is_index => k_is); (case c_is_index => k_is); (case k_is_index => k_is); (case a_each_motion => k_is); (case l_each_motion => k_is)
    (case c_each_motion => k_is); (case k_each_motion => k_is); (case a_are_motions => k_is); (case l_are_motions => k_is); (case c_are_motions => k_is); (case k_are_motions => k_is)
    (case a_row_times_matrix => k_is); (case l_row_times_matrix => k_is); (case c_row_times_matrix => k_is); (case k_row_times_matrix => k_is); (case a_going => k_is); (case l_going => k_is)
    (case c_going => k_is); (case k_going => k_is)
  case S =>
    intro K H xs a hO hwi hask hx
    obtain ⟨z0, z1, u⟩ := a
    have q : (Codec.inList 0 1300 (Codec.inInt (-4611686018427387904) 4611686018427387904) z0 && (Codec.inList 0 3 (Codec.inInt (-4611686018427387904) 4611686018427387904) z1 && true)) = true := hwi
    simp only [Bool.and_eq_true] at q
    obtain ⟨q0, q1, _⟩ := q
    have lq0 : z0.length ≤ 1300 := Cr.len_of q0
    have lq1 : z1.length ≤ 3 := Cr.len_of q1
    cases hx with
    | cons h0 r0 =>
      cases r0 with
      | cons h1 r1 =>
        cases r1
        cases h0 with
        | lst s0 d0 =>
          have e0 := L2.ints_dw z0 _ d0
          subst e0
          cases h1 with
          | lst s1 d1 =>
            have e1 := L2.ints_dw z1 _ d1
            subst e1
            exact ⟨_, _, z0, z1, rfl, s0, s1, lq0, lq1, fun H' p hp => .lst (L2.SqL.of hp) (L2.dw_ints _)⟩
#print axioms PySem.Challenge.cw_crystalsums_s08_going_holds
