import PyProof.Rows.All
import Wide.All
import OpenK.AllK
import Wide.FinOn
import PyProof.EqAt
import PyProof.EqKinds
import PyProof.TupleCall
import KE.BitLaws
import Open.SpecLaws
import KE.OsHead
import KE.OsGo
import PyProof.TupleKey
import PyProof.SetKind
import PyProof.IsRules
import PyProof.Rows.SetFrom
import KE.KDictSum
import KE.KSortTupG
import PyProof.Rows.SortShellAny
import PySem.Challenge.RW_crystalsums_s09_lines
section
set_option Elab.async false
set_option linter.all false
set_option maxRecDepth 100000
/-! THE HAND LAYER, for ints, bools, texts, own classes, lists, tuples, dicts, comprehensions, walks over dicts, enumerate, zip, reversed, texts, calls, loops. Paste it whole ahead of your own text; what your proof does not reach may be deleted. -/
namespace L2
open PySem PySem.Spec PyProof.Rows

/-- a key: an int or a str -/
abbrev Key := Sum Int Str
def keyIs : Key → Value → Bool
  | .inl k, v => Value.isInt k v
  | .inr x, v => Value.isStrOf x v
def keyH (w : World) : Key → Int
  | .inl k => hashInt k
  | .inr x => hashStr w x
theorem keyIs_shape : ∀ {k : Key} {v : Value}, keyIs k v = true → (∃ i t, k = Sum.inl i ∧ v = Value.int i t) ∨ (∃ x t, k = Sum.inr x ∧ v = Value.str x t)
  | .inl i, v, h => by
    obtain ⟨t, e⟩ := Value.isInt_shape (k := i) (v := v) h
    exact .inl ⟨i, t, rfl, e⟩
  | .inr x, v, h => by
    obtain ⟨t, e⟩ := Value.isStrOf_shape (x := x) (v := v) h
    exact .inr ⟨x, t, rfl, e⟩
theorem keyIs_int (i : Int) (t : Tok) : keyIs (.inl i) (.int i t) = true := by simp [keyIs, Value.isInt]
theorem keyIs_str (x : Str) (t : Tok) : keyIs (.inr x) (.str x t) = true := by simp [keyIs, Value.isStrOf]
theorem key_ll (a b : Int) : decide ((Sum.inl a : Key) = Sum.inl b) = (a == b) := by
  by_cases e : a = b
  · subst e; simp
  · have h : ¬ (Sum.inl a : Key) = Sum.inl b := fun q => e (Sum.inl.inj q)
    rw [decide_eq_false h]
    exact (beq_eq_false_iff_ne.mpr e).symm
theorem key_rr (a b : Str) : decide ((Sum.inr a : Key) = Sum.inr b) = decide (a = b) := by
  by_cases e : a = b
  · subst e; simp
  · have h : ¬ (Sum.inr a : Key) = Sum.inr b := fun q => e (Sum.inr.inj q)
    rw [decide_eq_false h, decide_eq_false e]
theorem key_lr (a : Int) (b : Str) : decide ((Sum.inl a : Key) = Sum.inr b) = false := decide_eq_false (fun q => nomatch q)
theorem key_rl (a : Str) (b : Int) : decide ((Sum.inr a : Key) = Sum.inl b) = false := decide_eq_false (fun q => nomatch q)

def mixKind (prog : Program) (w : World) : PySem.KeyKind prog w Key where
  is := keyIs
  hash := keyH w
  inj := fun v a b ha hb => by
    rcases keyIs_shape ha with ⟨i, t, rfl, rfl⟩ | ⟨x, t, rfl, rfl⟩
    · rcases keyIs_shape hb with ⟨j, u, rfl, e⟩ | ⟨y, u, rfl, e⟩
      · injection e with e1 _; rw [e1]
      · exact nomatch e
    · rcases keyIs_shape hb with ⟨j, u, rfl, e⟩ | ⟨y, u, rfl, e⟩
      · exact nomatch e
      · injection e with e1 _; rw [e1]
  byValue := fun k v h => by
    rcases keyIs_shape h with ⟨i, t, rfl, rfl⟩ | ⟨x, t, rfl, rfl⟩ <;> rfl
  pyHash := fun hv h => by
    rcases keyIs_shape hv with ⟨i, t, rfl, rfl⟩ | ⟨x, t, rfl, rfl⟩
    · exact wpAny_pyHash_int h
    · exact wpAny_pyHash_str h
  eqBool := fun hu hv h => by
    rcases keyIs_shape hu with ⟨i, t, rfl, rfl⟩ | ⟨x, t, rfl, rfl⟩
    · rcases keyIs_shape hv with ⟨j, u, rfl, rfl⟩ | ⟨y, u, rfl, rfl⟩
      · rw [key_ll] at h; exact wpAny_eqBool_int h
      · rw [key_lr] at h; exact SeqAt.EqAt.int_str i t y u _ _ _ _ h
    · rcases keyIs_shape hv with ⟨j, u, rfl, rfl⟩ | ⟨y, u, rfl, rfl⟩
      · rw [key_rl] at h; exact SeqAt.EqAt.str_int x t j u _ _ _ _ h
      · rw [key_rr] at h; exact wpAny_eqBool_str h
  «strs» := fun k x t v h => by
    rcases keyIs_shape h with ⟨i, u, rfl, e⟩ | ⟨y, u, rfl, e⟩
    · exact nomatch e
    · injection e with e1 _
      subst e1
      cases v <;> rfl

theorem mixKind_int (prog : Program) (w : World) (i : Int) (t : Tok) : (mixKind prog w).is (.inl i) (.int i t) = true := keyIs_int i t
theorem mixKind_str (prog : Program) (w : World) (x : Str) (t : Tok) : (mixKind prog w).is (.inr x) (.str x t) = true := keyIs_str x t
end L2

namespace L2
open PySem PySem.Spec PyProof.Rows

/-- a value, without the heap -/
inductive V where
  | non | bl (b : Bool) | int (i : Int) | str (x : Str) | byt (b : Array UInt8) | flt (b : UInt64) | ref (a : Addr) | ty (n : String)
  deriving DecidableEq

def RelV : V → Value → Prop
  | .non, u => u = Value.none
  | .bl b, u => u = Value.bool b
  | .int i, u => ∃ t, u = Value.int i t
  | .str x, u => ∃ t, u = Value.str x t
  | .byt b, u => ∃ t, u = Value.bytes b t
  | .flt b, u => ∃ t, u = Value.float b t
  | .ref a, u => u = Value.ref a
  | .ty n, u => u = Value.type n

abbrev Vals : List V → List Value → Prop := Paired RelV
theorem Vals.length {xs : List V} {us : List Value} (r : Vals xs us) : xs.length = us.length := Paired.length r
theorem Vals.get : ∀ {xs : List V} {us : List Value} {i : Nat} {x : V}, Vals xs us → xs[i]? = some x → ∃ u, us[i]? = some u ∧ RelV x u
  | _, _, _, _, .nil, e => by simp at e
  | _, _, 0, _, .cons r _, e => by simp at e; subst e; exact ⟨_, rfl, r⟩
  | _, _, i + 1, x, .cons _ t, e => by
    obtain ⟨u, h1, h2⟩ := Vals.get (i := i) (x := x) t (by simpa using e)
    exact ⟨u, by simpa using h1, h2⟩
theorem Vals.set {x : V} {u : Value} (r : RelV x u) : ∀ {xs : List V} {us : List Value} (i : Nat), Vals xs us → Vals (xs.set i x) (us.set i u)
  | _, _, _, .nil => .nil
  | _, _, 0, .cons _ t => .cons r t
  | _, _, i + 1, .cons q t => .cons q (Vals.set r i t)
theorem Vals.append : ∀ {xs ys : List V} {us ws : List Value}, Vals xs us → Vals ys ws → Vals (xs ++ ys) (us ++ ws)
  | _, _, _, _, .nil, s => s
  | _, _, _, _, .cons r t, s => .cons r (Vals.append t s)
theorem Vals.take : ∀ {xs : List V} {us : List Value} (n : Nat), Vals xs us → Vals (xs.take n) (us.take n)
  | _, _, 0, _ => .nil
  | _, _, _ + 1, .nil => .nil
  | _, _, n + 1, .cons r t => .cons r (Vals.take n t)
theorem Vals.drop : ∀ {xs : List V} {us : List Value} (n : Nat), Vals xs us → Vals (xs.drop n) (us.drop n)
  | _, _, 0, r => r
  | _, _, _ + 1, .nil => .nil
  | _, _, n + 1, .cons _ t => Vals.drop n t

def RelO : Option V → Option Value → Prop
  | some v, some u => RelV v u
  | none, none => True
  | _, _ => False
def KV {κ : Type} : List (κ × V) → List (κ × Value) → Prop := Paired fun (p : κ × V) (q : κ × Value) => p.1 = q.1 ∧ RelV p.2 q.2

/-- a key of a dict (00_mix): an int or a text -/
def kV : Key → V
  | .inl i => .int i
  | .inr x => .str x

/-- what stands at a tracked address -/
inductive HO where
  /-- a list -/
  | lst (xs : List V)
  /-- a tuple (never changes) -/
  | tup (xs : List V)
  /-- a dict whose keys are ints and texts; one whose keys are tuples of ints and texts (the empty one is both) -/
  | dK (kvs : List (Key × V)) | dT (kvs : List (List Key × V))
  /-- a set of ints: its members, its size -/
  | set (S : Int → Bool) (n : Nat)
  /-- an instance of the class at C, its dict at dx, its attributes -/
  | ins (C dx : Addr) (fs : List (Str × V))
  /-- the dict of the instance at x -/
  | own (x : Addr)
  /-- the dict of an exception -/
  | xd (fs : List (Str × V))
  /-- a bound method, f of x -/
  | met (f x : Addr)
  /-- a range object lo, lo + 1, .. below hi -/
  | rng (lo hi : Int)
  /-- a thing that is known to the object (the script; a dict while a loop walks it): read, never written while it is so -/
  | frz (o : Obj) (u : HO)
  /-- a code object's table -/
  | tbl (ps : Array Value)
  /-- any other thing, by what is true of its one object (a def of one's own: SetO a S n := HO.ext fun h => ..) -/
  | ext (φ : Heap → Prop)

abbrev Hp := Addr → Option HO
def upd (H : Hp) (a : Addr) (o : HO) : Hp := fun b => if b = a then some o else H b
theorem upd_same {H : Hp} {a : Addr} {o : HO} : upd H a o a = some o := by unfold upd; rw [if_pos rfl]
theorem upd_ne {H : Hp} {a b : Addr} {o : HO} (h : b ≠ a) : upd H a o b = H b := by unfold upd; rw [if_neg h]
theorem upd_upd {H : Hp} {a : Addr} {o u : HO} : upd (upd H a o) a u = upd H a u := by
  funext b; unfold upd; split <;> rfl
/-- two objects of different content stand apart -/
theorem ne_of {H : Hp} {a b : Addr} {o u : HO} (h : H a = some o) (h' : H b = some u) (d : o ≠ u) : a ≠ b := by
  intro e; subst e; rw [h] at h'; exact d (Option.some.inj h')
theorem ne_of_none {H : Hp} {a b : Addr} {o : HO} (h : H a = some o) (h' : H b = none) : a ≠ b := by
  intro e; subst e; rw [h] at h'; cases h'

section
variable (P : Program) (w : World)
def ObjOk (H : Hp) (h : Heap) (a : Addr) : HO → Prop
  | .lst xs => xs.length ≤ sizeLine ∧ ∃ (its : List Value) (n : Nat), Vals xs its ∧ h.get? a = some { cls := .type "list", data := .seq its.toArray n }
  | .tup xs => xs.length ≤ sizeLine ∧ ∃ its : List Value, Vals xs its ∧ IsTup h a its.toArray
  | .dK kvs => kvs.length ≤ sizeLine ∧ (a == sysModules) = false ∧ ∃ vs, KV kvs vs ∧ h.DictOf (mixKind P w) a vs
  | .dT kvs => kvs.length ≤ sizeLine ∧ (a == sysModules) = false ∧ ∃ xs : List (List Key × Addr × Value),
      Paired (fun (p : List Key × V) (q : List Key × Addr × Value) => p.1 = q.1 ∧ H q.2.1 = some (.tup (p.1.map kV)) ∧ RelV p.2 q.2.2) kvs xs ∧
      ∃ o es ep, h.get? a = some o ∧ o.ExactDict ∧ o.data = .dict es ep ∧ es.toList = xs.map (entryOfKey (tupleKind (mixKind P w))) ∧ (xs.map (·.1)).Nodup
  | .set S n => h.SetOf (intKind P w) a S n
  | .ins C dx fs => H dx = some (.own a) ∧ fs.length ≤ 1000 ∧ dx ≠ a ∧ h.get? a = some (PySem.W.instObj C dx) ∧
      ∃ mA, h.Ns1 dx mA ∧ (∀ f, RelO (fs.lookup f) (mA f)) ∧ PySem.Within mA (fs.map (·.1))
  | .own _ => ∃ o, h.get? a = some o
  | .xd fs => ∃ mA, h.Ns1 a mA ∧ ∀ f, RelO (fs.lookup f) (mA f)
  | .rng lo hi => ∃ t u v, h.get? a = some { cls := .type "range", data := .fields #[.int lo t, .int hi u, .int 1 v] }
  | .frz o u => h.get? a = some o ∧ ObjOk H h a u
  | .tbl ps => h.get? a = some { cls := .none, data := .fields ps }
  | .met f x => h.get? a = some (PySem.W.methodObj (.ref f) (.ref x))
  | .ext φ => φ h ∧ (∃ o, h.get? a = some o) ∧ ∀ h1 h2 : Heap, φ h1 → (∀ o, h1.get? a = some o → h2.get? a = some o) → φ h2
/-- the abstract heap is held -/
def HOk (H : Hp) (h : Heap) : Prop := ∀ a o, H a = some o → ObjOk P w H h a o
end

section
variable {P : Program} {w : World} {H H' : Hp} {h h' : Heap} {a : Addr} {o : HO}
theorem ObjOk.lt (x : ObjOk P w H h a o) : a < h.objs.size := by
  cases o with
  | lst xs => obtain ⟨_, _, _, _, e⟩ := x; exact Heap.lt_size e
  | tup xs => obtain ⟨_, _, _, p⟩ := x; exact p.lt
  | dK kvs => obtain ⟨_, _, _, _, o, _, _, e, _⟩ := x; exact Heap.lt_size e
  | dT kvs => obtain ⟨_, _, _, _, o, _, _, e, _⟩ := x; exact Heap.lt_size e
  | set S n => obtain ⟨o, _, _, _, e, _⟩ := x; exact Heap.lt_size e
  | ins C dx fs => obtain ⟨_, _, _, e, _⟩ := x; exact Heap.lt_size e
  | own y => obtain ⟨_, e⟩ := x; exact Heap.lt_size e
  | xd fs => obtain ⟨_, ⟨_, _, _, e, _⟩, _⟩ := x; exact Heap.lt_size e
  | rng lo hi => obtain ⟨_, _, _, e⟩ := x; exact Heap.lt_size e
  | frz ob u => obtain ⟨e, _⟩ := x; exact Heap.lt_size e
  | tbl ps => exact Heap.lt_size (show h.get? a = some _ from x)
  | met f y => exact Heap.lt_size (show h.get? a = some _ from x)
  | ext φ => obtain ⟨_, ⟨_, e⟩, _⟩ := x; exact Heap.lt_size e
theorem Paired.mapP {α β : Type} {F G : α → β → Prop} : ∀ {l₁ : List α} {l₂ : List β}, Paired F l₁ l₂ → (∀ a b, F a b → G a b) → Paired G l₁ l₂
  | _, _, .nil, _ => .nil
  | _, _, .cons r t, f => .cons (f _ _ r) (Paired.mapP t f)
/-- what an object's description leans on: its own object, its own dict, the tuples -/
theorem ObjOk.stay (x : ObjOk P w H h a o) (k : ∀ b u, (b = a ∨ H b = some (.own a)) → h.get? b = some u → h'.get? b = some u)
    (ho : ∀ b, H b = some (.own a) → H' b = some (.own a)) (ht : ∀ b xs, H b = some (.tup xs) → H' b = some (.tup xs)) : ObjOk P w H' h' a o := by
  induction o with
  | lst xs => obtain ⟨z, its, n, r, e⟩ := x; exact ⟨z, its, n, r, k _ _ (.inl rfl) e⟩
  | tup xs => obtain ⟨z, its, r, ob, e, c⟩ := x; exact ⟨z, its, r, ob, k _ _ (.inl rfl) e, c⟩
  | dK kvs => obtain ⟨z, y, vs, r, ob, es, ep, e, c⟩ := x; exact ⟨z, y, vs, r, ob, es, ep, k _ _ (.inl rfl) e, c⟩
  | dT kvs =>
    obtain ⟨z, y, xs, r, ob, es, ep, e, c⟩ := x
    exact ⟨z, y, xs, Paired.mapP r fun p q z => ⟨z.1, ht _ _ z.2.1, z.2.2⟩, ob, es, ep, k _ _ (.inl rfl) e, c⟩
  | set S n => obtain ⟨ob, es, ep, t, e, c⟩ := x; exact ⟨ob, es, ep, t, k _ _ (.inl rfl) e, c⟩
  | ins C dx fs =>
    obtain ⟨d, z, ne, e, mA, ⟨od, es, ep, e2, c⟩, r⟩ := x
    exact ⟨ho _ d, z, ne, k _ _ (.inl rfl) e, mA, ⟨od, es, ep, k _ _ (.inr d) e2, c⟩, r⟩
  | own y => obtain ⟨ob, e⟩ := x; exact ⟨ob, k _ _ (.inl rfl) e⟩
  | xd fs => obtain ⟨mA, ⟨od, es, ep, e, c⟩, r⟩ := x; exact ⟨mA, ⟨od, es, ep, k _ _ (.inl rfl) e, c⟩, r⟩
  | rng lo hi => obtain ⟨t, u, v, e⟩ := x; exact ⟨t, u, v, k _ _ (.inl rfl) e⟩
  | frz ob u ih => obtain ⟨e, q⟩ := x; exact ⟨k _ _ (.inl rfl) e, ih q⟩
  | tbl ps =>
    have e : h.get? a = some { cls := .none, data := .fields ps } := x
    show h'.get? a = some { cls := .none, data := .fields ps }
    exact k a _ (.inl rfl) e
  | met f y =>
    have e : h.get? a = some (PySem.W.methodObj (.ref f) (.ref y)) := x
    show h'.get? a = some (PySem.W.methodObj (.ref f) (.ref y))
    exact k a _ (.inl rfl) e
  | ext φ => obtain ⟨p, ⟨o, e⟩, st⟩ := x; exact ⟨st _ _ p fun o q => k _ _ (.inl rfl) q, ⟨o, k _ _ (.inl rfl) e⟩, st⟩
theorem HOk.lt (x : HOk P w H h) (e : H a = some o) : a < h.objs.size := (x a o e).lt
theorem HOk.fresh (x : HOk P w H h) (e : h.objs.size ≤ a) : H a = none := by
  cases q : H a with
  | none => rfl
  | some u => exact absurd (Nat.lt_of_lt_of_le (x.lt q) e) (Nat.lt_irrefl _)
/-- every object of the heap is kept -/
theorem HOk.kept (x : HOk P w H h) (k : ∀ b u, h.get? b = some u → h'.get? b = some u) : HOk P w H h' := fun a o e =>
  (x a o e).stay (fun b u _ q => k b u q) (fun _ q => q) fun _ _ q => q
/-- a new object is laid and tracked -/
theorem HOk.laid (x : HOk P w H h) (k : ∀ b u, h.get? b = some u → h'.get? b = some u) (hp : h.objs.size ≤ a) (new : ObjOk P w (upd H a o) h' a o) : HOk P w (upd H a o) h' := fun b u e => by
  have hn := x.fresh hp
  by_cases hb : b = a
  · subst hb; rw [upd_same] at e; cases e; exact new
  · rw [upd_ne hb] at e
    exact (x b u e).stay (fun c v _ q => k c v q) (fun c q => by rw [upd_ne (ne_of_none q hn)]; exact q) fun c xs q => by rw [upd_ne (ne_of_none q hn)]; exact q
end

/-- what may be read as u: it is u, or a known u -/
def Rd (H : Hp) (a : Addr) (u : HO) : Prop := H a = some u ∨ ∃ o, H a = some (.frz o u)
theorem Rd.of {H : Hp} {a : Addr} {u : HO} (h : H a = some u) : Rd H a u := .inl h
theorem Rd.ok {P : Program} {w : World} {H : Hp} {h : Heap} {a : Addr} {u : HO} (r : Rd H a u) (x : HOk P w H h) : ObjOk P w H h a u := by
  rcases r with r | ⟨o, r⟩
  · exact x a u r
  · obtain ⟨_, q⟩ := x a _ r
    exact q
/-- what may be written -/
def Mut : Option HO → Prop
  | some (.lst _) => True
  | some (.dK _) => True
  | some (.dT _) => True
  | some (.set _ _) => True
  | some (.ins _ _ _) => True
  | some (.ext _) => True
  | _ => False
section
variable {P : Program} {w : World} {H : Hp} {h h' : Heap} {x e : Addr} {o' : HO}
/-- the object at e is changed: x itself, or the dict of the instance x -/
theorem HOk.write (ok : HOk P w H h) (mu : Mut (H x)) (he : e = x ∨ H e = some (.own x)) (k : ∀ b u, b ≠ e → h.get? b = some u → h'.get? b = some u) (heo : ∃ u, h'.get? e = some u)
    (new : ObjOk P w (upd H x o') h' x o') : HOk P w (upd H x o') h' := fun b u q => by
  have nown : ∀ c y, H c = some (.own y) → c ≠ x := fun c y r z => by subst z; rw [r] at mu; exact mu
  have ntup : ∀ c xs, H c = some (.tup xs) → c ≠ x := fun c xs r z => by subst z; rw [r] at mu; exact mu
  by_cases hb : b = x
  · subst hb; rw [upd_same] at q; cases q; exact new
  · rw [upd_ne hb] at q
    by_cases hbe : b = e
    · have q' : H b = some (.own x) := by
        rcases he with z | z
        · exact absurd (hbe.trans z) hb
        · rw [hbe]; exact z
      rw [q] at q'; cases q'
      obtain ⟨v, hv⟩ := heo
      exact ⟨v, by rw [hbe]; exact hv⟩
    · refine (ok b u q).stay (fun c v hc r => k c v ?_ r) (fun c r => by rw [upd_ne (nown c b r)]; exact r) fun c xs r => by rw [upd_ne (ntup c xs r)]; exact r
      rcases hc with rfl | hc
      · exact hbe
      · rintro rfl
        rcases he with z | z
        · exact nown c b hc z
        · rw [hc] at z; cases z; exact hb rfl
end

/-! ### kept unless tracked; of the frames at fs (the callers') the slots may change (an exception that passes writes there); of the records at ex (iterators) nothing is said -/
structure Un (fs ex : List Addr) (H H' : Hp) (h h' : Heap) : Prop where
  keep : ∀ b o, h.get? b = some o → H b = none → b ∉ fs → b ∉ ex → h'.get? b = some o
  slot : ∀ b o, h.get? b = some o → H b = none → b ∈ fs → b ∉ ex → ∃ sl, h'.get? b = some { o with slots := sl }
  free : ∀ b o, h.get? b = some o → H b = none → b ∉ ex → H' b = none
  there : ∀ b o, h.get? b = some o → b ∉ ex → ∃ o', h'.get? b = some o'
  tups : ∀ b xs, H b = some (.tup xs) → H' b = some (.tup xs)
  frzs : ∀ b o u, H b = some (.frz o u) → H' b = some (.frz o u)
  tbls : ∀ b ps, H b = some (.tbl ps) → ∃ more, H' b = some (.tbl (ps ++ more))
section
variable {fs fs' ex ex' : List Addr} {H H1 H2 : Hp} {h h1 h2 h' : Heap} {a x e : Addr} {o : HO}
theorem Un.any (u : Un fs ex H H1 h h1) {b : Addr} {ob : Obj} (q : h.get? b = some ob) (n : H b = none) (hx : b ∉ ex) : ∃ sl, h1.get? b = some { ob with slots := sl } := by
  by_cases hb : b ∈ fs
  · exact u.slot b ob q n hb hx
  · exact ⟨ob.slots, u.keep b ob q n hb hx⟩
theorem Un.trans (a : Un fs ex H H1 h h1) (b : Un fs ex H1 H2 h1 h2) : Un fs ex H H2 h h2 where
  keep := fun c ob q n hc hx => b.keep c ob (a.keep c ob q n hc hx) (a.free c ob q n hx) hc hx
  slot := fun c ob q n hc hx => by
    obtain ⟨sl, e1⟩ := a.slot c ob q n hc hx
    obtain ⟨sl', e2⟩ := b.slot c _ e1 (a.free c ob q n hx) hc hx
    exact ⟨sl', e2⟩
  free := fun c ob q n hx => by
    obtain ⟨o', e1⟩ := a.there c ob q hx
    exact b.free c o' e1 (a.free c ob q n hx) hx
  there := fun c ob q hx => by
    obtain ⟨o', e1⟩ := a.there c ob q hx
    exact b.there c o' e1 hx
  tups := fun c xs q => b.tups c xs (a.tups c xs q)
  frzs := fun c ob xs q => b.frzs c ob xs (a.frzs c ob xs q)
  tbls := fun c ps q => by
    obtain ⟨m1, e1⟩ := a.tbls c ps q
    obtain ⟨m2, e2⟩ := b.tbls c _ e1
    exact ⟨m1 ++ m2, by rw [e2, Array.append_assoc]⟩
theorem Un.kept (k : ∀ b u, h.get? b = some u → h'.get? b = some u) : Un fs ex H H h h' :=
  ⟨fun b ob q _ _ _ => k b ob q, fun b ob q _ _ _ => ⟨ob.slots, k b ob q⟩, fun _ _ _ n _ => n, fun b ob q _ => ⟨ob, k b ob q⟩, fun _ _ q => q, fun _ _ _ q => q, fun _ ps q => ⟨#[], by rw [q]; simp⟩⟩
theorem Un.refl : Un fs ex H H h h := Un.kept fun _ _ q => q
theorem Un.laid (k : ∀ b u, h.get? b = some u → h'.get? b = some u) (hp : h.objs.size ≤ a) (hn : H a = none) : Un fs ex H (upd H a o) h h' where
  keep := fun b u q _ _ _ => k b u q
  slot := fun b u q _ _ _ => ⟨u.slots, k b u q⟩
  free := fun b u q n _ => by rw [upd_ne (Nat.ne_of_lt (Nat.lt_of_lt_of_le (Heap.lt_size q) hp))]; exact n
  there := fun b u q _ => ⟨u, k b u q⟩
  tups := fun b xs q => by rw [upd_ne (ne_of_none q hn)]; exact q
  frzs := fun b u xs q => by rw [upd_ne (ne_of_none q hn)]; exact q
  tbls := fun b ps q => ⟨#[], by rw [upd_ne (ne_of_none q hn), q]; simp⟩
theorem Un.write (mu : Mut (H x)) (he : e = x ∨ H e = some (.own x)) (k : ∀ b u, b ≠ e → h.get? b = some u → h'.get? b = some u) (heo : ∃ u, h'.get? e = some u) : Un fs ex H (upd H x o) h h' := by
  have hx : ∀ b, H b = none → b ≠ x := fun b n z => by subst z; rw [n] at mu; exact mu
  have hb : ∀ b, H b = none → b ≠ e := fun b n z => by
    subst z
    rcases he with r | r
    · exact hx b n r
    · rw [n] at r; cases r
  have hm : ∀ b u, H b = some u → ¬ Mut (some u) → b ≠ x := fun b u q nm z => by subst z; rw [q] at mu; exact nm mu
  refine ⟨fun b u q n _ _ => k b u (hb b n) q, fun b u q n _ _ => ⟨u.slots, k b u (hb b n) q⟩, fun b u q n _ => by rw [upd_ne (hx b n)]; exact n, fun b u q _ => ?_,
    fun b xs q => by rw [upd_ne (hm b _ q fun z => z)]; exact q, fun b u xs q => by rw [upd_ne (hm b _ q fun z => z)]; exact q, fun b ps q => ⟨#[], by rw [upd_ne (hm b _ q fun z => z), q]; simp⟩⟩
  by_cases hbe : b = e
  · subst hbe; exact heo
  · exact ⟨u, k b u hbe q⟩
theorem Un.mono (u : Un fs ex H H1 h h1) (hs : ∀ b ∈ fs, b ∈ fs') (hx : ∀ b ∈ ex, b ∈ ex') : Un fs' ex' H H1 h h1 :=
  ⟨fun b ob q n hb he => u.keep b ob q n (fun z => hb (hs b z)) fun z => he (hx b z), fun _ _ q n _ he => u.any q n fun z => he (hx _ z), fun b ob q n he => u.free b ob q n fun z => he (hx b z), fun b ob q he => u.there b ob q fun z => he (hx b z), u.tups, u.frzs, u.tbls⟩
end

/-! ### the heap without what is tracked -/
def trk (h : Heap) (H : Hp) : List Addr := (List.range h.objs.size).filter fun a => (H a).isSome
def hidT (h : Heap) (H : Hp) : Heap := PySem.W.hideAll h (trk h H)
theorem hidT_size (h : Heap) (H : Hp) : (hidT h H).objs.size = h.objs.size := PySem.W.hideAll_size _ _
theorem hidT_get {h : Heap} {H : Hp} {b : Addr} {o : Obj} (e : h.get? b = some o) (n : H b = none) : (hidT h H).get? b = some o :=
  PySem.W.hideAll_get _ e fun hm => by
    have q : (H b).isSome = true := (List.mem_filter.mp hm).2
    rw [n] at q; simp at q
theorem of_hidT {h : Heap} {H : Hp} {b : Addr} {o : Obj} (e : (hidT h H).get? b = some o) : h.get? b = some o ∧ H b = none := by
  have e' : h.get? b = some o := PySem.W.of_hideAll (trk h H) e
  refine ⟨e', ?_⟩
  cases q : H b with
  | none => rfl
  | some x =>
    have hm : b ∈ trk h H := List.mem_filter.mpr ⟨List.mem_range.mpr (Heap.lt_size e'), by simp [q]⟩
    have z : (hidT h H).get? b = none := PySem.W.hideAll_none (trk h H) hm
    rw [z] at e; cases e

/-! ### OpenK's ledger, filled with every new object but one -/
def allNews (g h : Heap) (L : Addr) : List (Addr × Obj) := (List.range h.objs.size).filterMap fun a => if a = L ∨ (g.get? a).isSome = true then none else (h.get? a).map fun o => (a, o)
def rest (g h : Heap) (L d : Addr) : List (Addr × Obj) := (allNews g h L).filter fun p => decide (p.1 ≠ d)
end L2

namespace L2
open PySem PySem.Spec PyProof.Rows

/-- the module's facts, over the base: the heap at the law's entry without what is tracked there -/
structure Mod (K : PySem.W.Frag) (mg : Str → Option Value) (base : Heap) : Prop where
  kin : K.In base
  glob : base.Ns mainGlobals mg
  blt : ∃ mb, base.Ns builtinsNs mb ∧ ∀ x : Str, x ≠ "__name__" → mb x = bootBuiltins x
  nolimit : base.NoLimit

/-- the context: a def's body (or a comprehension's block) running. base: fixed through the whole law; s₀, H₀: the entry; outer: the frames whose slots others may change (a def's callers); stack: all frames that run;
   ex: iterators that were made ahead of the entry and are walked here (a comprehension's); fn: the names whose cells were made at the entry (a def: all; a comprehension's block: its own); calm: not within an except suite; pn: pins that every state bears; xe: what is wanted of an exception that leaves the code -/
structure Cx where
  prog : Program
  w : World
  K : PySem.W.Frag
  mg : Str → Option Value
  base : Heap
  A : Around
  N : List Str
  s_0 : Shared
  H_0 : Hp
  env : Env
  outer : List Env
  stack : List Env
  ex : List Addr
  fn : Str → Bool
  calm : Bool
  pn : List (Addr × Obj)
  xe : Value → Shared → Prop
/-- the callers' frames -/
def frs (l : List Env) : List Addr := l.filterMap (·.frame)
abbrev Cx.fs (X : Cx) : List Addr := frs X.outer

def Vis (sc : Scope) (x : Str) : Prop := sc.names.lookup x = some .local ∨ sc.names.lookup x = some .cell ∨ sc.names.lookup x = some .free
def Loc (sc : Scope) (x : Str) : Prop := sc.names.lookup x = some .local ∨ sc.names.lookup x = some .cell
def Look (env : Env) (h : Heap) (m : Str → Option Value) (x : Str) (u : Value) : Prop :=
  (env.kindOf x = some .local ∧ m x = some u) ∨ ((env.kindOf x = some .cell ∨ env.kindOf x = some .free) ∧ ∃ c, env.cells.lookup x = some c ∧ h.IsCell c (some u))

structure Cx.Ok (X : Cx) : Prop where
  mod : Mod X.K X.mg X.base
  kind : X.env.scope.kind = .function
  glob : X.env.globals = mainGlobals
  blt : X.env.builtins = builtinsNs
  above : X.s_0.heap.objs.size ≤ X.env.locals
  inj : ∀ x y c, X.env.cells.lookup x = some c → X.env.cells.lookup y = some c → x = y
  has : ∀ x, (X.env.kindOf x = some .cell ∨ X.env.kindOf x = some .free) → ∃ c, X.env.cells.lookup x = some c
  cab : ∀ x c, X.fn x = true → X.env.cells.lookup x = some c → X.s_0.heap.objs.size ≤ c
  hd : X.calm = true → X.A.handled = none
  frames : X.A.frames = some X.stack
  stk : X.stack = X.outer ∨ (X.stack = X.env :: X.outer ∧ X.env.frame = some X.env.locals)
  exf : ∀ b ∈ X.ex, b ≠ X.env.locals ∧ ∀ x c, X.env.cells.lookup x = some c → c ≠ b
  bs : ∀ b o, X.base.get? b = some o → X.s_0.heap.get? b = some o ∧ X.H_0 b = none
  bsz : X.base.objs.size ≤ X.s_0.heap.objs.size
  noex : ∀ b o, X.base.get? b = some o → b ∉ X.ex
  exfs : ∀ b ∈ X.ex, b ∉ X.fs
  funs : X.s_0.heap.FunFrames X.base X.outer
  frf : ∀ b ∈ X.fs, X.H_0 b = none

structure Inv (X : Cx) (pins : List (Addr × Obj)) (σ : List (Option V)) (H : Hp) (s : Shared) : Prop where
  ok : X.Ok
  os : s.os = X.s_0.os
  bare : AllBare s.gens
  base : Un X.fs X.ex X.H_0 H X.s_0.heap s.heap
  loc : ∃ m, s.heap.Ns X.env.locals m ∧ ∀ (i : Nat) (x : Str) (v : V), X.N[i]? = some x → σ[i]? = some (some v) → Vis X.env.scope x → ∃ u, RelV v u ∧ Look X.env s.heap m x u
  cell : ∀ x c, X.env.cells.lookup x = some c → ∃ v, s.heap.IsCell c v
  free : H X.env.locals = none
  freeC : ∀ x c, X.env.cells.lookup x = some c → H c = none
  pin : ∀ p ∈ X.pn ++ pins, s.heap.get? p.1 = some p.2 ∧ H p.1 = none ∧ p.1 ≠ X.env.locals ∧ p.1 ∉ X.fs ∧ ∀ v, p.2.data ≠ .cell v
  hok : HOk X.prog X.w H s.heap
  len : σ.length = X.N.length

section
variable {X : Cx} {pins : List (Addr × Obj)} {σ : List (Option V)} {H H' : Hp} {s : Shared} {h' : Heap}

theorem Cx.Ok.nofr (ok : X.Ok) {b : Addr} {o : Obj} (e : X.base.get? b = some o) : b ∉ X.fs := fun hb => by
  have := (ok.funs.mem hb).1
  rw [e] at this; cases this
theorem Inv.bs (I : Inv X pins σ H s) : ∀ b o, X.base.get? b = some o → s.heap.get? b = some o ∧ H b = none := fun b o e =>
  ⟨I.base.keep b o (I.ok.bs b o e).1 (I.ok.bs b o e).2 (I.ok.nofr e) (I.ok.noex b o e), I.base.free b o (I.ok.bs b o e).1 (I.ok.bs b o e).2 (I.ok.noex b o e)⟩
theorem Inv.bk (I : Inv X pins σ H s) : ∀ b o, X.base.get? b = some o → s.heap.get? b = some o := fun b o e => (I.bs b o e).1
theorem Inv.mod (I : Inv X pins σ H s) : Mod X.K X.mg X.base := I.ok.mod
theorem Inv.kIn (I : Inv X pins σ H s) : X.K.In s.heap := I.ok.mod.kin.keeps I.bk
theorem Inv.nolimit (I : Inv X pins σ H s) : s.heap.NoLimit := I.ok.mod.nolimit.keeps I.bk
/-- the frame over the base: for OpenK's rules (K.In X.base is I.mod.kin) -/
theorem Inv.fr (I : Inv X pins σ H s) : ∃ m, Fr X.base X.env.locals s.heap m :=
  let ⟨m, hn, _⟩ := I.loc
  ⟨m, hn, I.bk, Nat.le_trans I.ok.bsz I.ok.above⟩
theorem Inv.lt (I : Inv X pins σ H s) : X.env.locals < s.heap.objs.size := let ⟨_, hn, _⟩ := I.loc; hn.lt
theorem Inv.sz (I : Inv X pins σ H s) : X.s_0.heap.objs.size ≤ s.heap.objs.size := Nat.le_trans I.ok.above (Nat.le_of_lt I.lt)
theorem Inv.nofs (I : Inv X pins σ H s) {a : Addr} (h : s.heap.objs.size ≤ a) : a ∉ X.fs := fun hb => by
  obtain ⟨_, o, ho, _⟩ := I.ok.funs.mem hb
  exact absurd (Nat.lt_of_lt_of_le (Heap.lt_size ho) (Nat.le_trans I.sz h)) (Nat.lt_irrefl _)
theorem Inv.cne (I : Inv X pins σ H s) : ∀ x c, X.env.cells.lookup x = some c → c ≠ X.env.locals := fun x c e z => by
  obtain ⟨v, o, ho, hd⟩ := I.cell x c e
  obtain ⟨m, ⟨o', es, ep, ho', hd', _⟩, _⟩ := I.loc
  rw [z, ho'] at ho; cases ho; rw [hd'] at hd; cases hd
theorem Inv.funs (I : Inv X pins σ H s) : s.heap.FunFrames X.base X.outer := by
  have all : ∀ (l : List Env), (∀ b ∈ frs l, b ∈ X.fs) → X.s_0.heap.FunFrames X.base l → s.heap.FunFrames X.base l := by
    intro l
    induction l with
    | nil => intro _ _; trivial
    | cons env r ih =>
      intro hs hl
      obtain ⟨hk, ⟨L, o, hf, hn, ho, hd⟩, hr⟩ := hl
      have hL : L ∈ X.fs := hs L (by unfold frs; rw [List.filterMap_cons, hf]; exact List.mem_cons_self)
      obtain ⟨sl, e⟩ := I.base.slot L o ho (I.ok.frf L hL) hL fun z => I.ok.exfs L z hL
      exact ⟨hk, ⟨L, _, hf, hn, e, hd⟩, ih (fun b hb => hs b (by unfold frs; rw [List.filterMap_cons, hf]; exact List.mem_cons_of_mem _ hb)) hr⟩
  exact all X.outer (fun _ hb => hb) I.ok.funs

/-- the frames that run, for a call -/
theorem Inv.stack (I : Inv X pins σ H s) : s.heap.FunFrames X.base X.stack := by
  rcases I.ok.stk with e | ⟨e, hf⟩
  · rw [e]; exact I.funs
  · rw [e]
    obtain ⟨m, hn, _⟩ := I.loc
    refine .cons (by rw [I.ok.kind]; decide) hf hn ?_ I.funs
    exact Heap.get?_none_of_le (Nat.le_trans I.ok.bsz I.ok.above)
theorem Inv.stkSub (I : Inv X pins σ H s) : ∀ b ∈ frs X.stack, b ∈ X.env.locals :: X.fs := fun b hb => by
  rcases I.ok.stk with e | ⟨e, hf⟩
  · rw [e] at hb; exact List.mem_cons_of_mem _ hb
  · rw [e] at hb
    unfold frs at hb
    rw [List.filterMap_cons, hf] at hb
    exact hb
theorem Inv.stkFree (I : Inv X pins σ H s) : ∀ b ∈ frs X.stack, H b = none := fun b hb => by
  rcases List.mem_cons.mp (I.stkSub b hb) with e | hb
  · rw [e]; exact I.free
  · obtain ⟨_, o, ho, _⟩ := I.ok.funs.mem hb
    exact I.base.free b o ho (I.ok.frf b hb) fun z => I.ok.exfs b z hb

/-- THE STEP: the untracked objects but the frame and the records at ch are kept (the callers' frames up to slots), the frame's map is kept, the new abstract heap is held -/
theorem Inv.step {g' : Array GenState} {t' : Nat} {d' : Drawn} {ch : List Addr} (I : Inv X pins σ H s)
    (hch : ∀ b ∈ ch, (b ∈ X.ex ∨ X.s_0.heap.objs.size ≤ b) ∧ b ≠ X.env.locals ∧ (∀ x c, X.env.cells.lookup x = some c → c ≠ b) ∧ ∀ p ∈ X.pn ++ pins, p.1 ≠ b)
    (keep : ∀ b o, b ≠ X.env.locals → b ∉ X.fs → b ∉ ch → s.heap.get? b = some o → H b = none → h'.get? b = some o)
    (slot : ∀ b o, b ≠ X.env.locals → b ∈ X.fs → b ∉ ch → s.heap.get? b = some o → H b = none → ∃ sl, h'.get? b = some { o with slots := sl }) (free : ∀ b o, b ∉ ch → s.heap.get? b = some o → H b = none → H' b = none)
    (there : ∀ b o, b ∉ ch → s.heap.get? b = some o → ∃ o', h'.get? b = some o')
    (tups : ∀ b xs, H b = some (.tup xs) → H' b = some (.tup xs)) (frzs : ∀ b o u, H b = some (.frz o u) → H' b = some (.frz o u)) (tbls : ∀ b ps, H b = some (.tbl ps) → ∃ more, H' b = some (.tbl (ps ++ more)))
    (ns : ∀ m, s.heap.Ns X.env.locals m → h'.Ns X.env.locals m) (hok : HOk X.prog X.w H' h') (hg : AllBare g') :
    Inv X pins σ H' { s with heap := h', gens := g', drawn := d', toks := t' } := by
  have neL : ∀ b o, X.s_0.heap.get? b = some o → b ≠ X.env.locals := fun b o e => Nat.ne_of_lt (Nat.lt_of_lt_of_le (Heap.lt_size e) I.ok.above)
  have neC : ∀ b o, X.s_0.heap.get? b = some o → b ∉ X.ex → b ∉ ch := fun b o e hx hb => by
    rcases (hch b hb).1 with z | z
    · exact hx z
    · exact absurd (Nat.lt_of_lt_of_le (Heap.lt_size e) z) (Nat.lt_irrefl _)
  have cellK : ∀ x c, X.env.cells.lookup x = some c → ∀ v, s.heap.IsCell c v → h'.IsCell c v := fun x c e v ⟨o, ho, hd⟩ => by
    have nch : c ∉ ch := fun z => (hch c z).2.2.1 x c e rfl
    by_cases hc : c ∈ X.fs
    · obtain ⟨sl, q⟩ := slot c o (I.cne x c e) hc nch ho (I.freeC x c e)
      exact ⟨_, q, hd⟩
    · exact ⟨o, keep c o (I.cne x c e) hc nch ho (I.freeC x c e), hd⟩
  refine ⟨I.ok, I.os, hg, ⟨fun b o e n hb hx => ?_, fun b o e n hb hx => ?_, fun b o e n hx => ?_, fun b o e hx => ?_, fun b xs e => tups b xs (I.base.tups b xs e), fun b o xs e => frzs b o xs (I.base.frzs b o xs e), fun b ps e => ?_⟩, ?_, fun x c e => ?_, ?_, fun x c e => ?_, fun p hp => ?_, hok, I.len⟩
  · exact keep b o (neL b o e) hb (neC b o e hx) (I.base.keep b o e n hb hx) (I.base.free b o e n hx)
  · obtain ⟨sl, e1⟩ := I.base.slot b o e n hb hx
    obtain ⟨sl', e2⟩ := slot b _ (neL b o e) hb (neC b o e hx) e1 (I.base.free b o e n hx)
    exact ⟨sl', e2⟩
  · obtain ⟨o', e1⟩ := I.base.there b o e hx
    exact free b o' (neC b o e hx) e1 (I.base.free b o e n hx)
  · obtain ⟨o', e1⟩ := I.base.there b o e hx
    exact there b o' (neC b o e hx) e1
  · obtain ⟨m1, e1⟩ := I.base.tbls b ps e
    obtain ⟨m2, e2⟩ := tbls b _ e1
    exact ⟨m1 ++ m2, by rw [e2, Array.append_assoc]⟩
  · obtain ⟨m, hn, hl⟩ := I.loc
    refine ⟨m, ns m hn, fun i x v e1 e2 e3 => ?_⟩
    obtain ⟨u, r, l⟩ := hl i x v e1 e2 e3
    refine ⟨u, r, ?_⟩
    rcases l with l | ⟨k, c, e, z⟩
    · exact .inl l
    · exact .inr ⟨k, c, e, cellK x c e _ z⟩
  · obtain ⟨v, z⟩ := I.cell x c e
    exact ⟨v, cellK x c e v z⟩
  · obtain ⟨m, ⟨o, _, _, ho, _⟩, _⟩ := I.loc
    exact free _ o (fun z => (hch _ z).2.1 rfl) ho I.free
  · obtain ⟨v, o, ho, hd⟩ := I.cell x c e
    exact free c o (fun z => (hch c z).2.2.1 x c e rfl) ho (I.freeC x c e)
  · obtain ⟨e, n, ne, nf, d⟩ := I.pin p hp
    have nch : p.1 ∉ ch := fun z => (hch p.1 z).2.2.2 p hp rfl
    exact ⟨keep p.1 p.2 ne nf nch e n, free p.1 p.2 nch e n, ne, nf, d⟩
/-- .. where the frame's own object is kept too -/
theorem Inv.un {t' : Nat} (I : Inv X pins σ H s) (u : Un X.fs [] H H' s.heap h') (hok : HOk X.prog X.w H' h') : Inv X pins σ H' { s with heap := h', toks := t' } := by
  obtain ⟨m, ⟨o, es, ep, ho, r⟩, _⟩ := id I.loc
  obtain ⟨sl, hL⟩ := u.any ho I.free (by simp)
  exact I.step (g' := s.gens) (d' := s.drawn) (ch := []) (fun _ z => nomatch z) (fun b o _ hb _ e n => u.keep b o e n hb (by simp)) (fun b o _ hb _ e n => u.slot b o e n hb (by simp)) (fun b o _ e n => u.free b o e n (by simp)) (fun b o _ e => u.there b o e (by simp)) u.tups u.frzs u.tbls (fun m' hm => by
    obtain ⟨o', es', ep', ho', r'⟩ := hm
    rw [ho] at ho'; cases ho'
    exact ⟨_, es', ep', hL, r'⟩) hok I.bare
/-- behind a call (or a comprehension's block): the slots of this frame may have changed too, the records at ch may have turned -/
theorem Inv.call {g' : Array GenState} {t' : Nat} {d' : Drawn} {ch : List Addr} (I : Inv X pins σ H s) (u : Un (frs X.stack) ch H H' s.heap h') (hok : HOk X.prog X.w H' h') (hg : AllBare g')
    (hch : ∀ b ∈ ch, (b ∈ X.ex ∨ X.s_0.heap.objs.size ≤ b) ∧ b ≠ X.env.locals ∧ (∀ x c, X.env.cells.lookup x = some c → c ≠ b) ∧ ∀ p ∈ X.pn ++ pins, p.1 ≠ b) :
    Inv X pins σ H' { s with heap := h', gens := g', drawn := d', toks := t' } := by
  obtain ⟨m, ⟨o, es, ep, ho, r⟩, _⟩ := id I.loc
  obtain ⟨sl, hL⟩ := u.any ho I.free fun z => (hch _ z).2.1 rfl
  exact I.step (ch := ch) hch (fun b o hL hb hc e n => u.keep b o e n (fun z => (List.mem_cons.mp (I.stkSub b z)).elim hL hb) hc) (fun b o _ _ hc e n => u.any e n hc) (fun b o hc e n => u.free b o e n hc) (fun b o hc e => u.there b o e hc) u.tups u.frzs u.tbls (fun m' hm => by
    obtain ⟨o', es', ep', ho', r'⟩ := hm
    rw [ho] at ho'; cases ho'
    exact ⟨_, es', ep', hL, r'⟩) hok hg
/-- an untracked record of ours (an iterator) has turned -/
theorem Inv.turned {t' : Nat} {it : Addr} (I : Inv X pins σ H s) (k : ∀ b o, b ≠ it → s.heap.get? b = some o → h'.get? b = some o) (hn : H it = none) (hL : it ≠ X.env.locals)
    (h1 : it ∈ X.ex ∨ X.s_0.heap.objs.size ≤ it) (h2 : ∀ x c, X.env.cells.lookup x = some c → c ≠ it) (h3 : ∀ p ∈ X.pn ++ pins, p.1 ≠ it) : Inv X pins σ H { s with heap := h', toks := t' } := by
  have nit : ∀ b u, H b = some u → b ≠ it := fun b u e z => by rw [z, hn] at e; cases e
  refine I.step (g' := s.gens) (d' := s.drawn) (ch := [it]) (fun b hb => ?_) (fun b o _ _ hc e _ => k b o (fun z => hc (by simp [z])) e) (fun b o _ _ hc e _ => ⟨o.slots, k b o (fun z => hc (by simp [z])) e⟩) (fun _ _ _ _ n => n)
    (fun b o hc e => ⟨o, k b o (fun z => hc (by simp [z])) e⟩) (fun _ _ e => e) (fun _ _ _ e => e) (fun b ps e => ⟨#[], by rw [e]; simp⟩) (fun m hm => ?_) (fun b u e => ?_) I.bare
  · have e : b = it := by simpa using hb
    subst e
    exact ⟨h1, hL, h2, h3⟩
  · obtain ⟨o, es, ep, ho, r⟩ := hm
    exact ⟨o, es, ep, k _ o (Ne.symm hL) ho, r⟩
  · refine (I.hok b u e).stay (fun c v hc q => k c v ?_ q) (fun _ q => q) fun _ _ q => q
    rcases hc with z | z
    · rw [z]; exact nit b u e
    · exact nit c _ z
theorem Inv.tok (I : Inv X pins σ H s) (t : Nat) : Inv X pins σ H { s with toks := t } := I.un (h' := s.heap) (t' := t) Un.refl I.hok
/-- all objects kept -/
theorem Inv.kept {t' : Nat} (I : Inv X pins σ H s) (k : ∀ b u, s.heap.get? b = some u → h'.get? b = some u) : Inv X pins σ H { s with heap := h', toks := t' } := I.un (Un.kept k) (I.hok.kept k)
/-- a new object laid and tracked -/
theorem Inv.laid {a : Addr} {o : HO} {t' : Nat} (I : Inv X pins σ H s) (k : ∀ b u, s.heap.get? b = some u → h'.get? b = some u) (hp : s.heap.objs.size ≤ a) (new : ObjOk X.prog X.w (upd H a o) h' a o) :
    Inv X pins σ (upd H a o) { s with heap := h', toks := t' } := I.un (Un.laid k hp (I.hok.fresh hp)) (I.hok.laid k hp new)
/-- an object written -/
theorem Inv.write {x e : Addr} {o : HO} {t' : Nat} (I : Inv X pins σ H s) (mu : Mut (H x)) (he : e = x ∨ H e = some (.own x)) (k : ∀ b u, b ≠ e → s.heap.get? b = some u → h'.get? b = some u) (heo : ∃ u, h'.get? e = some u)
    (new : ObjOk X.prog X.w (upd H x o) h' x o) : Inv X pins σ (upd H x o) { s with heap := h', toks := t' } := I.un (Un.write mu he k heo) (I.hok.write mu he k heo new)
/-- forgetting slots, pins -/
theorem Inv.weak {σ' : List (Option V)} (I : Inv X pins σ H s) (hl : σ'.length = σ.length) (w : ∀ (i : Nat) v, σ'[i]? = some (some v) → σ[i]? = some (some v)) : Inv X pins σ' H s :=
  ⟨I.ok, I.os, I.bare, I.base, let ⟨m, hn, hl'⟩ := I.loc; ⟨m, hn, fun i x v e1 e2 e3 => hl' i x v e1 (w i v e2) e3⟩, I.cell, I.free, I.freeC, I.pin, I.hok, hl.trans I.len⟩
theorem Inv.pins_of {pins' : List (Addr × Obj)} (I : Inv X pins σ H s) (h : ∀ p ∈ pins', s.heap.get? p.1 = some p.2 ∧ H p.1 = none ∧ p.1 ≠ X.env.locals ∧ p.1 ∉ X.fs ∧ ∀ v, p.2.data ≠ .cell v) : Inv X pins' σ H s :=
  ⟨I.ok, I.os, I.bare, I.base, I.loc, I.cell, I.free, I.freeC, fun p hp => (List.mem_append.mp hp).elim (fun z => I.pin p (List.mem_append_left _ z)) (h p), I.hok, I.len⟩

theorem nodup_ix {N : List Str} (hN : N.Nodup) {i j : Nat} {x : Str} (a : N[i]? = some x) (b : N[j]? = some x) : i = j := by
  obtain ⟨h1, e1⟩ := List.getElem?_eq_some_iff.mp a
  obtain ⟨h2, e2⟩ := List.getElem?_eq_some_iff.mp b
  exact (List.getElem_inj hN).mp (e1.trans e2.symm)

/-- a name is stored; what changed -/
theorem store_ok2 {M : Model} {A : Around} {E : Value → Shared → Prop} {i : Nat} {x : Str} {v : V} {u : Value} {Q : Unit → Shared → Prop} (I : Inv X pins σ H s) (hN : X.N.Nodup) (hi : X.N[i]? = some x) (hx : Loc X.env.scope x) (r : RelV v u)
    (h : ∀ s', Inv X pins (σ.set i (some v)) H s' → (∃ a, Heap.SameBut a s.heap s'.heap ∧ (a = X.env.locals ∨ X.env.cells.lookup x = some a)) → Q () s') (hf : X.fn x = true ∨ X.env.scope.names.lookup x = some .local := by first | exact .inl rfl | exact .inr rfl | assumption) : wpAny M A (storeName X.env x u) Q E s := by
  obtain ⟨m, hn, hl⟩ := id I.loc
  have hcls : (X.env.scope.kind == .class || (X.env.scope.kind == .module && X.env.locals != X.env.globals)) = false := by rw [I.ok.kind]; rfl
  have hiσ : i < σ.length := by rw [I.len]; exact (List.getElem?_eq_some_iff.mp hi).1
  have cne := I.cne
  have tracked : ∀ {a : Addr} {h' : Heap}, (∃ o, s.heap.get? a = some o ∧ H a = none) → Heap.SameBut a s.heap h' → HOk X.prog X.w H h' := fun {a h'} ha hs b ob e => by
    obtain ⟨_, _, hfree⟩ := ha
    refine (I.hok b ob e).stay (fun c w' hc q => (hs.2 c ?_).trans q) (fun _ q => q) fun _ _ q => q
    rintro rfl
    rcases hc with rfl | hc
    · rw [hfree] at e; cases e
    · rw [hfree] at hc; cases hc
  rcases hx with hk | hk
  · refine wpAny_storeName_local hk hn (fun h' hn' hs => ?_) hcls
    obtain ⟨oL, _, _, hoL, _⟩ := id hn
    refine h _ ⟨I.ok, I.os, I.bare, ⟨fun b o e n hb hx => ?_, fun b o e n hb hx => ?_, I.base.free, fun b o e hx => ?_, I.base.tups, I.base.frzs, I.base.tbls⟩, ⟨_, hn', fun j y v' e1 e2 e3 => ?_⟩, fun y c e => ?_, I.free, I.freeC, fun p hp => ?_, tracked ⟨oL, hoL, I.free⟩ hs, by simpa using I.len⟩ ⟨_, hs, .inl rfl⟩
    · exact (hs.2 b (Nat.ne_of_lt (Nat.lt_of_lt_of_le (Heap.lt_size e) I.ok.above))).trans (I.base.keep b o e n hb hx)
    · obtain ⟨sl, e1⟩ := I.base.slot b o e n hb hx
      exact ⟨sl, (hs.2 b (Nat.ne_of_lt (Nat.lt_of_lt_of_le (Heap.lt_size e) I.ok.above))).trans e1⟩
    · obtain ⟨o', e1⟩ := I.base.there b o e hx
      exact ⟨o', (hs.2 b (Nat.ne_of_lt (Nat.lt_of_lt_of_le (Heap.lt_size e) I.ok.above))).trans e1⟩
    · by_cases hj : j = i
      · subst hj
        rw [hi] at e1; cases e1
        rw [List.getElem?_set_self hiσ] at e2
        cases e2
        exact ⟨u, r, .inl ⟨hk, by simp⟩⟩
      · rw [List.getElem?_set_ne (Ne.symm hj)] at e2
        obtain ⟨u', r', q⟩ := hl j y v' e1 e2 e3
        refine ⟨u', r', ?_⟩
        rcases q with ⟨k, e⟩ | ⟨k, c, e, z⟩
        · refine .inl ⟨k, ?_⟩
          have : y ≠ x := fun e => hj (nodup_ix hN e1 (e ▸ hi))
          simp [this, e]
        · exact .inr ⟨k, c, e, z.sameBut hs (cne y c e)⟩
    · obtain ⟨w', z⟩ := I.cell y c e
      exact ⟨w', z.sameBut hs (cne y c e)⟩
    · obtain ⟨e, n, ne, nf, d⟩ := I.pin p hp
      exact ⟨(hs.2 p.1 ne).trans e, n, ne, nf, d⟩
  · have hfn : X.fn x = true := by
      rcases hf with z | z
      · exact z
      · rw [z] at hk; cases hk
    obtain ⟨c, hc⟩ := I.ok.has x (.inl hk)
    obtain ⟨w', z⟩ := I.cell x c hc
    refine wpAny_storeName_cell I.ok.kind hk hc z (fun h' hc' hs => ?_)
    obtain ⟨oc, hoc, hocd⟩ := id z
    refine h { s with heap := h' } ⟨I.ok, I.os, I.bare, ⟨fun b o e n hb hx => ?_, fun b o e n hb hx => ?_, I.base.free, fun b o e hx => ?_, I.base.tups, I.base.frzs, I.base.tbls⟩, ⟨m, hn.sameBut hs (Ne.symm (cne x c hc)), fun j y v' e1 e2 e3 => ?_⟩, fun y c' e => ?_, I.free, I.freeC, fun p hp => ?_, tracked ⟨oc, hoc, I.freeC x c hc⟩ hs, by simpa using I.len⟩ ⟨c, hs, .inr hc⟩
    · exact (hs.2 b (Nat.ne_of_lt (Nat.lt_of_lt_of_le (Heap.lt_size e) (I.ok.cab x c hfn hc)))).trans (I.base.keep b o e n hb hx)
    · obtain ⟨sl, e1⟩ := I.base.slot b o e n hb hx
      exact ⟨sl, (hs.2 b (Nat.ne_of_lt (Nat.lt_of_lt_of_le (Heap.lt_size e) (I.ok.cab x c hfn hc)))).trans e1⟩
    · obtain ⟨o', e1⟩ := I.base.there b o e hx
      exact ⟨o', (hs.2 b (Nat.ne_of_lt (Nat.lt_of_lt_of_le (Heap.lt_size e) (I.ok.cab x c hfn hc)))).trans e1⟩
    · by_cases hj : j = i
      · subst hj
        rw [hi] at e1; cases e1
        rw [List.getElem?_set_self hiσ] at e2
        cases e2
        exact ⟨u, r, .inr ⟨.inl hk, c, hc, hc'⟩⟩
      · rw [List.getElem?_set_ne (Ne.symm hj)] at e2
        obtain ⟨u', r', q⟩ := hl j y v' e1 e2 e3
        refine ⟨u', r', ?_⟩
        rcases q with q | ⟨k, c', e, z'⟩
        · exact .inl q
        · refine .inr ⟨k, c', e, z'.sameBut hs ?_⟩
          rintro rfl
          exact hj (nodup_ix hN e1 (I.ok.inj _ _ _ e hc ▸ hi))
    · by_cases hcc : c' = c
      · subst hcc; exact ⟨_, hc'⟩
      · obtain ⟨w2, z2⟩ := I.cell y c' e
        exact ⟨w2, z2.sameBut hs hcc⟩
    · obtain ⟨e, n, ne, nf, d⟩ := I.pin p hp
      refine ⟨(hs.2 p.1 ?_).trans e, n, ne, nf, d⟩
      intro q
      rw [q, hoc] at e
      have q' : oc = p.2 := Option.some.inj e
      exact d w' (by rw [← q']; exact hocd)
theorem store_ok {M : Model} {A : Around} {E : Value → Shared → Prop} {i : Nat} {x : Str} {v : V} {u : Value} {Q : Unit → Shared → Prop} (I : Inv X pins σ H s) (hN : X.N.Nodup) (hi : X.N[i]? = some x) (hx : Loc X.env.scope x) (r : RelV v u)
    (h : ∀ s', Inv X pins (σ.set i (some v)) H s' → Q () s') (hf : X.fn x = true ∨ X.env.scope.names.lookup x = some .local := by first | exact .inl rfl | exact .inr rfl | assumption) : wpAny M A (storeName X.env x u) Q E s :=
  store_ok2 I hN hi hx r (fun s' I' _ => h s' I') hf
/-- behind a call or a block, the state as it is -/
theorem Inv.call' {s' : Shared} {ch : List Addr} (I : Inv X pins σ H s) (ho : s'.os = s.os) (u : Un (frs X.stack) ch H H' s.heap s'.heap) (hok : HOk X.prog X.w H' s'.heap) (hg : AllBare s'.gens)
    (hch : ∀ b ∈ ch, (b ∈ X.ex ∨ X.s_0.heap.objs.size ≤ b) ∧ b ≠ X.env.locals ∧ (∀ x c, X.env.cells.lookup x = some c → c ≠ b) ∧ ∀ p ∈ X.pn ++ pins, p.1 ≠ b) : Inv X pins σ H' s' := by
  obtain ⟨h', g', d', t', o'⟩ := s'
  have e : o' = s.os := ho
  subst e
  exact I.call (g' := g') (t' := t') (d' := d') u hok hg hch
end

/-! ### the judgements -/
/-- an exception: its class, its own dict's address (where it has one), the abstract heap behind it -/
abbrev XK := Value → Option Addr → Hp → Prop
abbrev St := List (Option V)
abbrev VK := V → Hp → Prop
/-- an expression's reading; a test's; an argument list's -/
abbrev TE := St → Hp → VK → Prop
abbrev TT := St → Hp → (Bool → Hp → Prop) → Prop
abbrev TA := St → Hp → (List V → Hp → Prop) → Prop
/-- what is wanted behind a statement -/
structure Ends where
  nx : St → Hp → Prop
  rt : VK
  bk : St → Hp → Prop := fun _ _ => False
  ct : St → Hp → Prop := fun _ _ => False
abbrev TS := Ends → St → Hp → Prop

def EP (X : Cx) (pins : List (Addr × Obj)) (σ : St) (Q : VK) (u : Value) (s' : Shared) : Prop := ∃ v H', Inv X pins σ H' s' ∧ RelV v u ∧ Q v H'
def TP (X : Cx) (pins : List (Addr × Obj)) (σ : St) (Q : Bool → Hp → Prop) (b : Bool) (s' : Shared) : Prop := ∃ H', Inv X pins σ H' s' ∧ Q b H'
def AP (X : Cx) (pins : List (Addr × Obj)) (σ : St) (Q : List V → Hp → Prop) (us : List Value) (s' : Shared) : Prop := ∃ vs H', Inv X pins σ H' s' ∧ Vals vs us ∧ Q vs H'
def SP (X : Cx) (pins : List (Addr × Obj)) (D : Ends) (f : Flow) (s' : Shared) : Prop :=
  match f with
  | .next => ∃ σ' H', Inv X pins σ' H' s' ∧ D.nx σ' H'
  | .brk => ∃ σ' H', Inv X pins σ' H' s' ∧ D.bk σ' H'
  | .cont => ∃ σ' H', Inv X pins σ' H' s' ∧ D.ct σ' H'
  | .ret u => ∃ v σ' H', Inv X pins σ' H' s' ∧ RelV v u ∧ D.rt v H'

def PE (X : Cx) (e : Expr) (t : TE) : Prop :=
  ∀ (pins : List (Addr × Obj)) (s : Shared) (σ : St) (H : Hp) (Q : VK), Inv X pins σ H s → t σ H Q → wpAny (model X.prog X.w) X.A (eval e X.env) (EP X pins σ Q) X.xe s
def PT (X : Cx) (e : Expr) (t : TT) : Prop :=
  ∀ (pins : List (Addr × Obj)) (s : Shared) (σ : St) (H : Hp) (Q : Bool → Hp → Prop), Inv X pins σ H s → t σ H Q → wpAny (model X.prog X.w) X.A (isTrue e X.env (eval e X.env)) (TP X pins σ Q) X.xe s
/-- a test whatever its 'whole' is (and, or) -/
def PW (X : Cx) (e : Expr) (t : TT) : Prop :=
  ∀ (whole : Sem Value) (pins : List (Addr × Obj)) (s : Shared) (σ : St) (H : Hp) (Q : Bool → Hp → Prop), Inv X pins σ H s → t σ H Q → wpAny (model X.prog X.w) X.A (isTrue e X.env whole) (TP X pins σ Q) X.xe s
theorem PW.pt {X : Cx} {e : Expr} {t : TT} (h : PW X e t) : PT X e t := h _
/-- an argument list (no star), from the left -/
def PA (X : Cx) (es : List Expr) (t : TA) : Prop :=
  ∀ (pos : Pos) (pins : List (Addr × Obj)) (s : Shared) (σ : St) (H : Hp) (Q : List V → Hp → Prop), Inv X pins σ H s → t σ H Q → wpAny (model X.prog X.w) X.A (spliced (backTo pos (starEach es X.env))) (AP X pins σ Q) X.xe s
def PS (X : Cx) (st : Stmt) (t : TS) : Prop :=
  ∀ (pins : List (Addr × Obj)) (s : Shared) (σ : St) (H : Hp) (D : Ends), Inv X pins σ H s → t D σ H → wpAny (model X.prog X.w) X.A (exec st X.env) (SP X pins D) X.xe s
def PSs (X : Cx) (st : List Stmt) (t : TS) : Prop :=
  ∀ (pins : List (Addr × Obj)) (s : Shared) (σ : St) (H : Hp) (D : Ends), Inv X pins σ H s → t D σ H → wpAny (model X.prog X.w) X.A (execs st X.env) (SP X pins D) X.xe s
/-- weaken the end -/
theorem thn {α : Type} {t : Sem α} {Q Q' : α → Shared → Prop} {M : Model} {A : Around} {E : Value → Shared → Prop} {s : Shared} (h : wpAny M A t Q E s) (hQ : ∀ a s, Q a s → Q' a s) : wpAny M A t Q' E s := wpAny_mono h hQ fun _ _ x => x
end L2

namespace L2
open PySem PySem.Spec PyProof.Rows
section
variable {X : Cx}


/-! ### names and constants -/
def tVar (i : Nat) : TE := fun σ H Q => ∃ v, σ[i]? = some (some v) ∧ Q v H
def tC (v : V) : TE := fun _ H Q => Q v H
theorem pe_var {i : Nat} {x : Str} {pos : Pos} (hN : X.N[i]? = some x) (hv : Vis X.env.scope x) (hd : (x == ("__debug__" : Str)) = false := by decide) (hcd : (x == ("__classdict__" : Str)) = false := by decide) : PE X (.Name x pos) (tVar i) := by
  intro pins s σ H Q I h
  obtain ⟨v, e, h⟩ := h
  obtain ⟨m, hn, hl⟩ := I.loc
  obtain ⟨u, r, l⟩ := hl i x v hN e hv
  have fin : EP X pins σ Q u s := ⟨v, H, I, r, h⟩
  rcases l with ⟨hk, hm⟩ | ⟨hk, c, hc, hcell⟩
  · exact wpAny_Name (wpAny_loadName_local I.ok.kind hk hn hm fin) hd
  · rcases hk with hk | hk
    · exact wpAny_Name (wpAny_loadName_cell I.ok.kind hk hc hcell fin) hd
    · exact wpAny_Name (wpAny_loadName_free I.ok.kind hk hc hcell fin hcd) hd
theorem pe_int {i j pos} : PE X (.Constant (.int i) j pos) (tC (.int i)) := fun _ _ _ H _ I h => wpAny_Constant_int ⟨.int i, H, I.tok _, ⟨_, rfl⟩, h⟩
theorem pe_bl {b j pos} : PE X (.Constant (.bool b) j pos) (tC (.bl b)) := fun _ _ _ H _ I h => Constant_bool ⟨.bl b, H, I, rfl, h⟩

/-- a global name of the def -/
def Gl (X : Cx) (x : Str) : Prop := X.env.kindOf x = some .globalImplicit
theorem ld_glob {E : Value → Shared → Prop} {pins : List (Addr × Obj)} {s : Shared} {σ : St} {H : Hp} {x : Str} {u : Value} {pos : Pos} {Q : Value → Shared → Prop} (I : Inv X pins σ H s) (hg : Gl X x) (hm : X.mg x = some u) (h : Q u s)
    (hd : (x == ("__debug__" : Str)) = false := by decide) : wpAny (model X.prog X.w) X.A (eval (.Name x pos) X.env) Q E s :=
  Calls.Name_function_global I.ok.kind hg (Calls.loadGlobal_global (by rw [I.ok.glob]; exact I.mod.glob.keeps I.bk) hm h) hd
theorem ld_blt {E : Value → Shared → Prop} {pins : List (Addr × Obj)} {s : Shared} {σ : St} {H : Hp} {x : Str} {u : Value} {pos : Pos} {Q : Value → Shared → Prop} (I : Inv X pins σ H s) (hg : Gl X x) (hm : X.mg x = none) (hv : bootBuiltins x = some u) (h : Q u s)
    (hn : x ≠ "__name__" := by decide) (hd : (x == ("__debug__" : Str)) = false := by decide) : wpAny (model X.prog X.w) X.A (eval (.Name x pos) X.env) Q E s := by
  obtain ⟨mb, h1, h2⟩ := I.mod.blt
  exact Calls.Name_function_global I.ok.kind hg (Calls.loadGlobal_builtin (by rw [I.ok.glob]; exact I.mod.glob.keeps I.bk) hm (by rw [I.ok.blt]; exact h1.keeps I.bk) ((h2 x hn).trans hv) h) hd
/-- a module's constant, a class, a function, as a value -/
theorem pe_glob {x : Str} {v : V} {u : Value} {pos : Pos} (hg : Gl X x) (hm : X.mg x = some u) (r : RelV v u) (hd : (x == ("__debug__" : Str)) = false := by decide) : PE X (.Name x pos) (tC v) :=
  fun _ _ _ H _ I h => ld_glob I hg hm ⟨v, H, I, r, h⟩ hd

/-! ### arithmetic -/
variable {a b : Expr} {ta tb : TE} {pos : Pos}

/-! ### comparisons -/
/-- a comparison as a value, as a test -/
def tB (t : TE) : TT := fun σ H Q => t σ H fun x H1 => ∃ c, x = .bl c ∧ Q c H1
/-- an expression whose value is a bool, as a test -/
theorem pt_val {e : Expr} {t : TE} (h : PE X e t) (he : ∀ whole, isTrue e X.env whole = (do let v ← whole; standAt e.pos; holding [v] (truthy v)) := by intro _; rfl) : PT X e (tB t) := by
  intro pins s σ H Q I hw
  refine isTrue_plain (thn (h pins s σ H _ I hw) fun v s1 ⟨x, H1, I1, r1, q1⟩ => ?_) (he _)
  obtain ⟨d, rfl, q⟩ := q1
  cases r1
  exact wpAny_truthy_bool ⟨H1, I1, q⟩

/-! ### and, or, not -/
variable {tA tB' : TT} {rest : List Expr}
def tNot (t : TT) : TT := fun σ H Q => t σ H fun c H1 => Q (!c) H1
theorem pt_not (ha : PT X a tA) : PT X (.UnaryOp .Not a pos) (tNot tA) := by
  intro pins s σ H Q I h
  exact isTrue_not (ha pins s σ H (fun c H1 => Q (!c) H1) I h)
/-- .. as values (bools) -/
def tAndV (ta tb : TE) : TE := fun σ H Q => ta σ H fun x H1 => ∃ c, x = .bl c ∧ if c = true then tb σ H1 Q else Q (.bl false) H1
theorem pe_one {op} {t : TE} (h : PE X a t) : PE X (.BoolOp op [a] pos) t := fun pins s σ H Q I hw => BoolOp_one (h pins s σ H Q I hw)
theorem pe_and (ha : PE X a ta) (hb : PE X (.BoolOp .And (b :: rest) pos) tb) : PE X (.BoolOp .And (a :: b :: rest) pos) (tAndV ta tb) := by
  intro pins s σ H Q I h
  refine BoolOp_and (thn (ha pins s σ H _ I h) fun v s1 ⟨x, H1, I1, r1, q1⟩ => ?_)
  obtain ⟨c, rfl, q1⟩ := q1
  cases r1
  refine wpAny_truthy_bool ?_
  cases c with
  | true => exact hb pins s1 σ H1 Q I1 q1
  | false => exact ⟨.bl false, H1, I1, rfl, q1⟩
/-- a if t else b -/
def tIf (t : TT) (ta tb : TE) : TE := fun σ H Q => t σ H fun c H1 => if c = true then ta σ H1 Q else tb σ H1 Q
theorem pe_ifExp {c : Expr} (hc : PT X c tA) (ha : PE X a ta) (hb : PE X b tb) : PE X (.IfExp c a b pos) (tIf tA ta tb) := by
  intro pins s σ H Q I h
  refine wpAny_IfExp (thn (hc pins s σ H _ I h) fun d s1 ⟨H1, I1, q1⟩ => ?_)
  cases d with
  | true => exact ha pins s1 σ H1 Q I1 q1
  | false => exact hb pins s1 σ H1 Q I1 q1
end
end L2

namespace L2
open PySem PySem.Spec PyProof.Rows

/-! ### a list, a tuple that is read: tracked, frozen, or an object of the module -/
def SqL (K : PySem.W.Frag) (H : Hp) (a : Addr) (xs : List V) : Prop :=
  Rd H a (.lst xs) ∨
    ∃ (o : Obj) (its : Array Value) (n : Nat), K.lookup a = some o ∧ o.cls = .type "list" ∧ o.dict = none ∧ o.data = .seq its n ∧ its.size ≤ sizeLine ∧ Vals xs its.toList
def SqT (K : PySem.W.Frag) (H : Hp) (a : Addr) (xs : List V) : Prop :=
  Rd H a (.tup xs) ∨
    ∃ (o : Obj) (its : Array Value) (n : Nat), K.lookup a = some o ∧ o.cls = .type "tuple" ∧ o.data = .seq its n ∧ its.size ≤ sizeLine ∧ Vals xs its.toList
def absV : Value → Option V
  | .none => some .non
  | .bool b => some (.bl b)
  | .int i _ => some (.int i)
  | .str x _ => some (.str x)
  | .bytes b _ => some (.byt b)
  | .float b _ => some (.flt b)
  | .ref a => some (.ref a)
  | .type n => some (.ty n)
  | _ => none
theorem RelV.abs {x : V} {u : Value} (r : RelV x u) : absV u = some x := by
  cases x with
  | non => cases r; rfl
  | bl _ => cases r; rfl
  | int _ => obtain ⟨t, rfl⟩ := r; rfl
  | str _ => obtain ⟨t, rfl⟩ := r; rfl
  | byt _ => obtain ⟨t, rfl⟩ := r; rfl
  | flt _ => obtain ⟨t, rfl⟩ := r; rfl
  | ref _ => cases r; rfl
  | ty _ => cases r; rfl
theorem RelV.inj {x y : V} {u : Value} (r : RelV x u) (q : RelV y u) : x = y := Option.some.inj (r.abs.symm.trans q.abs)
theorem Vals.inj : ∀ {xs ys : List V} {us : List Value}, Vals xs us → Vals ys us → xs = ys
  | _, _, _, .nil, .nil => rfl
  | _, _, _, .cons r t, .cons r' t' => by rw [r.inj r', Vals.inj t t']
section
variable {X : Cx} {pins : List (Addr × Obj)} {σ : St} {H : Hp} {s : Shared} {a : Addr} {xs ys : List V}
theorem SqL.of {K : PySem.W.Frag} (h : H a = some (.lst xs)) : SqL K H a xs := .inl (.inl h)
theorem SqT.of {K : PySem.W.Frag} (h : H a = some (.tup xs)) : SqT K H a xs := .inl (.inl h)
theorem Inv.list (I : Inv X pins σ H s) (h : SqL X.K H a xs) : ∃ its : List Value, Vals xs its ∧ PlainL s.heap a its.toArray ∧ xs.length ≤ sizeLine := by
  rcases h with h | ⟨o, its, n, hk, hc, hd, hs, hz, r⟩
  · obtain ⟨z, its, n, r, e⟩ := h.ok I.hok
    exact ⟨its, r, ⟨_, n, e, rfl, rfl, rfl⟩, z⟩
  · refine ⟨its.toList, r, ⟨o, n, I.kIn a o hk, hc, hd, by simpa using hs⟩, ?_⟩
    have e := r.length
    simp only [Array.length_toList] at e
    omega
theorem Inv.tuple (I : Inv X pins σ H s) (h : SqT X.K H a xs) : ∃ its : List Value, Vals xs its ∧ IsTup s.heap a its.toArray ∧ xs.length ≤ sizeLine := by
  rcases h with h | ⟨o, its, n, hk, hc, hs, hz, r⟩
  · obtain ⟨z, its, r, p⟩ := h.ok I.hok
    exact ⟨its, r, p, z⟩
  · refine ⟨its.toList, r, ⟨o, I.kIn a o hk, hc, n, by simpa using hs⟩, ?_⟩
    have e := r.length
    simp only [Array.length_toList] at e
    omega
theorem Inv.list_inj (I : Inv X pins σ H s) (h : SqL X.K H a xs) (h' : SqL X.K H a ys) : xs = ys := by
  obtain ⟨its, r, ⟨o, n, e, _, _, d⟩, _⟩ := I.list h
  obtain ⟨its', r', ⟨o', n', e', _, _, d'⟩, _⟩ := I.list h'
  rw [e] at e'; cases e'
  rw [d] at d'
  injection d' with d1 _
  have : its = its' := by simpa using congrArg Array.toList d1
  subst this
  exact r.inj r'
end

/-! ### another wish about exceptions -/
abbrev Cx.wish (X : Cx) (E : Value → Shared → Prop) : Cx := { X with xe := E }
/-- no exception leaves -/
abbrev Cx.nox (X : Cx) : Cx := X.wish fun _ _ => False
theorem Cx.Ok.wish {X : Cx} (ok : X.Ok) (E : Value → Shared → Prop) : (X.wish E).Ok :=
  ⟨ok.mod, ok.kind, ok.glob, ok.blt, ok.above, ok.inj, ok.has, ok.cab, ok.hd, ok.frames, ok.stk, ok.exf, ok.bs, ok.bsz, ok.noex, ok.exfs, ok.funs, ok.frf⟩
theorem Cx.Ok.unwish {X : Cx} {E : Value → Shared → Prop} (ok : (X.wish E).Ok) : X.Ok :=
  ⟨ok.mod, ok.kind, ok.glob, ok.blt, ok.above, ok.inj, ok.has, ok.cab, ok.hd, ok.frames, ok.stk, ok.exf, ok.bs, ok.bsz, ok.noex, ok.exfs, ok.funs, ok.frf⟩
section
variable {X : Cx} {pins : List (Addr × Obj)} {σ : St} {H : Hp} {s : Shared} {E : Value → Shared → Prop}
theorem Inv.wish (I : Inv X pins σ H s) (E : Value → Shared → Prop) : Inv (X.wish E) pins σ H s := ⟨I.ok.wish E, I.os, I.bare, I.base, I.loc, I.cell, I.free, I.freeC, I.pin, I.hok, I.len⟩
theorem Inv.unwish (I : Inv (X.wish E) pins σ H s) : Inv X pins σ H s := ⟨I.ok.unwish, I.os, I.bare, I.base, I.loc, I.cell, I.free, I.freeC, I.pin, I.hok, I.len⟩
theorem SP.unwish {D : Ends} {f : Flow} {s' : Shared} (h : SP (X.wish E) pins D f s') : SP X pins D f s' := by
  cases f with
  | next => obtain ⟨σ', H', I, q⟩ := h; exact ⟨σ', H', I.unwish, q⟩
  | brk => obtain ⟨σ', H', I, q⟩ := h; exact ⟨σ', H', I.unwish, q⟩
  | cont => obtain ⟨σ', H', I, q⟩ := h; exact ⟨σ', H', I.unwish, q⟩
  | ret u => obtain ⟨v, σ', H', I, r, q⟩ := h; exact ⟨v, σ', H', I.unwish, r, q⟩
theorem PE.nox {e : Expr} {t : TE} (h : PE X.nox e t) : PE X e t := fun pins s σ H Q I hw =>
  wpAny_mono (h pins s σ H Q (I.wish _) hw) (fun _ _ ⟨v, H', I', r, q⟩ => ⟨v, H', I'.unwish, r, q⟩) fun _ _ z => False.elim z
theorem PT.nox {e : Expr} {t : TT} (h : PT X.nox e t) : PT X e t := fun pins s σ H Q I hw =>
  wpAny_mono (h pins s σ H Q (I.wish _) hw) (fun _ _ ⟨H', I', q⟩ => ⟨H', I'.unwish, q⟩) fun _ _ z => False.elim z
theorem PSs.nox {st : List Stmt} {t : TS} (h : PSs X.nox st t) : PSs X st t := fun pins s σ H D I hw =>
  wpAny_mono (h pins s σ H D (I.wish _) hw) (fun _ _ q => q.unwish) fun _ _ z => False.elim z
end

/-! ### blocks and small statements -/
section
variable {X : Cx} {st : Stmt} {rest : List Stmt} {t u : TS} {e : Expr} {te : TE} {pos : Pos}
def tNext : TS := fun D σ H => D.nx σ H
def tSeq (t u : TS) : TS := fun D σ H => t { D with nx := u D } σ H
theorem pss_nil : PSs X [] tNext := fun _ _ σ H _ I h => wpAny_execs_nil ⟨σ, H, I, h⟩
theorem pss_cons (h1 : PS X st t) (h2 : PSs X rest u) : PSs X (st :: rest) (tSeq t u) := by
  intro pins s σ H D I h
  refine wpAny_execs_cons (thn (h1 pins s σ H { D with nx := u D } I h) fun f s1 q => ?_)
  cases f with
  | next =>
    obtain ⟨σ', H', I', q⟩ := q
    exact h2 pins s1 σ' H' D I' q
  | ret v => exact q
  | brk => exact q
  | cont => exact q
theorem pss_one (h1 : PS X st t) : PSs X [st] t := by
  intro pins s σ H D I h
  refine wpAny_execs_cons (thn (h1 pins s σ H D I h) fun f s1 q => ?_)
  cases f with
  | next => exact wpAny_execs_nil q
  | ret v => exact q
  | brk => exact q
  | cont => exact q
/-- in a def's body nothing is shown -/
theorem Inv.quiet {pins : List (Addr × Obj)} {σ : St} {H : Hp} {s : Shared} (I : Inv X pins σ H s) : interactive X.env = false := by simp [interactive, I.ok.kind]
/-- an expression whose value is dropped -/
def tDrop (te : TE) : TS := fun D σ H => te σ H fun _ H1 => D.nx σ H1
theorem ps_expr (he : PE X e te) (hs : swapsWith e none pos.line X.env = pure false := by rfl) : PS X (.Expr e pos) (tDrop te) := by
  intro pins s σ H D I h
  exact wpAny_Expr_any (thn (he pins s σ H _ I h) fun v s1 ⟨x, H1, I1, r1, q1⟩ => ⟨σ, H1, I1, q1⟩) I.quiet hs
def tRet (te : TE) : TS := fun D σ H => te σ H D.rt
theorem ps_ret (he : PE X e te) : PS X (.Return (some e) pos) (tRet te) := by
  intro pins s σ H D I h
  exact wpAny_Return_some (thn (he pins s σ H _ I h) fun v s1 ⟨x, H1, I1, r1, q1⟩ => ⟨x, σ, H1, I1, r1, q1⟩)
def tIfS (c : TT) (t u : TS) : TS := fun D σ H => c σ H fun b H1 => if b = true then t D σ H1 else u D σ H1
theorem ps_if {c : Expr} {a b : List Stmt} {tc : TT} (hc : PT X c tc) (ha : PSs X a t) (hb : PSs X b u) : PS X (.If c a b pos) (tIfS tc t u) := by
  intro pins s σ H D I h
  refine wpAny_If (thn (hc pins s σ H _ I h) fun d s1 ⟨H1, I1, q1⟩ => ?_)
  cases d with
  | true => exact ha pins s1 σ H1 D I1 q1
  | false => exact hb pins s1 σ H1 D I1 q1
end

/-! ### targets -/
abbrev TG := V → St → Hp → (St → Hp → Prop) → Prop
def PG (X : Cx) (target : Expr) (t : TG) : Prop :=
  ∀ (pins : List (Addr × Obj)) (s : Shared) (σ : St) (H : Hp) (v : V) (u : Value) (Q : St → Hp → Prop), Inv X pins σ H s → RelV v u → t v σ H Q →
    wpAny (model X.prog X.w) X.A (assign target X.env u) (fun _ s' => ∃ σ' H', Inv X pins σ' H' s' ∧ Q σ' H') X.xe s
/-- a op= b, by values -/
abbrev TIp := V → V → Hp → VK → Prop
def PIp (X : Cx) (op : Operator) (t : TIp) : Prop :=
  ∀ (pins : List (Addr × Obj)) (s : Shared) (σ : St) (H : Hp) (x y : V) (v u : Value) (Q : VK), Inv X pins σ H s → RelV x v → RelV y u → t x y H Q →
    wpAny (model X.prog X.w) X.A (inplaceOp op v u) (EP X pins σ Q) X.xe s
section
variable {X : Cx} {pos : Pos}
def gName (i : Nat) : TG := fun v σ H Q => Q (σ.set i (some v)) H
theorem pg_name {i : Nat} {x : Str} (hN : X.N.Nodup) (hi : X.N[i]? = some x) (hx : Loc X.env.scope x) (hf : X.fn x = true ∨ X.env.scope.names.lookup x = some .local := by first | exact .inl rfl | exact .inr rfl | assumption) : PG X (.Name x pos) (gName i) := by
  intro pins s σ H v u Q I r h
  exact wpAny_assign_Name (store_ok I hN hi hx r (fun s' I' => ⟨_, H, I', h⟩) hf)
/-- target = value -/
def tAsg (te : TE) (g : TG) : TS := fun D σ H => te σ H fun x H1 => g x σ H1 D.nx
/-- name = value -/
theorem ps_set {i : Nat} {x : Str} {e : Expr} {te : TE} {pos' : Pos} (hN : X.N.Nodup) (hi : X.N[i]? = some x) (hx : Loc X.env.scope x) (he : PE X e te) (hs : swapsWith e (some (.Name x pos')) pos.line X.env = pure false := by rfl) (hf : X.fn x = true ∨ X.env.scope.names.lookup x = some .local := by first | exact .inl rfl | exact .inr rfl | assumption) :
    PS X (.Assign [.Name x pos'] e pos) (tAsg te (gName i)) := by
  intro pins s σ H D I h
  refine wpAny_Assign_Name (thn (he pins s σ H _ I h) fun v s1 ⟨y, H1, I1, r1, q1⟩ => ?_) hs
  exact store_ok I1 hN hi hx r1 (fun s2 I2 => ⟨_, H1, I2, q1⟩) hf
/-- name op= e -/
def tAug (i : Nat) (te : TE) (ti : TIp) : TS := fun D σ H => ∃ x, σ[i]? = some (some x) ∧ te σ H fun y H1 => ti x y H1 fun z H2 => D.nx (σ.set i (some z)) H2
theorem ps_aug {i : Nat} {x : Str} {e : Expr} {te : TE} {op : Operator} {ti : TIp} {pos' : Pos} (hN : X.N.Nodup) (hi : X.N[i]? = some x) (hx : Loc X.env.scope x) (he : PE X e te) (ho : PIp X op ti) (hf : X.fn x = true ∨ X.env.scope.names.lookup x = some .local := by first | exact .inl rfl | exact .inr rfl | assumption) :
    PS X (.AugAssign (.Name x pos') op e pos) (tAug i te ti) := by
  intro pins s σ H D I h
  obtain ⟨v, e1, h⟩ := h
  obtain ⟨m, hn, hl⟩ := I.loc
  have vis : Vis X.env.scope x := by rcases hx with k | k; exact .inl k; exact .inr (.inl k)
  obtain ⟨u, r, l⟩ := hl i x v hi e1 vis
  refine wpAny_AugAssign_Name ?_
  have go : wpAny (model X.prog X.w) X.A (eval e X.env) (fun w s₂ => wpAny (model X.prog X.w) X.A (inplaceOp op u w) (fun r s₃ => wpAny (model X.prog X.w) X.A (storeName X.env x r) (fun _ => SP X pins D .next) X.xe s₃) X.xe s₂) X.xe s := by
    refine thn (he pins s σ H _ I h) fun w s1 ⟨y, H1, I1, r1, q1⟩ => ?_
    refine thn (ho pins s1 σ H1 v y u w _ I1 r r1 q1) fun z s2 ⟨zv, H2, I2, r2, q2⟩ => ?_
    exact store_ok I2 hN hi hx r2 (fun s3 I3 => ⟨_, H2, I3, q2⟩) hf
  rcases l with ⟨hk, hm⟩ | ⟨hk, c, hc, hcell⟩
  · exact wpAny_loadName_local I.ok.kind hk hn hm go
  · rcases hk with hk | hk
    · exact wpAny_loadName_cell I.ok.kind hk hc hcell go
    · rcases hx with k | k
      · have : X.env.scope.names.lookup x = some .free := hk
        rw [k] at this; cases this
      · have : X.env.scope.names.lookup x = some .free := hk
        rw [k] at this; cases this
/-- o[i], by values -/
def PGet (X : Cx) (t : V → V → Hp → VK → Prop) : Prop :=
  ∀ (pins : List (Addr × Obj)) (s : Shared) (σ : St) (H : Hp) (o i : V) (ov iv : Value) (Q : VK), Inv X pins σ H s → RelV o ov → RelV i iv → t o i H Q →
    wpAny (model X.prog X.w) X.A (getItem ov iv) (EP X pins σ Q) X.xe s
/-- ints -/
def ipI (f : Int → Int → Int) : TIp := fun x y H Q => ∃ i j, x = .int i ∧ y = .int j ∧ Q (.int (f i j)) H
theorem ip_add : PIp X .Add (ipI fun i j => i + j) := by
  intro pins s σ H x y v u Q I r1 r2 h
  obtain ⟨i, j, e1, e2, q⟩ := h
  subst e1; subst e2
  obtain ⟨t, rfl⟩ := r1
  obtain ⟨t', rfl⟩ := r2
  exact iadd_int ⟨.int _, H, I.tok _, ⟨_, rfl⟩, q⟩
end

/-! ### while -/
section
variable {X : Cx} {pos : Pos}
/-- the invariant W with its measure -/
def tWhile (c : TT) (tb : TS) : TS := fun D σ H => ∃ W : Nat → St → Hp → Prop, (∃ m, W m σ H) ∧ ∀ m σ H, W m σ H →
  c σ H fun b H1 => if b = true then ∃ N : St → Hp → Prop, (∀ σ' H', N σ' H' → ∃ m', m' < m ∧ W m' σ' H') ∧ tb { D with nx := N, ct := N, bk := D.nx } σ H1 else D.nx σ H1
theorem ps_while {c : Expr} {body : List Stmt} {tc : TT} {tb : TS} (hp : PassesOwn (model X.prog X.w) X.A X.env X.xe) (hc : PT X c tc) (hb : PSs X body tb) : PS X (.While c body [] pos) (tWhile tc tb) := by
  intro pins s σ H D I h
  obtain ⟨W, ⟨m0, w0⟩, turn⟩ := h
  refine wpAny_While (codeAny_whileLoop (fun n s' => ∃ σ' H', Inv X pins σ' H' s' ∧ W n σ' H') ?_ m0 ⟨σ, H, I, w0⟩)
  rintro n s1 ⟨σ1, H1, I1, w1⟩
  refine wpAny_passesOwn hp (thn (hc pins s1 σ1 H1 _ I1 (turn n σ1 H1 w1)) fun b s2 ⟨H2, I2, q2⟩ => ?_)
  cases b with
  | true =>
    obtain ⟨N, hN, q2⟩ := q2
    rw [if_pos rfl]
    refine wpAny_passesOwn hp (thn (hb pins s2 σ1 H2 _ I2 q2) fun f s3 q3 => ?_)
    cases f with
    | next =>
      obtain ⟨σ3, H3, I3, n3⟩ := q3
      obtain ⟨m', hm, w3⟩ := hN σ3 H3 n3
      exact ⟨m', hm, σ3, H3, I3, w3⟩
    | cont =>
      obtain ⟨σ3, H3, I3, n3⟩ := q3
      obtain ⟨m', hm, w3⟩ := hN σ3 H3 n3
      exact ⟨m', hm, σ3, H3, I3, w3⟩
    | brk => exact q3
    | ret v => exact q3
  | false =>
    rw [if_neg Bool.false_ne_true]
    exact wpAny_execs_nil ⟨σ1, H2, I2, q2⟩
end

/-! ### what a loop or a comprehension walks -/
/-- at turn i: it yields x (the heap may grow), or it stops -/
structure It where
  go : Nat → Hp → Prop
  yld : Nat → Hp → V → Hp → Prop
  stop : Nat → Hp → Prop
/-- the iterator's own objects may turn: they are not the frame's, not pinned, younger than the entry (or a comprehension's own) -/
def FpOk (X : Cx) (pins : List (Addr × Obj)) (H : Hp) (b : Addr) : Prop :=
  H b = none ∧ b ≠ X.env.locals ∧ b ∉ X.fs ∧ (b ∈ X.ex ∨ X.s_0.heap.objs.size ≤ b) ∧ (∀ x c, X.env.cells.lookup x = some c → c ≠ b) ∧ ∀ p ∈ X.pn ++ pins, p.1 ≠ b
theorem Inv.fpOk {X : Cx} {pins : List (Addr × Obj)} {σ : St} {H H' : Hp} {s : Shared} {b : Addr} (I : Inv X pins σ H s) (hb : s.heap.objs.size ≤ b) (hn : H' b = none) : FpOk X pins H' b := by
  refine ⟨hn, Nat.ne_of_gt (Nat.lt_of_lt_of_le I.lt hb), I.nofs hb, .inr (Nat.le_trans I.sz hb), fun x c e z => ?_, fun p hp z => ?_⟩
  · obtain ⟨v, q⟩ := I.cell x c e
    exact absurd (Nat.lt_of_lt_of_le q.lt (by rw [z]; exact hb)) (Nat.lt_irrefl _)
  · exact absurd (Nat.lt_of_lt_of_le (Heap.lt_size (I.pin p hp).1) (by rw [z]; exact hb)) (Nat.lt_irrefl _)
structure Turn (P : Program) (w : World) (K : PySem.W.Frag) (tg : Expr) (J : It) (fp : List Addr) (it : Addr) (tn : Nat → Heap → Prop) : Prop where
  mem : it ∈ fp
  obj : ∀ i h, tn i h → ∀ b ∈ fp, ∃ o, h.get? b = some o ∧ ∀ v, o.data ≠ .cell v
  keep : ∀ i h h', tn i h → (∀ b ∈ fp, ∀ o, h.get? b = some o → h'.get? b = some o) → tn i h'
  item : ∀ (X : Cx), X.prog = P → X.w = w → X.K = K → X.calm = true → ∀ (i : Nat) (pins : List (Addr × Obj)) (s : Shared) (σ : St) (H : Hp) (E : Value → Shared → Prop), Inv X pins σ H s → (∀ b ∈ fp, FpOk X pins H b) → tn i s.heap → J.go i H →
    wpAny (model P w) X.A (pyNext (.ref it)) (fun r s1 => ∃ u, r = some u ∧
      wpAny (model P w) X.A (letOwnedTupleGo tg (.ref it) u) (fun _ s2 => ∃ x H', Inv X pins σ H' s2 ∧ RelV x u ∧ J.yld i H x H' ∧ tn (i + 1) s2.heap ∧ ∀ b ∈ fp, H' b = none) E s1) E s
  done : ∀ (X : Cx), X.prog = P → X.w = w → X.K = K → X.calm = true → ∀ (i : Nat) (pins : List (Addr × Obj)) (s : Shared) (σ : St) (H : Hp) (E : Value → Shared → Prop), Inv X pins σ H s → (∀ b ∈ fp, FpOk X pins H b) → tn i s.heap → J.stop i H →
    wpAny (model P w) X.A (pyNext (.ref it)) (fun r s1 => r = none ∧ Inv X pins σ H s1) E s
  self : ∀ (A : Around) (i : Nat) (s : Shared) (Q : Value → Shared → Prop) (E : Value → Shared → Prop), tn i s.heap → Q (.ref it) s → wpAny (model P w) A (pyIter (.ref it)) Q E s
abbrev TI := St → Hp → (It → Hp → Prop) → Prop
/-- an iterator has come -/
def PIE (X : Cx) (pins : List (Addr × Obj)) (σ : St) (tg : Expr) (R : It → Hp → Prop) (itv : Value) (s2 : Shared) : Prop :=
  ∃ (it : Addr) (fp : List Addr) (tn : Nat → Heap → Prop) (J : It) (H' : Hp), itv = .ref it ∧ Inv X pins σ H' s2 ∧ Turn X.prog X.w X.K tg J fp it tn ∧ tn 0 s2.heap ∧ (∀ b ∈ fp, FpOk X pins H' b) ∧ R J H'
def PI (X : Cx) (tg iter : Expr) (wi : TI) : Prop :=
  ∀ (pins : List (Addr × Obj)) (s : Shared) (σ : St) (H : Hp) (R : It → Hp → Prop), Inv X pins σ H s → wi σ H R →
    wpAny (model X.prog X.w) X.A (eval iter X.env) (fun v s1 => wpAny (model X.prog X.w) X.A (pyIter v) (PIE X pins σ tg R) X.xe s1) X.xe s

/-- the step ahead of the store is nothing for an iterator that keeps no tuple -/
theorem go_of {M : Model} {A : Around} {E : Value → Shared → Prop} {s : Shared} {tg : Expr} {it : Addr} {u : Value} {o : Obj} {n : String} {vs : Array Value} {Q : Unit → Shared → Prop} (ho : s.heap.get? it = some o) (hc : o.cls = .type n) (hd : o.data = .fields vs)
    (hn : ["enumerate", "zip", "dict_itemiterator", "dict_reverseitemiterator", "odict_iterator", "itertools.zip_longest", "itertools.pairwise"].contains n = false) (hQ : Q () s) : wpAny M A (letOwnedTupleGo tg (.ref it) u) Q E s := by
  unfold letOwnedTupleGo
  cases tg <;> first
    | exact wpAny_pure hQ
    | (cases u <;> first
        | exact wpAny_pure hQ
        | (refine wpAny_bind (wpAny_load ho ?_)
           rw [hc, hd]
           show wpAny M A (if (["enumerate", "zip", "dict_itemiterator", "dict_reverseitemiterator", "odict_iterator", "itertools.zip_longest", "itertools.pairwise"].contains n && vs[0]? == some (rawInt _)) = true then _ else _) Q E s
           rw [if_neg (by intro h; rw [hn, Bool.false_and] at h; cases h)]
           exact wpAny_pure hQ))

/-- the list at a, as it stands at each turn (a loop may append to it) -/
def Itl (K : PySem.W.Frag) (a : Addr) : It :=
  ⟨fun i H => ∃ xs x, SqL K H a xs ∧ xs[i]? = some x, fun i H x H' => H' = H ∧ ∀ xs, SqL K H a xs → xs[i]? = some x, fun i H => ∃ xs, SqL K H a xs ∧ xs.length ≤ i⟩
/-- lo, lo + 1, .. (n of them) -/
def Itr (lo : Int) (n : Nat) : It := ⟨fun i _ => i < n, fun i H x H' => H' = H ∧ x = .int (lo + i), fun i _ => n ≤ i⟩
theorem turn_list {P : Program} {w : World} {K : PySem.W.Frag} {tg : Expr} (a it : Addr) : Turn P w K tg (Itl K a) [it] it (fun i h => h.IsListIter it a i) where
  mem := by simp
  obj := fun i h st b hb => by
    have e : b = it := by simpa using hb
    subst e
    obtain ⟨o, e, c, d⟩ := st
    exact ⟨o, e, fun v z => by rw [d] at z; cases z⟩
  keep := fun i h h' st k => st.at fun o e => k it (by simp) o e
  item := by
    intro X hP hw hK hc i pins s σ H E I hf st hg
    subst hP hw hK
    obtain ⟨xs, x, hq, hx⟩ := hg
    obtain ⟨its, rv, p, hz⟩ := I.list hq
    obtain ⟨u, hu, ru⟩ := rv.get hx
    obtain ⟨f0, f1, f2, f3, f4, f5⟩ := hf it (by simp)
    refine wpAny_pyNext_list_item st p.isList (x := u) (by simpa using hu) fun h' st' sb => ?_
    have I1 : Inv X pins σ H { s with heap := h' } := I.turned (t' := s.toks) (fun b o hb e => (sb.2 b hb).trans e) f0 f1 f3 f4 f5
    obtain ⟨o, e, c, d⟩ := id st'
    exact ⟨u, rfl, go_of (s := { s with heap := h' }) e c d (by decide) ⟨x, H, I1, ru, ⟨rfl, fun ys hy => by rw [I.list_inj hy hq]; exact hx⟩, st', fun b hb => (hf b hb).1⟩⟩
  done := by
    intro X hP hw hK hc i pins s σ H E I hf st hg
    subst hP hw hK
    obtain ⟨xs, hq, hx⟩ := hg
    obtain ⟨its, rv, p, hz⟩ := I.list hq
    obtain ⟨f0, f1, f2, f3, f4, f5⟩ := hf it (by simp)
    have hl := rv.length
    exact wpAny_pyNext_list_end (I.ok.hd hc) st p.isList (by simp; omega) fun h' eb => ⟨rfl, I.turned (t' := s.toks) (fun b o hb e => eb b o hb e) f0 f1 f3 f4 f5⟩
  self := fun _ _ _ _ _ st h => wpAny_pyIter_listiter st h
theorem turn_range {P : Program} {w : World} {K : PySem.W.Frag} {tg : Expr} (it : Addr) (lo : Int) (n : Nat) : Turn P w K tg (Itr lo n) [it] it (fun i h => IsRangeIter h it (lo + (i : Nat) * 1) ((n : Int) - (i : Nat)) 1) where
  mem := by simp
  obj := fun i h st b hb => by
    have e : b = it := by simpa using hb
    subst e
    exact ⟨_, st, fun v z => by
      have z' : Data.fields _ = Data.cell v := z
      cases z'⟩
  keep := fun i h h' st k => k it (by simp) _ st
  item := by
    intro X hP hw hK hc i pins s σ H E I hf st hg
    subst hP hw hK
    obtain ⟨f0, f1, f2, f3, f4, f5⟩ := hf it (by simp)
    have W := Walks.range (prog := X.prog) (w := X.w) (I.ok.hd hc) it lo 1 n
    refine W.item i s _ _ hg st fun v h' tk hv st' kk => ?_
    obtain ⟨t, rfl⟩ := hv
    have I1 : Inv X pins σ H { s with heap := h', toks := tk } := I.turned (fun b o hb e => kk b o (by simpa using hb) e) f0 f1 f3 f4 f5
    refine ⟨_, rfl, go_of (s := { s with heap := h', toks := tk }) (n := "range_iterator") st' rfl rfl (by decide) ⟨.int (lo + i), H, I1, ⟨t, ?_⟩, ⟨rfl, rfl⟩, st', fun b hb => (hf b hb).1⟩⟩
    rw [Int.mul_one]
  done := by
    intro X hP hw hK hc i pins s σ H E I hf st hg
    subst hP hw hK
    obtain ⟨f0, f1, f2, f3, f4, f5⟩ := hf it (by simp)
    exact wpAny_pyNext_range_end (I.ok.hd hc) st (by have : n ≤ i := hg; omega) fun h' eb => ⟨rfl, I.turned (t' := s.toks) (fun b o hb e => eb b o hb e) f0 f1 f3 f4 f5⟩
  self := fun _ _ _ _ _ st h => wpAny_pyIter_rangeiter st h
end L2

namespace L2
open PySem PySem.Spec PyProof.Rows
section
variable {X : Cx} {tg : Expr}
def iList (K : PySem.W.Frag) (tl : TE) : TI := fun σ H R => tl σ H fun x H1 => ∃ a, x = .ref a ∧ (∃ xs, SqL K H1 a xs) ∧ R (Itl K a) H1
theorem pi_list {l : Expr} {tl : TE} (hl : PE X l tl) : PI X tg l (iList X.K tl) := by
  intro pins s σ H R I h
  refine thn (hl pins s σ H _ I h) fun v s1 ⟨x, H1, I1, r1, q1⟩ => ?_
  obtain ⟨a, e, ⟨xs, hq⟩, q⟩ := q1
  subst e
  cases r1
  obtain ⟨its, rv, p, hz⟩ := I1.list hq
  refine wpAny_pyIter_list p.isList ?_
  refine ⟨s1.heap.objs.size, [s1.heap.objs.size], _, _, H1, rfl, I1.kept (t' := s1.toks) fun b o e => Heap.get?_push_of_some _ e, turn_list a _, ⟨_, Heap.get?_push_size _ rfl, rfl, rfl⟩, fun b hb => ?_, q⟩
  have e : b = s1.heap.objs.size := by simpa using hb
  subst e
  exact I1.fpOk (Nat.le_refl _) (I1.hok.fresh (Nat.le_refl _))
/-- a range object just made, walked -/
theorem range_it {pins : List (Addr × Obj)} {σ : St} {H : Hp} {s : Shared} {R : It → Hp → Prop} {E : Value → Shared → Prop} {lo hi : Int} {t u v : Tok} {tk : Nat} (I : Inv X pins σ H s) (h1 : -(2 ^ 62) ≤ lo) (h2 : lo < 2 ^ 62) (h3 : -(2 ^ 62) ≤ hi) (h4 : hi < 2 ^ 62)
    (q : R (Itr lo (hi - lo).toNat) H) : wpAny (model X.prog X.w) X.A (pyIter (.ref s.heap.objs.size)) (PIE X pins σ tg R) E { s with heap := s.heap.push { cls := .type "range", data := .fields #[.int lo t, .int hi u, .int 1 v] }, toks := tk } := by
  refine wpAny_pyIter_range (IsRange.new ..) (small_one h1 h2 h3 h4) ?_
  have I1 : Inv X pins σ H { s with heap := s.heap.push { cls := .type "range", data := .fields #[.int lo t, .int hi u, .int 1 v] }, toks := tk } := I.kept fun b o e => Heap.get?_push_of_some _ e
  refine ⟨(s.heap.push { cls := .type "range", data := .fields #[.int lo t, .int hi u, .int 1 v] }).objs.size, [(s.heap.push { cls := .type "range", data := .fields #[.int lo t, .int hi u, .int 1 v] }).objs.size], _, _, H, rfl,
    I1.kept (t' := tk) fun b o e => Heap.get?_push_of_some _ e, turn_range _ lo (hi - lo).toNat, ?_, fun b hb => ?_, q⟩
  · have e1 : lo + ((0 : Nat) : Int) * 1 = lo := by simp
    have e2 : (((hi - lo).toNat : Nat) : Int) - ((0 : Nat) : Int) = Builtin.Range.rangeSize lo hi 1 := by rw [rangeSize_one]; split <;> omega
    show IsRangeIter _ _ (lo + ((0 : Nat) : Int) * 1) ((((hi - lo).toNat : Nat) : Int) - ((0 : Nat) : Int)) 1
    rw [e1, e2]
    exact Heap.get?_push_size _ rfl
  · have e : b = (s.heap.push { cls := .type "range", data := .fields #[.int lo t, .int hi u, .int 1 v] }).objs.size := by simpa using hb
    subst e
    exact I1.fpOk (Nat.le_refl _) (I1.hok.fresh (Nat.le_refl _))
def iRng1 (ta : TA) : TI := fun σ H R => ta σ H fun vs H1 => ∃ j : Int, vs = [.int j] ∧ -(2 ^ 62) ≤ j ∧ j < 2 ^ 62 ∧ R (Itr 0 j.toNat) H1
theorem pi_range1 {a : Expr} {ta : TA} {p pos : Pos} (hg : Gl X "range") (hm : X.mg "range" = none) (ha : PA X [a] ta) (hs : starEach [a] X.env = [(false, eval a X.env)] := by rfl) : PI X tg (.Call (.Name "range" p) [a] [] pos) (iRng1 ta) := by
  intro pins s σ H R I h
  refine Call_ (ld_blt I hg hm boot_range (PyProof.Rows.callWith_type1 (thn (ha pos pins s σ H _ I h) fun us s1 ⟨vs, H1, I1, r1, q1⟩ => ?_) hs rfl))
  obtain ⟨j, e, q1, q2, q⟩ := q1
  subst e
  cases r1 with
  | cons r rr =>
    cases rr
    obtain ⟨t, rfl⟩ := r
    exact call_range_1 (range_it I1 (by omega) (by omega) q1 q2 (by simpa using q))

/-! ### for -/
/-- W: the invariant by the turn and a measure; N: what the body is to reach -/
def tFor (wi : TI) (g : TG) (tb : TS) : TS := fun D σ H => wi σ H fun J H1 => ∃ W : Nat → Nat → St → Hp → Prop, (∃ m, W 0 m σ H1) ∧ ∀ i m σ H, W i m σ H →
  (J.stop i H ∧ D.nx σ H) ∨ (J.go i H ∧ ∃ N : St → Hp → Prop, (∀ σ' H', N σ' H' → ∃ m', m' < m ∧ W (i + 1) m' σ' H') ∧ ∀ x H', J.yld i H x H' → g x σ H' fun σ2 H2 => tb { D with nx := N, ct := N, bk := D.nx } σ2 H2)
/-- the records at fp as they stand -/
def pinsAt (fp : List Addr) (h : Heap) : List (Addr × Obj) := fp.filterMap fun b => (h.get? b).map fun o => (b, o)
theorem mem_pinsAt {fp : List Addr} {h : Heap} {b : Addr} {o : Obj} (hb : b ∈ fp) (e : h.get? b = some o) : (b, o) ∈ pinsAt fp h := List.mem_filterMap.mpr ⟨b, hb, by rw [e]; rfl⟩
theorem of_pinsAt {fp : List Addr} {h : Heap} {p : Addr × Obj} (hp : p ∈ pinsAt fp h) : p.1 ∈ fp ∧ h.get? p.1 = some p.2 := by
  obtain ⟨b, hb, e⟩ := List.mem_filterMap.mp hp
  cases q : h.get? b with
  | none => rw [q] at e; cases e
  | some o =>
    rw [q] at e
    have e' : (b, o) = p := Option.some.inj e
    subst e'
    exact ⟨hb, q⟩
theorem Inv.pinned {pins : List (Addr × Obj)} {σ : St} {H : Hp} {s : Shared} {fp : List Addr} (I : Inv X pins σ H s) (hf : ∀ b ∈ fp, FpOk X pins H b) (ho : ∀ b ∈ fp, ∃ o, s.heap.get? b = some o ∧ ∀ v, o.data ≠ .cell v) : Inv X (pins ++ pinsAt fp s.heap) σ H s :=
  I.pins_of fun p hp => (List.mem_append.mp hp).elim (fun z => I.pin p (List.mem_append_right _ z)) fun z => by
    obtain ⟨hb, e⟩ := of_pinsAt z
    obtain ⟨f0, f1, f2, _⟩ := hf p.1 hb
    obtain ⟨o, e', d⟩ := ho p.1 hb
    rw [e] at e'; cases e'
    exact ⟨e, f0, f1, f2, d⟩
theorem Inv.unpinned {pins pl : List (Addr × Obj)} {σ : St} {H : Hp} {s : Shared} (I : Inv X (pins ++ pl) σ H s) : Inv X pins σ H s := I.pins_of fun p hp => I.pin p (List.mem_append_right _ (List.mem_append_left _ hp))
theorem ps_for {iter : Expr} {body : List Stmt} {wi : TI} {g : TG} {tb : TS} {pos : Pos} (hp : PassesOwn (model X.prog X.w) X.A X.env X.xe) (hc : X.calm = true) (hi : PI X tg iter wi) (hg : PG X tg g) (hb : PSs X body tb)
    (hs : ∀ x, foldedSetIterable iter X.env x = pure x := by intro _; rfl) : PS X (.For tg iter body [] pos) (tFor wi g tb) := by
  intro pins s σ H D I h
  refine wpAny_For (thn (hi pins s σ H _ I h) fun v s1 h1 => thn h1 fun itv s2 h2 => ?_) hs
  obtain ⟨it, fp, tn, J, H2, e, I2, T, st2, f2, W, ⟨m0, w0⟩, turn⟩ := h2
  subst e
  -- what stays true of the iterator's objects through the loop
  have stat : ∀ {H' : Hp}, (∀ b ∈ fp, H' b = none) → ∀ b ∈ fp, FpOk X pins H' b := fun hn b hb => ⟨hn b hb, (f2 b hb).2⟩
  refine codeAny_forLoop_any (fun n s' => ∃ i σ' H', Inv X pins σ' H' s' ∧ tn i s'.heap ∧ (∀ b ∈ fp, H' b = none) ∧ W i n σ' H') ?_ m0 ⟨0, σ, H2, I2, st2, fun b hb => (f2 b hb).1, w0⟩
  rintro n s3 ⟨i, σ3, H3, I3, st3, fr3, w3⟩
  rcases turn i n σ3 H3 w3 with ⟨stop, qn⟩ | ⟨go, N, hN, step⟩
  · refine wpAny_passesOwn hp (thn (T.done X rfl rfl rfl hc i pins s3 σ3 H3 X.xe I3 (stat fr3) st3 stop) fun r s4 ⟨hr, I4⟩ => ?_)
    subst hr
    exact wpAny_execs_nil ⟨σ3, H3, I4, qn⟩
  · refine wpAny_passesOwn hp (thn (T.item X rfl rfl rfl hc i pins s3 σ3 H3 X.xe I3 (stat fr3) st3 go) fun r s4 ⟨u, hr, h4⟩ => ?_)
    subst hr
    refine wpAny_passesOwn hp (thn h4 fun _ s5 ⟨x, H5, I5, r5, y5, st5, fr5⟩ => ?_)
    have I5' := I5.pinned (stat fr5) (T.obj _ _ st5)
    refine wpAny_passesOwn hp (thn (hg _ s5 σ3 H5 x u _ I5' r5 (step x H5 y5)) fun _ s6 ⟨σ6, H6, I6, q6⟩ => ?_)
    refine wpAny_passesOwn hp (thn (hb _ s6 σ6 H6 _ I6 q6) fun f s7 q7 => ?_)
    have again : ∀ {σ7 : St} {H7 : Hp}, Inv X (pins ++ pinsAt fp s5.heap) σ7 H7 s7 → N σ7 H7 → ∃ m, m < n ∧ ∃ i σ' H', Inv X pins σ' H' s7 ∧ tn i s7.heap ∧ (∀ b ∈ fp, H' b = none) ∧ W i m σ' H' := fun {σ7 H7} I7 n7 => by
      obtain ⟨m', hm, w7⟩ := hN σ7 H7 n7
      refine ⟨m', hm, i + 1, σ7, H7, I7.unpinned, T.keep _ _ _ st5 fun b hb o e => (I7.pin (b, o) (List.mem_append_right _ (List.mem_append_right _ (mem_pinsAt hb e)))).1, fun b hb => ?_, w7⟩
      obtain ⟨o, e, d⟩ := T.obj _ _ st5 b hb
      exact (I7.pin (b, o) (List.mem_append_right _ (List.mem_append_right _ (mem_pinsAt hb e)))).2.1
    cases f with
    | next => obtain ⟨σ7, H7, I7, n7⟩ := q7; exact again I7 n7
    | cont => obtain ⟨σ7, H7, I7, n7⟩ := q7; exact again I7 n7
    | brk => obtain ⟨σ7, H7, I7, q7⟩ := q7; exact ⟨σ7, H7, I7.unpinned, q7⟩
    | ret v => obtain ⟨x7, σ7, H7, I7, r7, q7⟩ := q7; exact ⟨x7, σ7, H7, I7.unpinned, r7, q7⟩
end

/-! ### the forms one uses -/
/-- over a list that the body leaves as it is -/
theorem for_list {K : PySem.W.Frag} {a : Addr} {xs : List V} {g : TG} {tb : TS} {D : Ends} {σ : St} {H : Hp} (Pv : Nat → St → Hp → Prop) (h0 : Pv 0 σ H) (hl : ∀ i σ H, i ≤ xs.length → Pv i σ H → SqL K H a xs)
    (hs : ∀ i x σ H, xs[i]? = some x → Pv i σ H → g x σ H fun σ2 H2 => tb { D with nx := Pv (i + 1), ct := Pv (i + 1), bk := D.nx } σ2 H2) (hd : ∀ σ H, Pv xs.length σ H → D.nx σ H) :
    ∃ W : Nat → Nat → St → Hp → Prop, (∃ m, W 0 m σ H) ∧ ∀ i m σ H, W i m σ H →
      ((Itl K a).stop i H ∧ D.nx σ H) ∨ ((Itl K a).go i H ∧ ∃ N : St → Hp → Prop, (∀ σ' H', N σ' H' → ∃ m', m' < m ∧ W (i + 1) m' σ' H') ∧ ∀ x H', (Itl K a).yld i H x H' → g x σ H' fun σ2 H2 => tb { D with nx := N, ct := N, bk := D.nx } σ2 H2) := by
  refine ⟨fun i m σ H => m = xs.length - i ∧ i ≤ xs.length ∧ Pv i σ H, ⟨xs.length, by simp, Nat.zero_le _, h0⟩, ?_⟩
  rintro i m σ H ⟨rfl, hi, p⟩
  have q := hl i σ H hi p
  by_cases hlt : i < xs.length
  · refine .inr ⟨⟨xs, xs[i], q, by simp [hlt]⟩, Pv (i + 1), fun σ' H' p' => ⟨xs.length - (i + 1), by omega, rfl, hlt, p'⟩, fun x H' y => ?_⟩
    obtain ⟨e, y⟩ := y
    subst e
    exact hs i x σ _ (y xs q) p
  · have e : i = xs.length := by omega
    subst e
    exact .inl ⟨⟨xs, q, Nat.le_refl _⟩, hd σ H p⟩
end L2

namespace L2
open PySem PySem.Spec PyProof.Rows

abbrev R2 := V → V → Hp → VK → Prop
/-- a two-place operation on values: f is binaryOp op, inplaceOp op or compareOp op -/
def OpR (X : Cx) (f : Value → Value → Sem Value) (r : R2) : Prop :=
  ∀ (pins : List (Addr × Obj)) (s : Shared) (σ : St) (H : Hp) (x y : V) (v u : Value) (Q : VK), Inv X pins σ H s → RelV x v → RelV y u → r x y H Q →
    wpAny (model X.prog X.w) X.A (f v u) (EP X pins σ Q) X.xe s
/-- a one-place operation -/
def UnR (X : Cx) (f : Value → Sem Value) (r : V → Hp → VK → Prop) : Prop :=
  ∀ (pins : List (Addr × Obj)) (s : Shared) (σ : St) (H : Hp) (x : V) (v : Value) (Q : VK), Inv X pins σ H s → RelV x v → r x H Q →
    wpAny (model X.prog X.w) X.A (f v) (EP X pins σ Q) X.xe s
/-- a call of a value that is known (a builtin, a type) with values -/
def CallR (X : Cx) (f : Value) (r : List V → Hp → VK → Prop) : Prop :=
  ∀ (pins : List (Addr × Obj)) (s : Shared) (σ : St) (H : Hp) (xs : List V) (us : List Value) (Q : VK), Inv X pins σ H s → Vals xs us → r xs H Q →
    wpAny (model X.prog X.w) X.A (call f us) (EP X pins σ Q) X.xe s

def tOp (r : R2) (ta tb : TE) : TE := fun σ H Q => ta σ H fun x H1 => tb σ H1 fun y H2 => r x y H2 Q
def tUn (r : V → Hp → VK → Prop) (ta : TE) : TE := fun σ H Q => ta σ H fun x H1 => r x H1 Q
/-- ints in, under C, and a value out -/
def rI (C : Int → Int → Prop) (g : Int → Int → V) : R2 := fun x y H Q => ∃ i j, x = .int i ∧ y = .int j ∧ C i j ∧ Q (g i j) H
def rI0 (g : Int → Int → V) : R2 := fun x y H Q => ∃ i j, x = .int i ∧ y = .int j ∧ Q (g i j) H
def rU (g : Int → V) : V → Hp → VK → Prop := fun x H Q => ∃ i, x = .int i ∧ Q (g i) H

section
variable {X : Cx} {a b c : Expr} {ta tb tc : TE} {pos : Pos}

theorem binT (ha : PE X a ta) (hb : PE X b tb) {pins : List (Addr × Obj)} {s : Shared} {σ : St} {H : Hp} {R : V → V → Hp → Prop} (I : Inv X pins σ H s)
    (h : ta σ H fun x H1 => tb σ H1 fun y H2 => R x y H2) {Q : Value → Shared → Prop} {f : Value → Value → Sem Value}
    (hf : ∀ v u s2 x y H2, Inv X pins σ H2 s2 → RelV x v → RelV y u → R x y H2 → wpAny (model X.prog X.w) X.A (f v u) Q X.xe s2) :
    wpAny (model X.prog X.w) X.A (eval a X.env) (fun v s₁ => wpAny (model X.prog X.w) X.A (eval b X.env) (fun u s₂ => wpAny (model X.prog X.w) X.A (f v u) Q X.xe s₂) X.xe s₁) X.xe s := by
  refine thn (ha pins s σ H _ I h) fun v s1 ⟨x, H1, I1, r1, q1⟩ => ?_
  refine thn (hb pins s1 σ H1 _ I1 q1) fun u s2 ⟨y, H2, I2, r2, q2⟩ => ?_
  exact hf v u s2 x y H2 I2 r1 r2 q2

theorem pe_op {op : Operator} {r : R2} (ho : OpR X (binaryOp op) r) (ha : PE X a ta) (hb : PE X b tb) : PE X (.BinOp a op b pos) (tOp r ta tb) := by
  intro pins s σ H Q I h
  exact wpAny_BinOp (binT ha hb I h fun v u s2 x y H2 I2 rx ry q => ho pins s2 σ H2 x y v u Q I2 rx ry q)
theorem pe_un {op : UnaryOp} {r : V → Hp → VK → Prop} (ho : UnR X (unaryOp op) r) (ha : PE X a ta) : PE X (.UnaryOp op a pos) (tUn r ta) := by
  intro pins s σ H Q I h
  exact UnaryOp_ (thn (ha pins s σ H _ I h) fun v s1 ⟨x, H1, I1, r1, q1⟩ => ho pins s1 σ H1 x v Q I1 r1 q1)

/-! ### ints -/
theorem opI {f : Value → Value → Sem Value} {C : Int → Int → Prop} {g : Int → Int → Int}
    (rule : ∀ (i j : Int) (t u : Tok) (s : Shared) (Q : Value → Shared → Prop) (E : Value → Shared → Prop), C i j → Q (.int (g i j) s.toks) { s with toks := s.toks + 1 } → wpAny (model X.prog X.w) X.A (f (.int i t) (.int j u)) Q E s) :
    OpR X f (rI C fun i j => .int (g i j)) := by
  intro pins s σ H x y v u Q I rx ry h
  obtain ⟨i, j, rfl, rfl, hc, q⟩ := h
  obtain ⟨t, rfl⟩ := rx
  obtain ⟨t', rfl⟩ := ry
  exact rule i j t t' s _ _ hc ⟨.int (g i j), H, I.tok _, ⟨_, rfl⟩, q⟩
theorem opI0 {f : Value → Value → Sem Value} {g : Int → Int → Int}
    (rule : ∀ (i j : Int) (t u : Tok) (s : Shared) (Q : Value → Shared → Prop) (E : Value → Shared → Prop), Q (.int (g i j) s.toks) { s with toks := s.toks + 1 } → wpAny (model X.prog X.w) X.A (f (.int i t) (.int j u)) Q E s) :
    OpR X f (rI0 fun i j => .int (g i j)) := by
  intro pins s σ H x y v u Q I rx ry h
  obtain ⟨i, j, rfl, rfl, q⟩ := h
  obtain ⟨t, rfl⟩ := rx
  obtain ⟨t', rfl⟩ := ry
  exact rule i j t t' s _ _ ⟨.int (g i j), H, I.tok _, ⟨_, rfl⟩, q⟩
theorem opB0 {f : Value → Value → Sem Value} {g : Int → Int → Bool}
    (rule : ∀ (i j : Int) (t u : Tok) (s : Shared) (Q : Value → Shared → Prop) (E : Value → Shared → Prop), Q (.bool (g i j)) s → wpAny (model X.prog X.w) X.A (f (.int i t) (.int j u)) Q E s) :
    OpR X f (rI0 fun i j => .bl (g i j)) := by
  intro pins s σ H x y v u Q I rx ry h
  obtain ⟨i, j, rfl, rfl, q⟩ := h
  obtain ⟨t, rfl⟩ := rx
  obtain ⟨t', rfl⟩ := ry
  exact rule i j t t' s _ _ ⟨.bl (g i j), H, I, rfl, q⟩

def CPow (i j : Int) : Prop := 0 ≤ j ∧ j ≤ 1000000 ∧ i.natAbs < 2 ^ 64
def CMul (i j : Int) : Prop := (-(2 ^ 64) < i ∧ i < 2 ^ 64) ∨ (-(2 ^ 64) < j ∧ j < 2 ^ 64)
theorem CMul.ok {i j : Int} (h : CMul i j) : IntMulOk i j := by
  rcases h with ⟨h1, h2⟩ | ⟨h1, h2⟩
  · exact .of_left (intBits_le_64 h1 h2)
  · exact .of_right (intBits_le_64 h1 h2)

theorem op_add : OpR X (binaryOp .Add) (rI0 fun i j => .int (i + j)) := opI0 fun _ _ _ _ _ _ _ q => add_int q
theorem op_sub : OpR X (binaryOp .Sub) (rI0 fun i j => .int (i - j)) := opI0 fun _ _ _ _ _ _ _ q => sub_int q
theorem op_mul : OpR X (binaryOp .Mult) (rI CMul fun i j => .int (i * j)) := opI fun _ _ _ _ _ _ _ hc q => mul_int q hc.ok
theorem op_pow : OpR X (binaryOp .Pow) (rI CPow fun i j => .int (i ^ j.toNat)) := opI fun _ _ _ _ _ _ _ hc q => pow_int_small hc.1 hc.2.1 hc.2.2 q


theorem unI {f : Value → Sem Value} {g : Int → Int}
    (rule : ∀ (i : Int) (t : Tok) (s : Shared) (Q : Value → Shared → Prop) (E : Value → Shared → Prop), Q (.int (g i) s.toks) { s with toks := s.toks + 1 } → wpAny (model X.prog X.w) X.A (f (.int i t)) Q E s) :
    UnR X f (rU fun i => .int (g i)) := by
  intro pins s σ H x v Q I rx h
  obtain ⟨i, rfl, q⟩ := h
  obtain ⟨t, rfl⟩ := rx
  exact rule i t s _ _ ⟨.int (g i), H, I.tok _, ⟨_, rfl⟩, q⟩
theorem un_neg : UnR X (unaryOp .USub) (rU fun i => .int (-i)) := unI fun _ _ _ _ _ q => neg_int q

/-! ### bools among ints: n += (a < b) -/
end

/-! ### comparisons -/
/-- the scalars that == tells apart as data does -/
def scal : V → V → Bool
  | .non, .non => true | .non, .int _ => true | .int _, .non => true | .non, .bl _ => true | .bl _, .non => true | .non, .str _ => true | .str _, .non => true
  | .int _, .int _ => true | .bl _, .bl _ => true | .str _, .str _ => true | .byt _, .byt _ => true
  | .int _, .str _ => true | .str _, .int _ => true | .bl _, .str _ => true | .str _, .bl _ => true
  | _, _ => false
def rEq : R2 := fun x y H Q => scal x y = true ∧ Q (.bl (decide (x = y))) H

theorem dec_int {i j : Int} : decide (V.int i = V.int j) = (i == j) := by
  rw [Bool.eq_iff_iff]
  simp
theorem dec_bl {i j : Bool} : decide (V.bl i = V.bl j) = (i == j) := by
  rw [Bool.eq_iff_iff]
  simp
theorem dec_str {i j : Str} : decide (V.str i = V.str j) = (i == j) := by
  rw [Bool.eq_iff_iff]
  simp
theorem dec_byt {i j : Array UInt8} : decide (V.byt i = V.byt j) = (i.toList == j.toList) := by
  rw [Bool.eq_iff_iff]
  cases i
  cases j
  simp

section
variable {X : Cx} {a b c : Expr} {ta tb tc : TE} {pos : Pos}
theorem fin_bl {pins : List (Addr × Obj)} {σ : St} {H : Hp} {s : Shared} {Q : VK} {k k' : Bool} (I : Inv X pins σ H s) (q : Q (.bl k) H) (e : k = k') : EP X pins σ Q (.bool k') s := by
  subst e
  exact ⟨.bl k, H, I, rfl, q⟩
theorem op_eq : OpR X (compareOp .Eq) rEq := by
  intro pins s σ H x y v u Q I rx ry h
  obtain ⟨hs, q⟩ := h
  cases x with
  | non =>
    cases rx
    cases y with
    | non => cases ry; exact PySem.EqNone.eq_none_none (fin_bl I q (by simp))
    | bl j => cases ry; exact PySem.EqNone.eq_none_bool (fin_bl I q (by simp))
    | int j => obtain ⟨t', rfl⟩ := ry; exact PySem.EqNone.eq_none_int (fin_bl I q (by simp))
    | str j => obtain ⟨t', rfl⟩ := ry; exact PySem.EqNone.eq_none_str (fin_bl I q (by simp))
    | _ => exact absurd (show false = true from hs) Bool.false_ne_true
  | bl i =>
    cases rx
    cases y with
    | non => cases ry; exact PySem.EqNone.eq_bool_none (fin_bl I q (by simp))
    | bl j => cases ry; exact eq_bool (fin_bl I q dec_bl)
    | str j => obtain ⟨t', rfl⟩ := ry; exact PySem.EqMixed.eq_bool_str (fin_bl I q (by simp))
    | _ => exact absurd (show false = true from hs) Bool.false_ne_true
  | int i =>
    obtain ⟨t, rfl⟩ := rx
    cases y with
    | non => cases ry; exact PySem.EqNone.eq_int_none (fin_bl I q (by simp))
    | int j => obtain ⟨t', rfl⟩ := ry; exact eq_int (fin_bl I q dec_int)
    | str j => obtain ⟨t', rfl⟩ := ry; exact PySem.EqMixed.eq_int_str (fin_bl I q (by simp))
    | _ => exact absurd (show false = true from hs) Bool.false_ne_true
  | str i =>
    obtain ⟨t, rfl⟩ := rx
    cases y with
    | non => cases ry; exact PySem.EqNone.eq_str_none (fin_bl I q (by simp))
    | bl j => cases ry; exact PySem.EqMixed.eq_str_bool (fin_bl I q (by simp))
    | int j => obtain ⟨t', rfl⟩ := ry; exact PySem.EqMixed.eq_str_int (fin_bl I q (by simp))
    | str j => obtain ⟨t', rfl⟩ := ry; exact eq_str (fin_bl I q dec_str)
    | _ => exact absurd (show false = true from hs) Bool.false_ne_true
  | byt i =>
    obtain ⟨t, rfl⟩ := rx
    cases y with
    | byt j => obtain ⟨t', rfl⟩ := ry; exact PySem.W.eq_bytes (fin_bl I q dec_byt)
    | _ => exact absurd (show false = true from hs) Bool.false_ne_true
  | _ => cases y <;> exact absurd (show false = true from hs) Bool.false_ne_true

theorem op_le : OpR X (compareOp .LtE) (rI0 fun i j => .bl (decide (i ≤ j))) := opB0 fun _ _ _ _ _ _ _ q => le_int q
theorem op_gt : OpR X (compareOp .Gt) (rI0 fun i j => .bl (decide (j < i))) := opB0 fun _ _ _ _ _ _ _ q => gt_int q
theorem op_ge : OpR X (compareOp .GtE) (rI0 fun i j => .bl (decide (j ≤ i))) := opB0 fun _ _ _ _ _ _ _ q => ge_int q



/-- two rules for one operation: by cases -/
theorem OpR.or {f : Value → Value → Sem Value} {r r' : R2} (h : OpR X f r) (h' : OpR X f r') : OpR X f (fun x y H Q => r x y H Q ∨ r' x y H Q) := by
  intro pins s σ H x y v u Q I rx ry q
  rcases q with q | q
  · exact h pins s σ H x y v u Q I rx ry q
  · exact h' pins s σ H x y v u Q I rx ry q

theorem nomark (b : Expr) {op : CmpOp} (h : op ≠ .In := by decide) (h2 : op ≠ .NotIn := by decide) : behindInMarks op b = false := by
  have e1 : (op == CmpOp.In) = false := by cases op <;> first | rfl | exact absurd rfl h
  have e2 : (op == CmpOp.NotIn) = false := by cases op <;> first | rfl | exact absurd rfl h2
  cases b <;> simp [behindInMarks, e1, e2]
/-- a comparison as a value; hm: nomark b, or (for in, not in) by with_unfolding_all rfl -/
theorem pe_cmpR {op : CmpOp} {r : R2} (ho : OpR X (compareOp op) r) (ha : PE X a ta) (hb : PE X b tb) (hm : behindInMarks op b = false) : PE X (.Compare a [op] [b] pos) (tOp r ta tb) := by
  intro pins s σ H Q I h
  exact wpAny_Compare1 (binT ha hb I h fun v u s2 x y H2 I2 rx ry q => ho pins s2 σ H2 x y v u Q I2 rx ry q) hm
/-- a reading of a value as a test -/
def tTest (t : TE) : TT := fun σ H Q => t σ H fun x H' => ∃ k, x = .bl k ∧ Q k H'
theorem pt_cmpR {op : CmpOp} {r : R2} (ho : OpR X (compareOp op) r) (ha : PE X a ta) (hb : PE X b tb) (hm : behindInMarks op b = false) : PT X (.Compare a [op] [b] pos) (tTest (tOp r ta tb)) := by
  intro pins s σ H Q I h
  refine wpAny_isTrue_Compare1 (thn (ha pins s σ H _ I h) fun v s1 ⟨x, H1, I1, r1, q1⟩ => thn (hb pins s1 σ H1 _ I1 q1) fun u s2 ⟨y, H2, I2, r2, q2⟩ =>
    thn (ho pins s2 σ H2 x y v u _ I2 r1 r2 q2) fun c s3 ⟨z, H3, I3, r3, k, e, q3⟩ => ?_) hm
  subst e
  cases r3
  exact wpAny_truthy_bool ⟨H3, I3, q3⟩
/-- a op1 b op2 c -/
def tChain (r r' : R2) (ta tb tc : TE) : TE := fun σ H Q => ta σ H fun x H1 => tb σ H1 fun y H2 => r x y H2 fun z H3 => ∃ k, z = .bl k ∧
  (if k = true then tc σ H3 fun w' H4 => r' y w' H4 Q else Q (.bl false) H3)
theorem pe_chain {op op' : CmpOp} {r r' : R2} (ho : OpR X (compareOp op) r) (ho' : OpR X (compareOp op') r') (ha : PE X a ta) (hb : PE X b tb) (hc : PE X c tc)
    (hm : lastMarks [op, op'] [b, c] = false := by with_unfolding_all rfl) : PE X (.Compare a [op, op'] [b, c] pos) (tChain r r' ta tb tc) := by
  intro pins s σ H Q I h
  refine Compare_chain (thn (ha pins s σ H _ I h) fun v s1 ⟨x, H1, I1, r1, q1⟩ => chain_link (thn (hb pins s1 σ H1 _ I1 q1) fun u s2 ⟨y, H2, I2, r2, q2⟩ =>
    thn (ho pins s2 σ H2 x y v u _ I2 r1 r2 q2) fun d s3 ⟨z, H3, I3, r3, k, e, q3⟩ => ?_)) hm
  subst e
  cases r3
  refine wpAny_truthy_bool ?_
  cases k with
  | false => exact ite_ff ⟨.bl false, H3, I3, rfl, q3⟩
  | true => exact ite_tt (chain_last (thn (hc pins s3 σ H3 _ I3 q3) fun w' s4 ⟨z', H4, I4, r4, q4⟩ => ho' pins s4 σ H4 y z' u w' Q I4 r2 r4 q4))

/-! ### truth -/
theorem line63 : (sizeLine : Nat) < 2 ^ 63 := by rw [sizeLine_eq]; decide

/-! ### strs and bytes -/


/-! ### scalar builtins, by CallR -/
theorem vals1 {x : V} {us : List Value} (r : Vals [x] us) : ∃ u, us = [u] ∧ RelV x u := by
  cases r with
  | cons r1 r2 => cases r2; exact ⟨_, rfl, r1⟩
end
end L2

namespace L2
open PySem PySem.Spec PyProof.Rows

/-! ### an instance, its attributes a map -/
structure ObjM (h : Heap) (x dx C : Addr) (mA : Str → Option Value) : Prop where
  obj : h.get? x = some (PySem.W.instObj C dx)
  ns : h.Ns1 dx mA
  ne : dx ≠ x

theorem lookIn_ns {h : Heap} {dx : Addr} {mA : Str → Option Value} (n : h.Ns1 dx mA) : ∃ od, h.get? dx = some od ∧ ∀ name, PySem.W.lookIn name od = some (mA name) := by
  obtain ⟨o, es, ep, ho, hd, hk, _, hm⟩ := n
  refine ⟨o, ho, fun name => ?_⟩
  have e := hm name
  unfold nsFind findBy at e
  rw [← Array.find?_toList] at e
  unfold PySem.W.lookIn
  rw [hd]
  dsimp only
  split
  · rename_i y q
    rw [q] at e
    exact congrArg some e
  · rename_i q
    rw [q] at e
    have a : es.toList.any (·.refKey) = false := by
      rw [List.any_eq_false]
      intro y hy
      obtain ⟨z, t, hkey⟩ := hk y (Array.mem_toList_iff.mp hy)
      simp [DictEntry.refKey, hkey]
    have a' : ¬ es.toList.any (·.refKey) = true := by rw [a]; exact Bool.false_ne_true
    rw [if_neg a']
    exact congrArg some e

theorem ObjM.look {h : Heap} {x dx C : Addr} {mA : Str → Option Value} (I : ObjM h x dx C mA) : ∃ od, PySem.W.InstAt h x (PySem.W.instObj C dx) C (some od) ∧ ∀ name, PySem.W.lookIn name od = some (mA name) :=
  let ⟨od, ho, hl⟩ := lookIn_ns I.ns
  ⟨od, ⟨I.obj, rfl, rfl, ho⟩, hl⟩

section
variable {prog : Program} {w : World} {A : Around} {E : Value → Shared → Prop} {s : Shared} {K : PySem.W.Frag} {x dx C f : Addr} {mA : Str → Option Value} {name : Str} {v : Value}





end

/-! ### the attributes as a list of pairs -/

theorem RelO.some_of {v : V} {o : Option Value} (r : RelO (some v) o) : ∃ u, o = some u ∧ RelV v u := by
  cases o with
  | none => exact (show False from r).elim
  | some u => exact ⟨u, rfl, r⟩

section
variable {P : Program} {w : World} {H H' : Hp} {h h' : Heap} {a C dx : Addr} {fs fs' : List (Str × V)}
end

/-! ### what of the text a class must have -/
structure Cls (K : PySem.W.Frag) (C : Addr) : Prop where
  pg : PySem.W.plainGet K C Str.empty = true
  hd : PySem.W.hasDictIn K C = true
  po : PySem.W.plainOver K C = true
  sa : PySem.W.findIn K (.ref C) "__setattr__" = some (some (.builtin "object.__setattr__"))
theorem Cls.get {K : PySem.W.Frag} {C : Addr} (c : Cls K C) (f : Str) : PySem.W.plainGet K C f = true := c.pg
/-- a constant of the class -/
structure Con (K : PySem.W.Frag) (C : Addr) (f : Str) (v : V) (u : Value) : Prop where
  at_ : PySem.W.findIn K (.ref C) f = some (some u)
  rel : RelV v u
  get : PySem.W.specialIn K u "__get__" = some none
  cp : PySem.W.copiedNames.contains f = false
/-- a method: a plain def of the class or of one above it -/
structure Meth (K : PySem.W.Frag) (C : Addr) (m : Str) (f : Addr) : Prop where
  at_ : PySem.W.findIn K (.ref C) m = some (some (.ref f))
  fn : PySem.W.isFn K (.ref f) = true
  kp : PySem.W.keepIn K (.ref f) = true

section
variable {X : Cx} {pins : List (Addr × Obj)} {σ : St} {H : Hp} {s : Shared} {a C dx : Addr} {fs : List (Str × V)} {f : Str} {v : V} {A : Around} {E : Value → Shared → Prop}





/-- a new instance, tracked, without attributes -/
theorem Inv.made (I : Inv X pins σ H s) : Inv X pins σ (upd (upd H s.heap.objs.size (.own (s.heap.objs.size + 1))) (s.heap.objs.size + 1) (.ins C s.heap.objs.size []))
    { s with heap := (s.heap.push PySem.W.emptyDict).push (PySem.W.instObj C s.heap.objs.size) } := by
  have e1 : (s.heap.push PySem.W.emptyDict).get? s.heap.objs.size = some PySem.W.emptyDict := Heap.get?_push_size s.heap rfl
  have e2 : ((s.heap.push PySem.W.emptyDict).push (PySem.W.instObj C s.heap.objs.size)).get? (s.heap.objs.size + 1) = some (PySem.W.instObj C s.heap.objs.size) := by
    have := Heap.get?_push_size (s.heap.push PySem.W.emptyDict) (o := PySem.W.instObj C s.heap.objs.size) rfl
    rwa [Heap.size_push] at this
  have e3 : (s.heap.push PySem.W.emptyDict).Ns s.heap.objs.size (fun _ => none) := ⟨PySem.W.emptyDict, #[], _, e1, rfl, (fun e he => absurd he (by simp)), fun _ => rfl⟩
  have I1 := I.laid (a := s.heap.objs.size) (o := .own (s.heap.objs.size + 1)) (h' := s.heap.push PySem.W.emptyDict) (t' := s.toks) (fun b u q => Heap.get?_push_of_some _ q) (Nat.le_refl _) ⟨_, e1⟩
  refine I1.laid (a := s.heap.objs.size + 1) (o := .ins C s.heap.objs.size []) (t' := s.toks) (fun b u q => Heap.get?_push_of_some _ q) (Nat.le_of_eq (Heap.size_push _ _)) ?_
  have ne : s.heap.objs.size ≠ s.heap.objs.size + 1 := Nat.ne_of_lt (Nat.lt_succ_self _)
  refine ⟨by rw [upd_ne ne, upd_same], Nat.zero_le _, ne, e2, fun _ => none, (Heap.Ns1.of_empty e3).at fun o q => Heap.get?_push_of_some _ q, fun _ => True.intro, fun y hy => absurd rfl hy⟩

end

/-! ### readings and rules -/

section
variable {X : Cx} {o e value : Expr} {f : Str} {pos pos' tpos : Pos} {ta tv : TE}

end

/-! ### isinstance -/
section
variable {X : Cx} {pins : List (Addr × Obj)} {σ : St} {H : Hp} {s : Shared} {A : Around} {E : Value → Shared → Prop} {Q : Value → Shared → Prop} {c : Value} {b : Bool}
/-- the type of a value, as the fragment's deciders take it; for an instance its class -/
inductive TyOf (K : PySem.W.Frag) (H : Hp) : V → Value → Prop where
  | non : TyOf K H .non (.type "NoneType")
  | bl (x : Bool) : TyOf K H (.bl x) (.type "bool")
  | int (i : Int) : TyOf K H (.int i) (.type "int")
  | str (x : Str) : TyOf K H (.str x) (.type "str")
  | flt (x : UInt64) : TyOf K H (.flt x) (.type "float")
  | lst {a : Addr} {xs : List V} (e : H a = some (.lst xs)) : TyOf K H (.ref a) (.type "list")
  | frz {a : Addr} {o : Obj} {xs : List V} (e : H a = some (.frz o (.lst xs))) : TyOf K H (.ref a) (.type "list")
  | tup {a : Addr} {xs : List V} (e : H a = some (.tup xs)) : TyOf K H (.ref a) (.type "tuple")
  | dK {a : Addr} {kvs : List (Key × V)} (e : H a = some (.dK kvs)) : TyOf K H (.ref a) (.type "dict")
  | dT {a : Addr} {kvs : List (List Key × V)} (e : H a = some (.dT kvs)) : TyOf K H (.ref a) (.type "dict")
  | ins {a C dx : Addr} {fs : List (Str × V)} (e : H a = some (.ins C dx fs)) (cl : Cls K C) (ha : PySem.W.findIn K (.ref C) "__class__" = some (some (.builtin "object.__class__")))
      (hn : PySem.W.specialIn K (.builtin "object.__class__") "__get__" = some (some (.builtin "getset_descriptor.__get__"))) (htk : PySem.W.takesIn K (.builtin "object.__class__") = some true)
      (hm : PySem.W.mroIn K C (.type "object") = some true) : TyOf K H (.ref a) (.ref C)
end
end L2

namespace L2
open PySem PySem.Spec PyProof.Rows

/-! ### room -/
structure Room (k : Nat) (A : Around) : Prop where
  hd : A.handled = none
  dp : A.depth + 3 * k + 5 < recursionLimit
  un : A.units + 16 * k + 200 < cLine
theorem Room.mono {j k : Nat} {A : Around} (r : Room k A) (h : j ≤ k) : Room j A := ⟨r.hd, by have := r.dp; omega, by have := r.un; omega⟩
theorem Room.deeper {k : Nat} {A : Around} (r : Room (k + 1) A) (env : Env) : Room k (A.deeper env) :=
  ⟨r.hd, by have := r.dp; show A.depth + 1 + 3 * k + 5 < _; omega, by have := r.un; show A.units + 3 + 16 * k + 200 < _; omega⟩
theorem Room.in1 {k : Nat} {A : Around} (r : Room (k + 1) A) : Room k A.in1 :=
  ⟨r.hd, by have := r.dp; show A.depth + 3 * k + 5 < _; omega, by have := r.un; show A.units + 1 + 16 * k + 200 < _; omega⟩
theorem make_depth {A : Around} {C : Addr} {us : List Value} {kw : List (Str × Value)} : (A.under (.builtin "type.__call__" ⟨.ref C :: us, kw⟩)).depth = A.depth + 1 := by
  first | rfl | simp [Around.under, Code.weight, Code.isCreation, Code.isGuard, Code.isCaller, Code.frames, Code.isFrame, guardIds]
theorem make_units {A : Around} {C : Addr} {us : List Value} {kw : List (Str × Value)} : (A.under (.builtin "type.__call__" ⟨.ref C :: us, kw⟩)).units = A.units + 1 := by
  first | rfl | simp [Around.under, Code.cUnits, Code.frames, Code.isFrame]
theorem Room.make {k : Nat} {A : Around} (r : Room (k + 1) A) (C : Addr) (us : List Value) (kw : List (Str × Value)) : Room k (A.under (.builtin "type.__call__" ⟨.ref C :: us, kw⟩)) :=
  ⟨r.hd, by have := r.dp; rw [make_depth]; omega, by have := r.un; rw [make_units]; omega⟩
theorem Room.depth {k : Nat} {A : Around} (r : Room k A) : A.depth < recursionLimit := by have := r.dp; omega
theorem Room.units {k : Nat} {A : Around} (r : Room k A) : A.units + 64 < cLine := by have := r.un; omega

/-! ### argument lists and displays -/
def tNil : TA := fun _ H Q => Q [] H
def tCons (ta : TE) (tr : TA) : TA := fun σ H Q => ta σ H fun x H1 => tr σ H1 fun xs H2 => Q (x :: xs) H2
section
variable {X : Cx} {e : Expr} {es : List Expr} {te : TE} {t : TA} {pos : Pos}
theorem pa_nil : PA X [] tNil := fun _ _ _ _ H Q I h => Calls.spliced_nil ⟨[], H, I, .nil, h⟩
theorem pa_cons (ha : PE X e te) (hr : PA X es t) (hs : starEach (e :: es) X.env = (false, eval e X.env) :: starEach es X.env := by rfl) : PA X (e :: es) (tCons te t) := by
  intro pos pins s σ H Q I h
  rw [hs]
  show wpAny _ _ (spliced ((false, eval e X.env) :: backTo pos (starEach es X.env))) _ _ s
  refine Calls.spliced_cons (thn (ha pins s σ H _ I h) fun u s1 ⟨x, H1, I1, r1, q1⟩ => ?_)
  exact thn (hr pos pins s1 σ H1 _ I1 q1) fun us s2 ⟨xs, H2, I2, r2, q2⟩ => ⟨x :: xs, H2, I2, .cons r1 r2, q2⟩

def tLst (t : TA) : TE := fun σ H Q => t σ H fun xs H1 => xs.length ≤ sizeLine ∧ ∀ p, H1 p = none → Q (.ref p) (upd H1 p (.lst xs))
theorem pe_lst (h : PA X es t) : PE X (.List es pos) (tLst t) := by
  intro pins s σ H Q I hq
  refine wpAny_List_spliced (thn (h pos pins s σ H _ I hq) fun us s1 ⟨xs, H1, I1, r, z, q⟩ => ⟨by rw [← r.length]; exact z, ?_⟩)
  have hf : H1 s1.heap.objs.size = none := I1.hok.fresh (Nat.le_refl _)
  refine ⟨.ref s1.heap.objs.size, upd H1 s1.heap.objs.size (.lst xs), I1.laid (t' := s1.toks) (fun b u e => Heap.get?_push_of_some _ e) (Nat.le_refl _) ?_, rfl, q _ hf⟩
  exact ⟨z, us, 0, r, Heap.get?_push_size _ rfl⟩
end

/-! ### what a def promises -/
/-- a def's promise: the bound arguments in the parameters' order, the heap, the wanted end, the wanted exception -/
abbrev Sp := List V → Hp → VK → XK → Prop
/-- how an exception lies behind a call (file 08 gives it): the callers' frames, abstract heap and state ahead of the call, the wish, the exception, the state -/
abbrev CXT := List Env → Hp → Shared → XK → Value → Shared → Prop

/-- the state at a call -/
structure Env0 (P : Program) (w : World) (K : PySem.W.Frag) (mg : Str → Option Value) (base : Heap) (A : Around) (outer : List Env) (s : Shared) (H : Hp) : Prop where
  frames : A.frames = some outer
  mod : Mod K mg base
  bs : ∀ b o, base.get? b = some o → s.heap.get? b = some o ∧ H b = none
  bsz : base.objs.size ≤ s.heap.objs.size
  funs : s.heap.FunFrames base outer
  frf : ∀ b ∈ frs outer, H b = none
  hok : HOk P w H s.heap
  bare : AllBare s.gens
/-- a call's end -/
def CE (outer : List Env) (P : Program) (w : World) (H : Hp) (s : Shared) (Q : VK) (u : Value) (s' : Shared) : Prop :=
  ∃ v H', s'.os = s.os ∧ AllBare s'.gens ∧ Un (frs outer) [] H H' s.heap s'.heap ∧ HOk P w H' s'.heap ∧ RelV v u ∧ Q v H'
def CR (CX : CXT) (outer : List Env) (P : Program) (w : World) (H : Hp) (s : Shared) (Q : VK) (E : XK) (r : Result) (s' : Shared) : Prop :=
  match r with
  | .ok (.ret u) => CE outer P w H s Q u s'
  | .ok _ => False
  | .error e => CX outer H s E e s'
structure FnOk (P : Program) (w : World) (K : PySem.W.Frag) (mg : Str → Option Value) (base : Heap) (CX : CXT) (k : Nat) (f : Addr) (fd : FuncData) (ps : List Str) (sp : Sp) : Prop where
  len : ∀ vs H Q E, sp vs H Q E → vs.length = ps.length
  run : ∀ (A : Around) (outer : List Env) (s : Shared) (H : Hp) (args : Args) (us : List Value) (vs : List V) (Q : VK) (E : XK), Room k A → Env0 P w K mg base A outer s H → BindsTo s fd args (ps.zip us) → Vals vs us → sp vs H Q E →
    codeAny (model P w) A (.call (.ref f) args) (CR CX outer P w H s Q E) s
theorem FnOk.mono {P : Program} {w : World} {K : PySem.W.Frag} {mg : Str → Option Value} {base : Heap} {CX : CXT} {j k : Nat} {f : Addr} {fd : FuncData} {ps : List Str} {sp : Sp} (F : FnOk P w K mg base CX j f fd ps sp) (h : j ≤ k) :
    FnOk P w K mg base CX k f fd ps sp := ⟨F.len, fun A outer s H args us vs Q E hr => F.run A outer s H args us vs Q E (hr.mono h)⟩
/-- a weaker promise -/
theorem FnOk.imp {P : Program} {w : World} {K : PySem.W.Frag} {mg : Str → Option Value} {base : Heap} {CX : CXT} {k : Nat} {f : Addr} {fd : FuncData} {ps : List Str} {sp sp' : Sp} (F : FnOk P w K mg base CX k f fd ps sp)
    (h : ∀ vs H Q E, sp' vs H Q E → sp vs H Q E) : FnOk P w K mg base CX k f fd ps sp' :=
  ⟨fun vs H Q E q => F.len vs H Q E (h _ _ _ _ q), fun A outer s H args us vs Q E hr he hb hv hs => F.run A outer s H args us vs Q E hr he hb hv (h _ _ _ _ hs)⟩

theorem Env0.make {P : Program} {w : World} {K : PySem.W.Frag} {mg : Str → Option Value} {base : Heap} {A : Around} {outer : List Env} {s : Shared} {H : Hp} (e : Env0 P w K mg base A outer s H) (C : Addr) (us : List Value) (kw : List (Str × Value)) :
    Env0 P w K mg base (A.under (.builtin "type.__call__" ⟨.ref C :: us, kw⟩)) outer s H := ⟨by first | exact e.frames | (simpa [Around.under, Code.envs, Code.isFrame, pushEnvs] using e.frames), e.mod, e.bs, e.bsz, e.funs, e.frf, e.hok, e.bare⟩
theorem Env0.in1 {P : Program} {w : World} {K : PySem.W.Frag} {mg : Str → Option Value} {base : Heap} {A : Around} {outer : List Env} {s : Shared} {H : Hp} (e : Env0 P w K mg base A outer s H) :
    Env0 P w K mg base A.in1 outer s H := ⟨e.frames, e.mod, e.bs, e.bsz, e.funs, e.frf, e.hok, e.bare⟩

section
variable {X : Cx} {pins : List (Addr × Obj)} {σ : St} {H : Hp} {s s' : Shared}
/-- from a body: what a callee wants -/
theorem Inv.env0 (I : Inv X pins σ H s) : Env0 X.prog X.w X.K X.mg X.base X.A X.stack s H :=
  ⟨I.ok.frames, I.ok.mod, I.bs, Nat.le_trans I.ok.bsz I.sz, I.stack, I.stkFree, I.hok, I.bare⟩
/-- behind a call -/
theorem Inv.after {Q : VK} {u : Value} (I : Inv X pins σ H s) (h : CE X.stack X.prog X.w H s Q u s') : EP X pins σ Q u s' := by
  obtain ⟨v, H', os, bare, un, hok, r, q⟩ := h
  obtain ⟨hh, g, d, t, os'⟩ := s'
  obtain rfl : os' = s.os := os
  exact ⟨v, H', I.call (h' := hh) (g' := g) (d' := d) (t' := t) (ch := []) un hok bare (fun b z => absurd z (by simp)), r, q⟩
end

/-! ### calls -/
/-- f(..): the written arguments, then the defaults dvs; E: what is wanted of an exception -/
def tCall (sp : Sp) (dvs : List V) (E : XK) (t : TA) : TE := fun σ H Q => t σ H fun vs H1 => sp (vs ++ dvs) H1 Q E

/-- how the parameters are bound: us the positional arguments, kw the keywords' values by name, ds the defaults that fill up -/
def Binds (K : PySem.W.Frag) (fd : FuncData) (ps : List Str) (ds : List Value) : Prop :=
  ∀ (s : Shared) (us : List Value), K.In s.heap → (us ++ ds).length = ps.length → BindsTo s fd ⟨us, []⟩ (ps.zip (us ++ ds))
/-- every parameter is given -/
theorem Binds.all {K : PySem.W.Frag} {fd : FuncData} {ps : List Str} (h : ∀ us : List Value, us.length = ps.length → bindArgs fd ⟨us, []⟩ = pure (ps.zip us)) : Binds K fd ps [] := fun s us _ hl => by
  rw [List.append_nil] at hl ⊢
  exact .of_eq (h us hl)

/-- an exception of a callee reaches what this body wants of exceptions -/
def Passes (CX : CXT) (X : Cx) (E : XK) : Prop := ∀ (pins : List (Addr × Obj)) (σ : St) (H : Hp) (s : Shared) (e : Value) (s' : Shared), Inv X pins σ H s → CX X.stack H s E e s' → X.xe e s'

section
variable {X : Cx} {CX : CXT} {k : Nat} {f C : Addr} {fd : FuncData} {ps : List Str} {sp : Sp} {dvs : List V} {ds : List Value} {E : XK} {x m : Str} {p pos apos : Pos} {e o : Expr} {es : List Expr} {ta : TE} {t : TA}

/-- the callee runs -/
theorem run_fn {pins : List (Addr × Obj)} {σ : St} {H : Hp} {s : Shared} {Q : VK} {us : List Value} {vs : List V} (F : FnOk X.prog X.w X.K X.mg X.base CX k f fd ps sp) (hr : Room k X.A) (hb : Binds X.K fd ps ds) (hd : Vals dvs ds) (hx : Passes CX X E)
    (I : Inv X pins σ H s) (r : Vals vs us) (h : sp (vs ++ dvs) H Q E) : wpAny (model X.prog X.w) X.A (call (.ref f) us) (EP X pins σ Q) X.xe s := by
  have r2 : Vals (vs ++ dvs) (us ++ ds) := r.append hd
  have hl : (us ++ ds).length = ps.length := by rw [← r2.length]; exact F.len _ _ _ _ h
  refine wpAny_call (codeAny_mono (F.run X.A X.stack s H ⟨us, []⟩ (us ++ ds) (vs ++ dvs) Q E hr I.env0 (hb s us I.kIn hl) r2 h) fun r s' hq => ?_)
  cases r with
  | error e => exact hx pins σ H s e s' I hq
  | ok fl =>
    cases fl with
    | ret u => exact I.after hq
    | next => exact False.elim hq
    | brk => exact False.elim hq
    | cont => exact False.elim hq

theorem pe_call (F : FnOk X.prog X.w X.K X.mg X.base CX k f fd ps sp) (hr : Room k X.A) (hg : Gl X x) (hm : X.mg x = some (.ref f)) (hk : PySem.W.keepIn X.K (.ref f) = true) (hb : Binds X.K fd ps ds) (hd : Vals dvs ds) (hx : Passes CX X E)
    (ha : PA X (e :: es) t) (hdb : (x == ("__debug__" : Str)) = false := by decide) (he : starEach (e :: es) X.env = (false, eval e X.env) :: starEach es X.env := by rfl) (hpl : (backTo pos (starEach es X.env)).any (·.1) = false := by rfl) :
    PE X (.Call (.Name x p) (e :: es) [] pos) (tCall sp dvs E t) := by
  intro pins s σ H Q I h
  refine wpAny_Call_Name_kw (ld_glob I hg hm ?_ hdb)
  refine PySem.W.callWith_K (h₀ := X.base) I.ok.mod.kin hk (thn (ha pos pins s σ H _ I h) fun us s1 ⟨vs, H1, I1, r, q⟩ => ⟨I1.kIn, ?_⟩) he hpl
  exact run_fn F hr hb hd hx I1 r q


/-- what a class must have to be made -/
structure Mk (K : PySem.W.Frag) (C f : Addr) : Prop where
  makes : PySem.W.makesIn K C = true
  init : PySem.W.findIn K (.ref C) "__init__" = some (some (.ref f))
  fn : PySem.W.isFn K (.ref f) = true
  kp : PySem.W.keepIn K (.ref C) = true

end

/-! ### keywords -/
/-- the values of the keywords, from the left -/
def PK (X : Cx) (kws : List Keyword) (t : TA) : Prop :=
  ∀ (pos : Pos) (pins : List (Addr × Obj)) (s : Shared) (σ : St) (H : Hp) (Q : List V → Hp → Prop), Inv X pins σ H s → t σ H Q → wpAny (model X.prog X.w) X.A (evalAll ((backToKw pos (keywordEach kws X.env)).map (·.2))) (AP X pins σ Q) X.xe s
section
variable {X : Cx} {CX : CXT} {k : Nat} {f C : Addr} {fd : FuncData} {ps ks : List Str} {sp : Sp} {E : XK} {x m : Str} {p pos apos kpos : Pos} {e o : Expr} {es : List Expr} {kws : List Keyword} {te ta : TE} {t tk : TA} {nm : Option Str}
theorem pk_nil : PK X [] tNil := fun _ _ _ _ H Q I h => wpAny_evalAll_nil ⟨[], H, I, .nil, h⟩
theorem pk_cons (ha : PE X e te) (hr : PK X kws t) : PK X (⟨nm, e, kpos⟩ :: kws) (tCons te t) := by
  intro pos pins s σ H Q I h
  show wpAny _ _ (evalAll ((do let v ← eval e X.env; standAt pos; pure v) :: (backToKw pos (keywordEach kws X.env)).map (·.2))) _ _ s
  refine wpAny_evalAll_cons (wpAny_bind (thn (ha pins s σ H _ I h) fun u s1 ⟨x, H1, I1, r1, q1⟩ => wpAny_bind (wpAny_standAt (wpAny_pure ?_))))
  exact thn (hr pos pins s1 σ H1 _ I1 q1) fun us s2 ⟨xs, H2, I2, r2, q2⟩ => ⟨x :: xs, H2, I2, .cons r1 r2, q2⟩

/-- how a call with keywords binds: g puts the positional values us and the keywords' values ws (names ks) in the parameters' order, defaults among them -/
structure KBinds (K : PySem.W.Frag) (fd : FuncData) (ps ks : List Str) (g : List Value → List Value → List Value) (gV : List V → List V → List V) : Prop where
  to : ∀ (s : Shared) (us ws : List Value), K.In s.heap → (g us ws).length = ps.length → BindsTo s fd ⟨us, ks.zip ws⟩ (ps.zip (g us ws))
  rel : ∀ {vs : List V} {us : List Value} {zs : List V} {ws : List Value}, Vals vs us → Vals zs ws → Vals (gV vs zs) (g us ws)
variable {g : List Value → List Value → List Value} {gV : List V → List V → List V}
end

/-! ### a def's body keeps its promise -/
/-- names: the parameters first -/
structure FnScope (N P : List Str) (sc : Scope) : Prop where
  kind : sc.kind = .function
  co : sc.isCoroutine = false
  gen : sc.isGenerator = false
  nd : N.Nodup
  pre : N.take P.length = P
  par : ∀ x ∈ P, sc.names.lookup x = some .local ∨ sc.names.lookup x = some .cell
  nofree : ∀ y ∈ sc.names, y.2 ≠ .free

theorem bindL_out {kindOf : Str → Option NameKind} {x : Str} : ∀ {binds : List (Str × Value)} {m : Str → Option Value}, (∀ v, (x, v) ∉ binds) → bindL kindOf binds m x = m x
  | [], _, _ => rfl
  | (n, v) :: r, m, h => by
    unfold bindL
    rw [bindL_out fun w hw => h w (List.mem_cons_of_mem _ hw)]
    split
    · have : x ≠ n := by rintro rfl; exact h v List.mem_cons_self
      simp [this]
    · rfl
theorem bindC_out {kindOf : Str → Option NameKind} {x : Str} : ∀ {binds : List (Str × Value)} {m : Str → Option Value}, (∀ v, (x, v) ∉ binds) → bindC kindOf binds m x = m x
  | [], _, _ => rfl
  | (n, v) :: r, m, h => by
    unfold bindC
    rw [bindC_out fun w hw => h w (List.mem_cons_of_mem _ hw)]
    split
    · rfl
    · have : x ≠ n := by rintro rfl; exact h v List.mem_cons_self
      simp [this]
theorem bindL_get {kindOf : Str → Option NameKind} {x : Str} {v : Value} : ∀ {P : List Str} {vs : List Value} {i : Nat} {m : Str → Option Value}, P.Nodup → P[i]? = some x → vs[i]? = some v → kindOf x = some .local →
    bindL kindOf (P.zip vs) m x = some v
  | [], _, _, _, _, h, _, _ => by simp at h
  | _ :: _, [], _, _, _, _, h, _ => by simp at h
  | p :: P, w :: vs, 0, m, nd, h1, h2, hk => by
    simp at h1 h2; subst h1; subst h2
    show bindL kindOf ((p, w) :: P.zip vs) m p = _
    unfold bindL
    rw [bindL_out fun v hv => (List.nodup_cons.mp nd).1 (List.of_mem_zip hv).1, if_pos hk]
    simp
  | p :: P, w :: vs, i + 1, m, nd, h1, h2, hk => by
    show bindL kindOf ((p, w) :: P.zip vs) m x = _
    unfold bindL
    exact bindL_get (i := i) (List.nodup_cons.mp nd).2 (by simpa using h1) (by simpa using h2) hk
theorem bindC_get {kindOf : Str → Option NameKind} {x : Str} {v : Value} : ∀ {P : List Str} {vs : List Value} {i : Nat} {m : Str → Option Value}, P.Nodup → P[i]? = some x → vs[i]? = some v → kindOf x ≠ some .local →
    bindC kindOf (P.zip vs) m x = some v
  | [], _, _, _, _, h, _, _ => by simp at h
  | _ :: _, [], _, _, _, _, h, _ => by simp at h
  | p :: P, w :: vs, 0, m, nd, h1, h2, hk => by
    simp at h1 h2; subst h1; subst h2
    show bindC kindOf ((p, w) :: P.zip vs) m p = _
    unfold bindC
    rw [bindC_out fun v hv => (List.nodup_cons.mp nd).1 (List.of_mem_zip hv).1, if_neg hk]
    simp
  | p :: P, w :: vs, i + 1, m, nd, h1, h2, hk => by
    show bindC kindOf ((p, w) :: P.zip vs) m x = _
    unfold bindC
    exact bindC_get (i := i) (List.nodup_cons.mp nd).2 (by simpa using h1) (by simpa using h2) hk

/-- the names' values at the entry -/
def start (N : List Str) (vs : List V) : St := vs.map some ++ List.replicate (N.length - vs.length) none

/-- the context of a def's body, at its entry; an exception leaves the frame, then lies as CX says -/
def cxOf (CX : CXT) (P : Program) (w : World) (K : PySem.W.Frag) (mg : Str → Option Value) (base : Heap) (N : List Str) (qual : Str) (scope : Scope) (f : Addr) (cd : Value) (A : Around) (outer : List Env) (s : Shared) (H : Hp) (E : XK) : Cx where
  prog := P
  w := w
  K := K
  mg := mg
  base := base
  A := A.deeper (envOfC qual scope s.heap.objs.size f cd)
  N := N
  s_0 := s
  H_0 := H
  env := envOfC qual scope s.heap.objs.size f cd
  outer := outer
  stack := envOfC qual scope s.heap.objs.size f cd :: outer
  ex := []
  calm := true
  fn := fun _ => true
  pn := []
  xe := fun e s' => wpAny (model P w) (A.deeper (envOfC qual scope s.heap.objs.size f cd)) (leaving (envOfC qual scope s.heap.objs.size f cd) e) (fun _ s'' => CX outer H s E e s'') (fun e' s'' => CX outer H s E e' s'') s'

theorem cell_has {sc : Scope} {n : Nat} {x : Str} (h : sc.names.lookup x = some .cell) : ∃ c, (cellsFrom n sc.names []).lookup x = some c := by
  have q := PySem.W.cellsFrom_some sc.names n [] (.inl h)
  exact Option.isSome_iff_exists.mp q

theorem inv_start {CX : CXT} {P : Program} {w : World} {K : PySem.W.Frag} {mg : Str → Option Value} {base : Heap} {N ps : List Str} {qual : Str} {scope : Scope} {f : Addr} {cd : Value} {A : Around} {outer : List Env} {s s1 : Shared} {H : Hp} {E : XK} {us : List Value} {vs : List V}
    (S : FnScope N ps scope) (hd : A.handled = none) (e0 : Env0 P w K mg base A outer s H) (hl : vs.length = ps.length) (r : Vals vs us)
    (x : InCallC s s.heap.objs.size (bindL (envOfC qual scope s.heap.objs.size f cd).kindOf (ps.zip us) fun _ => none) (cellsFrom (s.heap.objs.size + 1) scope.names []) (bindC (envOfC qual scope s.heap.objs.size f cd).kindOf (ps.zip us) fun _ => none) s1) :
    Inv (cxOf CX P w K mg base N qual scope f cd A outer s H E) [] (start N vs) H s1 := by
  have hpl : ps.length ≤ N.length := by have := congrArg List.length S.pre; rw [List.length_take] at this; omega
  obtain ⟨h1, tk, rfl, hk⟩ := x.done
  have noA : ∀ b : Addr, b ∉ (cxOf CX P w K mg base N qual scope f cd A outer s H E).ex := fun b z => absurd (show b ∈ ([] : List Addr) from z) (by simp)
  refine ⟨⟨e0.mod, S.kind, rfl, rfl, Nat.le_refl _, fun y z c h1 h2 => ?_, fun y hy => ?_, fun y c _ h => ?_, fun _ => hd, Around.frames_deeper e0.frames, .inr ⟨rfl, rfl⟩, fun b z => absurd z (noA b), e0.bs, e0.bsz, fun b _ _ => noA b, fun b z => absurd z (noA b), e0.funs, e0.frf⟩,
    rfl, e0.bare, Un.kept hk, ⟨_, x.toInCall.ns, fun i y v h1 h2 h3 => ?_⟩, fun y c h => ⟨_, x.cell y c h⟩, e0.hok.fresh (Nat.le_refl _), fun y c h => ?_, fun p hp => absurd (show p ∈ ([] : List (Addr × Obj)) from hp) (by simp), e0.hok.kept hk, ?_⟩
  · exact name_of_addr x.apart (PySem.mem_of_lookup h1) (PySem.mem_of_lookup h2)
  · have hy : scope.names.lookup y = some .cell ∨ scope.names.lookup y = some .free := hy
    rcases hy with hy | hy
    · exact cell_has hy
    · exact absurd rfl (S.nofree _ (PySem.mem_of_lookup hy))
  · exact Nat.le_of_lt (x.above y c (PySem.mem_of_lookup h))
  · have hi : i < vs.length := by
      unfold start at h2
      by_cases hi : i < vs.length
      · exact hi
      · rw [List.getElem?_append_right (by simpa using hi)] at h2
        rw [List.getElem?_replicate] at h2
        split at h2 <;> cases h2
    have ha : vs[i]? = some v := by
      unfold start at h2
      rw [List.getElem?_append_left (by simpa using hi), List.getElem?_map] at h2
      cases e : vs[i]? with
      | none => rw [e] at h2; cases h2
      | some a => rw [e] at h2; cases h2; rfl
    obtain ⟨u, hu, rv⟩ := r.get ha
    have hp : ps[i]? = some y := by
      rw [← S.pre, List.getElem?_take_of_lt (by omega)]; exact h1
    have ndP : ps.Nodup := by rw [← S.pre]; exact S.nd.sublist (List.take_sublist _ _)
    refine ⟨u, rv, ?_⟩
    rcases S.par y (List.mem_of_getElem? hp) with k | k
    · exact .inl ⟨k, bindL_get ndP hp hu k⟩
    · obtain ⟨c, e⟩ := cell_has (n := s.heap.objs.size + 1) k
      refine .inr ⟨.inl k, c, e, ?_⟩
      have q := x.cell y c e
      rw [bindC_get ndP hp hu (by show scope.names.lookup y ≠ _; rw [k]; decide)] at q
      exact q
  · exact e0.hok.fresh (Nat.le_of_lt (x.above y c (PySem.mem_of_lookup h)))
  · unfold start
    show _ = N.length
    rw [List.length_append, List.length_map, List.length_replicate]
    omega

/-- THE RULE: a def (or a method) of the text, by its body. The body's reading t is chosen for each entry; it is run at the parameters' values -/
theorem fn_of {CX : CXT} {P : Program} {w : World} {K : PySem.W.Frag} {mg : Str → Option Value} {base : Heap} {k : Nat} {f : Addr} {name qual : Str} {params : Arguments} {body : List Stmt} {scope : Scope} {dV kV doc pm cdv ct oc : Value} {an od : Option Addr}
    {osl : Array (Option Value)} {N ps : List Str} {sp : Sp} (lk : K.lookup f = some ⟨oc, od, .func (PySem.W.fnOf name qual params body scope dV kV doc pm an cdv ct), osl⟩) (hcd : PySem.W.codeIn K cdv qual = true) (S : FnScope N ps scope)
    (len : ∀ vs H Q E, sp vs H Q E → vs.length = ps.length)
    (hbody : ∀ (A : Around) (outer : List Env) (s : Shared) (H : Hp) (vs : List V) (Q : VK) (E : XK), Room k (A.deeper (envOfC qual scope s.heap.objs.size f cdv)) → sp vs H Q E →
      ∃ t, PSs (cxOf CX P w K mg base N qual scope f cdv A outer s H E) body t ∧ t { nx := fun _ H' => Q .non H', rt := Q } (start N vs) H) :
    FnOk P w K mg base CX (k + 1) f (PySem.W.fnOf name qual params body scope dV kV doc pm an cdv ct) ps sp := by
  refine ⟨len, fun A outer s H args us vs Q E hr e0 hb r hsp => ?_⟩
  have hl := len _ _ _ _ hsp
  have KX : K.In s.heap := e0.mod.kin.keeps fun b o e => (e0.bs b o e).1
  have lim : s.heap.NoLimit := e0.mod.nolimit.keeps fun b o e => (e0.bs b o e).1
  have hkind : ∀ y ∈ ps.zip us, scope.names.lookup y.1 = some .local ∨ (scope.names.lookup y.1 = some .cell ∧ ((cellsFrom (s.heap.objs.size + 1) scope.names []).lookup y.1).isSome = true) := fun ⟨n, v⟩ hy => by
    rcases S.par n (List.of_mem_zip hy).1 with q | q
    · exact .inl q
    · exact .inr ⟨q, PySem.W.cellsFrom_some _ _ _ (.inl q)⟩
  refine codeAny_call_function hr.depth (KX _ _ lk) rfl S.co S.gen rfl (PySem.W.codeRec_of KX hcd) (hb _ _ _ _ ?_)
  refine wpAny_newFunctionEnv_cells S.kind hkind fun env he s1 x => ?_
  subst he
  refine ⟨lim.keeps x.toInCall.keep, codeAny_func ?_⟩
  obtain ⟨t, ht, hq⟩ := hbody A outer s H vs Q E (hr.deeper _) hsp
  have I : Inv (cxOf CX P w K mg base N qual scope f cdv A outer s H E) [] (start N vs) H s1 := inv_start S hr.hd e0 hl r x
  refine wpAny_mono (ht [] s1 (start N vs) H _ I hq) (fun fl s' hs => ?_) fun e s' hs => hs
  have fin : ∀ {σ' : St} {H' : Hp} {v : V} {u : Value}, Inv (cxOf CX P w K mg base N qual scope f cdv A outer s H E) [] σ' H' s' → RelV v u → Q v H' → CE outer P w H s Q u s' :=
    fun {σ' H' v u} J rv q => ⟨v, H', J.os, J.bare, J.base, J.hok, rv, q⟩
  cases fl with
  | ret u =>
    obtain ⟨v, σ', H', J, rv, q⟩ := hs
    exact fin J rv q
  | next =>
    obtain ⟨σ', H', J, q⟩ := hs
    exact fin (v := V.non) (u := Value.none) J rfl q
  | brk =>
    obtain ⟨_, _, _, q⟩ := hs
    exact False.elim q
  | cont =>
    obtain ⟨_, _, _, q⟩ := hs
    exact False.elim q
end L2

namespace L2
open PySem PySem.Spec PyProof.Rows
section
variable {X : Cx} {x : Str} {p pos : Pos} {e : Expr} {es : List Expr} {t : TA} {id T : String} {r : List V → Hp → VK → Prop}

def tCB (r : List V → Hp → VK → Prop) (t : TA) : TE := fun σ H Q => t σ H fun vs H1 => r vs H1 Q
/-- f(e, ..), f a built-in function -/
theorem pe_callB (hc : CallR X (.builtin id) r) (hg : Gl X x) (hm : X.mg x = none) (hv : bootBuiltins x = some (.builtin id)) (ha : PA X (e :: es) t) (hn : x ≠ "__name__" := by decide) (hdb : (x == ("__debug__" : Str)) = false := by decide)
    (he : starEach (e :: es) X.env = (false, eval e X.env) :: starEach es X.env := by rfl) (hpl : (backTo pos (starEach es X.env)).any (·.1) = false := by rfl) : PE X (.Call (.Name x p) (e :: es) [] pos) (tCB r t) := by
  intro pins s σ H Q I h
  refine wpAny_Call_Name_kw (ld_blt I hg hm hv ?_ hn hdb)
  exact PyProof.Rows.callWith_builtin1 (thn (ha pos pins s σ H _ I h) fun us s1 ⟨vs, H1, I1, r1, q1⟩ => hc pins s1 σ H1 vs us Q I1 r1 q1) he hpl
end
end L2

namespace HT
open PySem PyProof.Rows



section
open PySem.SeqAt
open PySem.AutoSeq1 (wpAny_loadPart')
open PySem.MeetsSeq PySem.MeetsSeq2 PySem.MeetsSeq3

end

section
variable {prog : Program} {w : World} {A : Around} {E : Value → Shared → Prop} {s : Shared}



/-! ### t[a:b], not the whole -/

end
end HT

namespace L2
open PySem PySem.Spec PyProof.Rows

/-! ### the parts of a slice -/
abbrev TO := St → Hp → (Option Int → Hp → Prop) → Prop


section
variable {X : Cx} {e : Expr} {te : TE} {lo hi : Option Expr} {tl th : TO} {pos p2 : Pos}


/-- what a slice of a value is, by values: the slice object stands at sl -/
def SlR (X : Cx) (r : V → Option Int → Option Int → Hp → VK → Prop) : Prop :=
  ∀ (pins : List (Addr × Obj)) (s : Shared) (σ : St) (H : Hp) (x : V) (v vl vu : Value) (lo hi : Option Int) (sl : Addr) (Q : VK), Inv X pins σ H s → RelV x v → s.heap.IsSliceOf sl vl vu .none → IsPart vl lo → IsPart vu hi → r x lo hi H Q →
    ∃ T id, typeLookup (.type T) "__getitem__" = pure (some (.builtin id)) ∧ s.TypeIs v T ∧ wpAny (model X.prog X.w) X.A (getItem v (.ref sl)) (EP X pins σ Q) X.xe s
theorem SlR.or {r r' : V → Option Int → Option Int → Hp → VK → Prop} (h : SlR X r) (h' : SlR X r') : SlR X (fun x lo hi H Q => r x lo hi H Q ∨ r' x lo hi H Q) := by
  intro pins s σ H x v vl vu lo hi sl Q I rx hs pl pu q
  rcases q with q | q
  · exact h pins s σ H x v vl vu lo hi sl Q I rx hs pl pu q
  · exact h' pins s σ H x v vl vu lo hi sl Q I rx hs pl pu q


/-! ### t < u, t + u -/
end
end L2

namespace L2
open PySem PySem.Spec PyProof.Rows

/-! ### places -/
/-- the place that an index of any sign means -/
def ixN (n : Nat) (i : Int) : Option Nat := if 0 ≤ i then (if i < n then some i.toNat else none) else if -(n : Int) ≤ i then some (i + n).toNat else none
def atI {α : Type} (xs : List α) (i : Int) : Option α := (ixN xs.length i).bind fun j => xs[j]?
theorem ixN_seq {n : Nat} {i : Int} {j : Nat} (h : ixN n i = some j) : seqIndex? i n = some j ∧ j < n ∧ -(n : Int) ≤ i ∧ i < n := by
  unfold ixN at h
  by_cases h0 : 0 ≤ i
  · rw [if_pos h0] at h
    by_cases h1 : i < n
    · rw [if_pos h1] at h
      have e : i.toNat = j := Option.some.inj h
      exact ⟨by rw [seqIndex_of h0 h1, e], by omega, by omega, h1⟩
    · rw [if_neg h1] at h; cases h
  · rw [if_neg h0] at h
    by_cases h1 : -(n : Int) ≤ i
    · rw [if_pos h1] at h
      have e : (i + n).toNat = j := Option.some.inj h
      exact ⟨by rw [seqIndex_neg (by omega) h1, e], by omega, h1, by omega⟩
    · rw [if_neg h1] at h; cases h
theorem atI_get {α : Type} {xs : List α} {i : Int} {v : α} (h : atI xs i = some v) : ∃ j, seqIndex? i xs.length = some j ∧ xs[j]? = some v ∧ j < xs.length ∧ -(xs.length : Int) ≤ i ∧ i < xs.length := by
  unfold atI at h
  cases e : ixN xs.length i with
  | none => rw [e] at h; cases h
  | some j =>
    rw [e] at h
    obtain ⟨h1, h2, h3, h4⟩ := ixN_seq e
    exact ⟨j, h1, h, h2, h3, h4⟩
theorem atI_nat {α : Type} {xs : List α} {j : Nat} {v : α} (h : xs[j]? = some v) : atI xs (j : Int) = some v := by
  have hj : j < xs.length := (List.getElem?_eq_some_iff.mp h).1
  have e : ixN xs.length (j : Int) = some j := by
    unfold ixN
    rw [if_pos (by omega), if_pos (by omega)]; simp
  unfold atI; rw [e]; exact h

/-! ### what may be subscripted -/
/-- what stands as an index of a plain subscript -/
def PlainIx (b : Expr) : Prop := ∀ o i, subscripted b false o i = operate [o, i] (getItem o i)
/-- a subscript by values -/
def IxR (X : Cx) (r : R2) : Prop :=
  ∀ (value slice : Expr) (pins : List (Addr × Obj)) (s : Shared) (σ : St) (H : Hp) (x y : V) (v u : Value) (Q : VK), Inv X pins σ H s → RelV x v → RelV y u → r x y H Q →
    subscripted slice false v u = operate [v, u] (getItem v u) → wpAny (model X.prog X.w) X.A (subscriptTail value slice v u) (EP X pins σ Q) X.xe s
/-- a call of a builtin's method by values: the receiver, the arguments -/
def MtR (X : Cx) (id : String) (r : V → List V → Hp → VK → Prop) : Prop :=
  ∀ (pins : List (Addr × Obj)) (s : Shared) (σ : St) (H : Hp) (x : V) (xs : List V) (v : Value) (us : List Value) (Q : VK), Inv X pins σ H s → RelV x v → Vals xs us → r x xs H Q →
    wpAny (model X.prog X.w) X.A (call (.builtin id) (v :: us)) (EP X pins σ Q) X.xe s
section
variable {X : Cx} {a b : Expr} {ta tb : TE} {pos : Pos}
theorem IxR.or {r r' : R2} (h : IxR X r) (h' : IxR X r') : IxR X (fun x y H Q => r x y H Q ∨ r' x y H Q) := by
  intro value slice pins s σ H x y v u Q I rx ry q hs
  rcases q with q | q
  · exact h value slice pins s σ H x y v u Q I rx ry q hs
  · exact h' value slice pins s σ H x y v u Q I rx ry q hs
theorem MtR.or {id : String} {r r' : V → List V → Hp → VK → Prop} (h : MtR X id r) (h' : MtR X id r') : MtR X id (fun x xs H Q => r x xs H Q ∨ r' x xs H Q) := by
  intro pins s σ H x xs v us Q I rx rs q
  rcases q with q | q
  · exact h pins s σ H x xs v us Q I rx rs q
  · exact h' pins s σ H x xs v us Q I rx rs q
/-- a[b] -/
theorem pe_ix {r : R2} (hr : IxR X r) (ha : PE X a ta) (hb : PE X b tb) (hs : PlainIx b) : PE X (.Subscript a b pos) (tOp r ta tb) := by
  intro pins s σ H Q I h
  exact Subscript_ (binT ha hb I h fun v u s2 x y H2 I2 rx ry q => hr a b pins s2 σ H2 x y v u Q I2 rx ry q (hs _ _))

def rIxL (K : PySem.W.Frag) : R2 := fun x y H Q => ∃ p xs i v, x = .ref p ∧ y = .int i ∧ SqL K H p xs ∧ atI xs i = some v ∧ Q v H
theorem ix_list : IxR X (rIxL X.K) := by
  intro value slice pins s σ H x y v u Q I rx ry h hs
  obtain ⟨p, xs, i, z, rfl, rfl, hq, he, q⟩ := h
  cases rx
  obtain ⟨t, rfl⟩ := ry
  obtain ⟨its, r, pl, hz⟩ := I.list hq
  obtain ⟨j, h1, h2, h3, h4, h5⟩ := atI_get he
  obtain ⟨w, ew, rw'⟩ := r.get h2
  have hl := r.length
  have hn := line63
  have fin : EP X pins σ Q w s := ⟨z, H, I, rw', q⟩
  by_cases h0 : 0 ≤ i
  · have hj : i.toNat = j := by
      rw [seqIndex_of h0 h5] at h1
      exact Option.some.inj h1
    exact item_listR pl.isList h0 (by omega) (by rw [hj]; simpa using ew) fin hs
  · have hj : (i + (its.toArray.size : Int)).toNat = j := by
      rw [seqIndex_neg (by omega) h4] at h1
      rw [List.size_toArray, ← hl]
      exact Option.some.inj h1
    exact subscriptTail_builtinR (x := w) pl.isList.typeIs slot_list_getitem.lookup
      (wpAny_getItem_list_neg (Q := fun r s' => r = w ∧ EP X pins σ Q r s') pl.isList (by omega) (by rw [List.size_toArray] <;> omega) (by omega) (by rw [hj]; simpa using ew) ⟨rfl, fin⟩) hs

/-! ### xs[i] = v, any sign -/
theorem Inv.lst {pins : List (Addr × Obj)} {σ : St} {H : Hp} {s : Shared} {p : Addr} {xs : List V} (I : Inv X pins σ H s) (h : H p = some (.lst xs)) :
    ∃ (its : List Value) (n : Nat), Vals xs its ∧ s.heap.get? p = some { cls := .type "list", data := .seq its.toArray n } ∧ xs.length ≤ sizeLine := by
  obtain ⟨z, its, n, r, e⟩ := I.hok p _ h
  exact ⟨its, n, r, e, z⟩

/-! ### slices -/

/-! ### in, not in: flat items -/

/-! ### len, list(x), tuple(x) of any list or tuple that is read -/
theorem call_len_seq : CallR X (.builtin "len") (fun xs H Q => ∃ p ys, xs = [.ref p] ∧ (SqL X.K H p ys ∨ SqT X.K H p ys) ∧ Q (.int ys.length) H) := by
  intro pins s σ H xs us Q I r h
  obtain ⟨p, ys, rfl, hq, q⟩ := h
  obtain ⟨u, rfl, rx⟩ := vals1 r
  cases rx
  have hn := line63
  rcases hq with hq | hq
  · obtain ⟨its, r', pl, hz⟩ := I.list hq
    have hlen := r'.length
    exact Calls.call_len_list pl.isList (by simp only [List.size_toArray] <;> omega) ⟨.int ys.length, H, I.tok _, ⟨s.toks + 1, by rw [List.size_toArray, hlen]⟩, q⟩
  · obtain ⟨its, r', pl, hz⟩ := I.tuple hq
    have hlen := r'.length
    exact len_tuple pl (by simp only [List.size_toArray] <;> omega) ⟨.int ys.length, H, I.tok _, ⟨s.toks + 1, by rw [List.size_toArray, hlen]⟩, q⟩
theorem CallR.or {f : Value} {r r' : List V → Hp → VK → Prop} (h : CallR X f r) (h' : CallR X f r') : CallR X f (fun xs H Q => r xs H Q ∨ r' xs H Q) := by
  intro pins s σ H xs us Q I rs q
  rcases q with q | q
  · exact h pins s σ H xs us Q I rs q
  · exact h' pins s σ H xs us Q I rs q

/-! ### the call of a builtin's method: o.m(..) -/
/-- the value is of that builtin type -/
def tyV (K : PySem.W.Frag) (T : String) (x : V) (H : Hp) : Prop := match x with
  | .str _ => T = "str"
  | .int _ => T = "int"
  | .ref p => (T = "list" ∧ ∃ xs, SqL K H p xs) ∨ (T = "tuple" ∧ ∃ o, K.lookup p = some o ∧ o.cls = .type "tuple" ∧ o.dict = none) ∨
      (T = "dict" ∧ ((∃ kvs, H p = some (.dK kvs)) ∨ ∃ kvs, H p = some (.dT kvs))) ∨ (T = "set" ∧ ∃ S n, H p = some (.set S n))
  | _ => False
theorem tyV_is {pins : List (Addr × Obj)} {σ : St} {H : Hp} {s : Shared} {T : String} {x : V} {v : Value} (I : Inv X pins σ H s) (r : RelV x v) (ty : tyV X.K T x H) :
    s.TypeIs v T ∧ ∀ a, v = .ref a → ∃ ob, s.heap.get? a = some ob ∧ ob.dict = none := by
  cases x with
  | str z =>
    obtain ⟨t, rfl⟩ := r
    cases (show T = "str" from ty)
    exact ⟨typeIs_str s z t, fun _ e => nomatch e⟩
  | int i =>
    obtain ⟨t, rfl⟩ := r
    cases (show T = "int" from ty)
    exact ⟨typeIs_int s i t, fun _ e => nomatch e⟩
  | ref p =>
    cases r
    rcases ty with ⟨rfl, xs, hq⟩ | ⟨rfl, o, hk, hc, hd⟩ | ⟨rfl, hk⟩ | ⟨rfl, S, n, hk⟩
    · obtain ⟨its, _, pl, _⟩ := I.list hq
      refine ⟨pl.isList.typeIs, fun a e => ?_⟩
      cases e
      obtain ⟨o, n, e, c, hd, _⟩ := pl
      exact ⟨o, e, hd⟩
    · refine ⟨⟨o, I.kIn p o hk, hc⟩, fun a e => ?_⟩
      cases e
      exact ⟨o, I.kIn _ o hk, hd⟩
    · have z : ∃ o, s.heap.get? p = some o ∧ o.ExactDict := by
        rcases hk with ⟨kvs, hk⟩ | ⟨kvs, hk⟩
        · obtain ⟨_, _, _, _, o, _, _, e, ex, _⟩ := I.hok p _ hk
          exact ⟨o, e, ex⟩
        · obtain ⟨_, _, _, _, o, _, _, e, ex, _⟩ := I.hok p _ hk
          exact ⟨o, e, ex⟩
      obtain ⟨o, e, ex⟩ := z
      refine ⟨⟨o, e, ex.1⟩, fun a e2 => ?_⟩
      cases e2
      exact ⟨o, e, ex.2.1⟩
    · obtain ⟨o, _, _, _, e, ex, _⟩ := I.hok p _ hk
      refine ⟨⟨o, e, ex.1⟩, fun a e2 => ?_⟩
      cases e2
      exact ⟨o, e, ex.2.1⟩
  | _ => exact False.elim ty
def tBM (K : PySem.W.Frag) (T : String) (r : V → List V → Hp → VK → Prop) (to : TE) (t : TA) : TE := fun σ H Q => to σ H fun x H1 => tyV K T x H1 ∧ t σ H1 fun xs H2 => r x xs H2 Q
variable {o e : Expr} {es : List Expr} {to : TE} {t : TA} {name : Str} {apos cpos : Pos} {T id : String} {r : V → List V → Hp → VK → Prop}
theorem pe_bm (pa : PlainAttrs T) (slot : Slot T name id) (hty : typeOf (.builtin id) = pure (.type "method_descriptor")) (hm : MtR X id r) (ho : PE X o to) (ha : PA X (e :: es) t)
    (hbase : attributeBase o name X.env (eval o X.env) = eval o X.env := by rfl)
    (hfew : ((backTo cpos (starEach (e :: es) X.env)).all (fun x => !x.1) && (backToKw cpos (keywordEach [] X.env)).all (fun x => x.1.isSome)
      && decide ((e :: es).length + ([] : List Keyword).length + (if ([] : List Keyword).isEmpty then 0 else 1) < 30)) = true := by rfl)
    (hline : (apos.endLine == cpos.line) = true := by rfl) (hs : starEach (e :: es) X.env = (false, eval e X.env) :: starEach es X.env := by rfl) (hplain : (backTo cpos (starEach es X.env)).any (·.1) = false := by rfl) :
    PE X (.Call (.Attribute o name apos) (e :: es) [] cpos) (tBM X.K T r to t) := by
  intro pins s σ H Q I h
  refine wpAny_Call_method_late hbase hfew hline rfl (thn (ho pins s σ H _ I h) fun v s1 ⟨x, H1, I1, r1, ty, q1⟩ => ?_)
  obtain ⟨h1, h2⟩ := tyV_is I1 r1 ty
  refine ⟨T, id, pa, slot, hty, h1, h2, ?_⟩
  have hA := ha cpos pins s1 σ H1 _ I1 q1
  rw [hs] at hA ⊢
  refine Calls.callWith_builtin (by show (false || (backTo cpos (starEach es X.env)).any (·.1)) = false; rw [hplain] <;> rfl) (Calls.evalArgs_plain ?_)
  exact thn hA fun us s2 ⟨vs, H2, I2, r2, q2⟩ => hm pins s2 σ H2 x vs v us Q I2 r1 r2 q2
/- xs.append(e), list.index on a module's tuple .. are MtR facts of 06m -/
end
end L2

namespace L2
open PySem PySem.Spec PyProof.Rows

def MtM (X : Cx) (id : String) (r : V → List V → Hp → VK → Prop) : Prop :=
  ∀ (pins : List (Addr × Obj)) (s : Shared) (σ : St) (H : Hp) (x : V) (xs : List V) (v : Value) (us : List Value) (Q : VK), Inv X pins σ H s → RelV x v → Vals xs us → r x xs H Q →
    wpAny (model X.prog X.w) X.A (call (.builtin id) (v :: us)) (EP X pins σ Q) X.xe s

/-! ### lists of values -/
theorem Vals.one : ∀ {x : V} {us : List Value}, Vals [x] us → ∃ u, us = [u] ∧ RelV x u
  | _, _, .cons r .nil => ⟨_, rfl, r⟩
theorem Vals.two : ∀ {x y : V} {us : List Value}, Vals [x, y] us → ∃ u v, us = [u, v] ∧ RelV x u ∧ RelV y v
  | _, _, _, .cons r (.cons q .nil) => ⟨_, _, rfl, r, q⟩
theorem Vals.zero : ∀ {us : List Value}, Vals [] us → us = []
  | _, .nil => rfl
theorem Vals.reverse {xs : List V} {us : List Value} (h : Vals xs us) : Vals xs.reverse us.reverse := by
  induction h with
  | nil => exact .nil
  | cons r t ih => rw [List.reverse_cons, List.reverse_cons]; exact Vals.append ih (.cons r .nil)

section
variable {X : Cx} {pins : List (Addr × Obj)} {σ : St} {H : Hp} {s : Shared} {l b : Addr} {xs ys zs : List V}

/-! ### the two steps: a tracked list is rewritten, a new list is laid -/
theorem Inv.lset {its its' : List Value} {n : Nat} {f : Array Value → Array Value} {t' : Nat} (I : Inv X pins σ H s) (hH : H l = some (.lst xs))
    (e : s.heap.get? l = some { cls := .type "list", data := .seq its.toArray n }) (hf : f its.toArray = its'.toArray) (hv : Vals ys its') (hz : ys.length ≤ sizeLine) :
    Inv X pins σ (upd H l (.lst ys)) { s with heap := s.heap.update l (Obj.mapSeq f), toks := t' } := by
  have q := PySem.IsL.update e f
  rw [hf] at q
  refine I.write (x := l) (e := l) (by rw [hH]; exact trivial) (.inl rfl) (fun b' u hb hu => (Heap.get?_update_other s.heap (Obj.mapSeq f) (Ne.symm hb)).trans hu) ⟨_, q⟩ ?_
  exact ⟨hz, its', _, hv, q⟩
theorem Inv.lnew {its : List Value} {t' : Nat} (I : Inv X pins σ H s) (hv : Vals ys its) (hz : ys.length ≤ sizeLine) :
    Inv X pins σ (upd H s.heap.objs.size (.lst ys)) { s with heap := s.heap.push { cls := .type "list", data := .seq its.toArray }, toks := t' } :=
  I.laid (fun _ _ q => Heap.get?_push_of_some _ q) (Nat.le_refl _) ⟨hz, its, 0, hv, Heap.get?_push_size _ rfl⟩
theorem Inv.fresh (I : Inv X pins σ H s) : H s.heap.objs.size = none := I.hok.fresh (Nat.le_refl _)
theorem Inv.lstM (I : Inv X pins σ H s) (hH : H l = some (.lst xs)) : xs.length ≤ sizeLine ∧ ∃ (its : List Value) (n : Nat), Vals xs its ∧ xs.length = its.length ∧ s.heap.get? l = some { cls := .type "list", data := .seq its.toArray n } := by
  obtain ⟨z, its, n, r, e⟩ := I.hok l _ hH
  exact ⟨z, its, n, r, r.length, e⟩

theorem notLongL {n : Nat} (h : n ≤ sizeLine) : Builtin.List.listTooLong n = false := by
  unfold Builtin.List.listTooLong
  exact decide_eq_false (by omega)
end

section
variable {X : Cx}

/-! ### methods -/
def rAppend : V → List V → Hp → VK → Prop := fun x vs H Q => ∃ l xs y, x = .ref l ∧ vs = [y] ∧ H l = some (.lst xs) ∧ xs.length < sizeLine ∧ Q .non (upd H l (.lst (xs ++ [y])))
theorem mt_append : MtM X "list.append" rAppend := by
  intro pins s σ H x vs v us Q I rx rv h
  obtain ⟨l, xs, y, rfl, rfl, hH, hz, q⟩ := h
  cases rx
  obtain ⟨u, rfl, ru⟩ := rv.one
  obtain ⟨z, its, n, r, hl, e⟩ := I.lstM hH
  refine call_meets F.slot_list_append ⟨_, e, rfl⟩ F.entry_list_append (F.args_list_append_2 _ _) (PySem.list_append l its.toArray n u (by rw [List.size_toArray]; omega)) ⟨e, ?_⟩
  refine ⟨.non, _, I.lset (its' := its ++ [u]) hH e (by simp) (r.append (.cons ru .nil)) ?_, rfl, q⟩
  rw [List.length_append, List.length_singleton]
  omega

def rExtend : V → List V → Hp → VK → Prop := fun x vs H Q => ∃ l b xs zs, x = .ref l ∧ vs = [.ref b] ∧ H l = some (.lst xs) ∧ H b = some (.lst zs) ∧ xs.length + zs.length ≤ sizeLine ∧ Q .non (upd H l (.lst (xs ++ zs)))
theorem mt_extend : MtM X "list.extend" rExtend := by
  intro pins s σ H x vs v us Q I rx rv h
  obtain ⟨l, b, xs, zs, rfl, rfl, hH, hB, hz, q⟩ := h
  cases rx
  obtain ⟨u, rfl, ru⟩ := rv.one
  cases ru
  obtain ⟨z, its, n, r, hl, e⟩ := I.lstM hH
  obtain ⟨z2, its2, n2, r2, hl2, e2⟩ := I.lstM hB
  have hsz : its.toArray.size + its2.toArray.size ≤ sizeLine := by rw [List.size_toArray, List.size_toArray]; omega
  have hlong : ¬ (!its.toArray.isEmpty && Builtin.List.listTooLong (its.toArray.size + its2.toArray.size)) = true := by
    rw [notLongL hsz, Bool.and_false]
    exact Bool.false_ne_true
  refine call_meets F.slot_list_extend ⟨_, e, rfl⟩ F.entry_list_extend (F.args_list_extend_2 _ _)
    (AutoSeq1.list_extend_list_list_0 l its.toArray n b its2.toArray n2 hlong (by rw [List.size_toArray]; omega) (by omega)) ⟨e, e2, ?_⟩
  refine ⟨.non, _, I.lset (its' := its ++ its2) hH e (by simp) (r.append r2) ?_, rfl, q⟩
  rw [List.length_append]
  omega





/-! ### list + list, list += list, list * int -/
def rCat : R2 := fun x y H Q => ∃ l b xs zs, x = .ref l ∧ y = .ref b ∧ H l = some (.lst xs) ∧ H b = some (.lst zs) ∧ xs.length + zs.length ≤ sizeLine ∧ ∀ p, H p = none → Q (.ref p) (upd H p (.lst (xs ++ zs)))
theorem op_cat : OpR X (binaryOp .Add) rCat := by
  intro pins s σ H x y v u Q I rx ry h
  obtain ⟨l, b, xs, zs, rfl, rfl, hH, hB, hz, q⟩ := h
  cases rx
  cases ry
  obtain ⟨z, its, n, r, hl, e⟩ := I.lstM hH
  obtain ⟨z2, its2, n2, r2, hl2, e2⟩ := I.lstM hB
  refine PySem.P.add_list e e2 ?_ (by rw [List.size_toArray, List.size_toArray]; omega)
  have ea : its.toArray ++ its2.toArray = (its ++ its2).toArray := by simp
  rw [ea]
  exact ⟨.ref _, _, I.lnew (t' := s.toks) (r.append r2) (by rw [List.length_append]; omega), rfl, q _ I.fresh⟩

/-! ### del xs[i] -/
end

/-! ### xs[a:b] = ys -/
section
variable {prog : Program} {w : World} {A : Around} {E : Value → Shared → Prop} {s : Shared}
end

section
variable {X : Cx}
end
end L2

namespace L2
open PySem PySem.Spec PyProof.Rows

theorem Vals.ints : ∀ {ns : List Int} {us : List Value}, Vals (ns.map V.int) us → IntsAre us ns
  | [], us, h => by
    rw [List.map_nil] at h
    cases h
    exact IntsAre.nil
  | n :: ns, us, h => by
    rw [List.map_cons] at h
    cases h with
    | cons r t =>
      obtain ⟨k, rfl⟩ := r
      exact IntsAre.cons n k (Vals.ints t)
theorem vals_of_ints : ∀ {us : List Value} {ns : List Int}, IntsAre us ns → Vals (ns.map V.int) us
  | _, _, .nil => by rw [List.map_nil]; exact Paired.nil
  | _, _, .cons n t h => by rw [List.map_cons]; exact Paired.cons (show RelV (V.int n) (Value.int n t) from ⟨t, rfl⟩) (vals_of_ints h)
theorem Vals.strs : ∀ {xs : List Str} {us : List Value}, Vals (xs.map V.str) us → StrsAre us xs
  | [], us, h => by
    rw [List.map_nil] at h
    cases h
    exact StrsAre.nil
  | x :: xs, us, h => by
    rw [List.map_cons] at h
    cases h with
    | cons r t =>
      obtain ⟨k, rfl⟩ := r
      exact StrsAre.cons x k (Vals.strs t)
theorem Vals.bls : ∀ {bs : List Bool} {us : List Value}, Vals (bs.map V.bl) us → us = bs.map Value.bool
  | [], us, h => by
    rw [List.map_nil] at h
    cases h
    rfl
  | b :: bs, us, h => by
    rw [List.map_cons] at h
    cases h with
    | cons r t =>
      cases r
      rw [Vals.bls t, List.map_cons]
theorem Vals.ref1 {a : Addr} {us : List Value} (r : Vals [V.ref a] us) : us = [Value.ref a] := by
  cases r with
  | cons r t =>
    cases t
    cases r
    rfl

/-! ### the library's walks over a list of ints, kept objects alone -/
section
variable {prog : Program} {w : World} {A : Around} {E : Value → Shared → Prop} {s : Shared} {l : Addr} {its : List Value} {ns : List Int} {Q : Value → Shared → Prop}
end

/-! ### the calls, by values (CallR of 03t; MtR of 06l) -/
section
variable {X : Cx}

/-! sorted, sort (fewer than 64 items: the library's own bound) -/
end

/-! ### list.index, flat items -/
section
variable {X : Cx}
end

/-! ### type(x) of an own instance; is, is not of a module's class -/
section
variable {X : Cx}
end

/-! ### any(xs), all(xs) of a list of bools -/
theorem iter_any {prog : Program} {w : World} {A : Around} {E : Value → Shared → Prop} {s : Shared} {l : Addr} {items : Array Value} {Q : Value → Shared → Prop} (hl : s.heap.IsList l items)
    (h : ∀ s₂ : Shared, s₂ = { s with heap := s.heap.push { cls := .type "list_iterator", data := .fields #[.ref l, .int 0 0] } } →
      (s₂.heap.IsListIter s.heap.objs.size l 0 ∧ s₂.heap.IsList l items) → l ≠ s.heap.objs.size → Q (.ref s.heap.objs.size) s₂) : wpAny (model prog w) A (pyIter (.ref l)) Q E s := by
  have hlt : l < s.heap.objs.size := by obtain ⟨_, e, _⟩ := hl; exact Heap.lt_size e
  exact wpAny_pyIter_list hl (h _ rfl ⟨⟨_, Heap.get?_push_size _ rfl, rfl, rfl⟩, hl.push _⟩ (Nat.ne_of_lt hlt))
theorem truth_bools {prog : Program} {w : World} {A : Around} {bs : List Bool} {its : List Value} (e : its = bs.map Value.bool) :
    TruthOf prog w A (fun i v => its.toArray[i]? = some v) (fun i => bs.getD i false) := fun i v s Q E hv hq => by
  have hv' : its[i]? = some v := by simpa using hv
  rw [e, List.getElem?_map] at hv'
  obtain ⟨b, hb, rfl⟩ := Option.map_eq_some_iff.mp hv'
  have hg : bs.getD i false = b := by rw [List.getD_eq_getElem?_getD, hb] <;> rfl
  have hq' : Q (bs.getD i false) s := hq
  rw [hg] at hq'
  exact wpAny_truthy_bool hq'
theorem all_range : ∀ bs : List Bool, (List.range bs.length).all (fun i => bs.getD i false) = bs.all id
  | [] => rfl
  | b :: bs => by
    rw [List.length_cons, List.range_succ_eq_map, List.all_cons, List.all_map, List.all_cons, ← all_range bs]
    all_goals rfl
section
variable {X : Cx}
def rAll (K : PySem.W.Frag) : List V → Hp → VK → Prop := fun vs H Q => ∃ (a : Addr) (bs : List Bool), vs = [V.ref a] ∧ SqL K H a (bs.map V.bl) ∧ Q (.bl (bs.all id)) H
theorem cr_all (hc : X.calm = true) : CallR X (.builtin "all") (rAll X.K) := by
  intro pins s σ H vs us Q I r h
  obtain ⟨a, bs, rfl, hs, q⟩ := h
  obtain ⟨its, rv, hl, _⟩ := I.list hs
  rw [Vals.ref1 r]
  have hb := rv.bls
  refine call_all_walk (iter_any hl.isList fun s₂ e2 st hne => ?_)
  subst e2
  refine ⟨_, _, _, _, _, _, _, rfl, Walks.list (A := X.A.in1) (I.ok.hd hc) _ a hne its.toArray, st, truth_bools hb, fun h' tk hk => ?_⟩
  refine ⟨.bl _, H, I.kept fun b o eo => hk b o (fun hmem => ?_) (Heap.get?_push_of_some _ eo), ?_, q⟩
  · rcases List.mem_cons.mp hmem with e1 | hmem
    · exact absurd (e1 ▸ Heap.lt_size eo) (Nat.lt_irrefl _)
    · cases hmem
  · show Value.bool _ = Value.bool _
    rw [← all_range, hb, List.size_toArray, List.length_map]
end

/-! ### == and != of data at any depth: none, bools, ints, texts, lists, tuples -/
mutual
inductive Dp (K : PySem.W.Frag) (H : Hp) : V → PyData → Prop
  | non : Dp K H .non .none
  | bl (b : Bool) : Dp K H (.bl b) (.bool b)
  | int (i : Int) : Dp K H (.int i) (.int i)
  | str (x : Str) : Dp K H (.str x) (.str x)
  | lst {a : Addr} {xs : List V} {ds : List PyData} : SqL K H a xs → DpAll K H xs ds → Dp K H (.ref a) (.list ds)
  | tup {a : Addr} {xs : List V} {ds : List PyData} : SqT K H a xs → DpAll K H xs ds → Dp K H (.ref a) (.tuple ds)
inductive DpAll (K : PySem.W.Frag) (H : Hp) : List V → List PyData → Prop
  | nil : DpAll K H [] []
  | cons {v : V} {vs : List V} {d : PyData} {ds : List PyData} : Dp K H v d → DpAll K H vs ds → DpAll K H (v :: vs) (d :: ds)
end
section
variable {X : Cx} {pins : List (Addr × Obj)} {σ : St} {H : Hp} {s : Shared}
mutual
theorem Dp.reads (I : Inv X pins σ H s) : ∀ (d : PyData) (v : V) (u : Value), Dp X.K H v d → RelV v u → ∃ as, Reads s.heap u d as
  | .none, _, _, h, r => by
    cases h
    cases r
    exact ⟨_, Reads.none⟩
  | .bool b, _, _, h, r => by
    cases h
    cases r
    exact ⟨_, Reads.bool b⟩
  | .int i, _, _, h, r => by
    cases h
    obtain ⟨t, rfl⟩ := r
    exact ⟨_, Reads.int i t⟩
  | .str x, _, _, h, r => by
    cases h
    obtain ⟨t, rfl⟩ := r
    exact ⟨_, Reads.str x t⟩
  | .list ds, _, _, h, r => by
    cases h with
    | lst hs ha =>
      cases r
      obtain ⟨its, rv, ⟨o, n, ho, hc, _, hd⟩, _⟩ := I.list hs
      obtain ⟨as, hr⟩ := Dp.readsAll I ds _ its ha rv
      exact ⟨_, Reads.list ho hc hd hr⟩
  | .tuple ds, _, _, h, r => by
    cases h with
    | tup hs ha =>
      cases r
      obtain ⟨its, rv, ⟨o, ho, hc, n, hd⟩, _⟩ := I.tuple hs
      obtain ⟨as, hr⟩ := Dp.readsAll I ds _ its ha rv
      exact ⟨_, Reads.tuple ho hc hd hr⟩
  | .dict _, _, _, h, _ => by cases h
theorem Dp.readsAll (I : Inv X pins σ H s) : ∀ (ds : List PyData) (vs : List V) (us : List Value), DpAll X.K H vs ds → Vals vs us → ∃ as, ReadsAll s.heap us ds as
  | [], _, _, h, r => by
    cases h
    cases r
    exact ⟨_, ReadsAll.nil⟩
  | d :: ds, _, _, h, r => by
    cases h with
    | cons h1 h2 =>
      cases r with
      | cons r1 r2 =>
        obtain ⟨as, q1⟩ := Dp.reads I d _ _ h1 r1
        obtain ⟨bs, q2⟩ := Dp.readsAll I ds _ _ h2 r2
        exact ⟨_, ReadsAll.cons q1 q2⟩
end
end
section
variable {X : Cx}
end
end L2

namespace L2
open PySem PySem.Spec PyProof.Rows
abbrev CellAt (h : Heap) (c : Addr) (v : Option Value) : Prop := h.IsCell c v
def relS (scope sc : Scope) : Scope :=
  { scope with names := scope.names.map fun (n, k) => if (k == .free && sc.kind == .function && sc.names.lookup n == some .cell) then (n, .cell) else (n, k) }

def cloFrom (cells : List (Str × Addr)) : List (Str × NameKind) → List (Str × Addr) → List (Str × Addr)
  | [], acc => acc
  | (n, k) :: r, acc => if k == .free then cloFrom cells r ((n, (cells.lookup n).getD 0) :: acc) else cloFrom cells r acc

theorem closure_loop (env : Env) (f : Str × NameKind → List (Str × Addr) → Sem (ForInStep (List (Str × Addr))))
    (hf : ∀ n k c, f (n, k) c = if k == .free then (do let a ← cellOf env n; pure (.yield ((n, a) :: c))) else pure (.yield c)) :
    ∀ (names : List (Str × NameKind)) (acc : List (Str × Addr)), (∀ y ∈ names, y.2 = .free → ∃ c, env.cells.lookup y.1 = some c) → forIn names acc f = pure (cloFrom env.cells names acc)
  | [], acc, _ => by rw [List.forIn_nil]; rfl
  | (n, k) :: r, acc, h => by
    rw [List.forIn_cons, hf]
    have ih := fun acc => closure_loop env f hf r acc fun y hy => h y (List.mem_cons_of_mem _ hy)
    unfold cloFrom
    by_cases hk : (k == NameKind.free) = true
    · rw [if_pos hk, if_pos hk]
      obtain ⟨c, hc⟩ := h (n, k) List.mem_cons_self (by simpa using hk)
      have e : cellOf env n = pure c := by unfold cellOf; rw [hc]
      rw [e]
      have e2 : (env.cells.lookup n).getD 0 = c := by rw [hc]; rfl
      rw [e2]
      exact ih _
    · rw [if_neg hk, if_neg hk]
      exact ih _
theorem closure_ok {scope : Scope} {env : Env} (h : ∀ y ∈ scope.names, y.2 = .free → ∃ c, env.cells.lookup y.1 = some c) : closureFor scope env = pure (cloFrom env.cells scope.names []) := by
  simp only [closureFor]
  rw [closure_loop env _ (fun n k c => rfl) scope.names [] h]
  rfl

theorem mem_lookup {α : Type} : ∀ {l : List (Str × α)} {n : Str} {c : α}, (n, c) ∈ l → ∃ c', l.lookup n = some c'
  | (k, v) :: r, n, c, h => by
    rw [List.lookup_cons]
    cases hb : n == k with
    | true => exact ⟨_, rfl⟩
    | false =>
      rcases List.mem_cons.mp h with e | h
      · cases e; simp at hb
      · exact mem_lookup h

theorem cloFrom_mem {cells : List (Str × Addr)} : ∀ {names : List (Str × NameKind)} {acc : List (Str × Addr)} {n : Str} {c : Addr}, (n, c) ∈ cloFrom cells names acc → (n, c) ∈ acc ∨ ((n, .free) ∈ names ∧ c = (cells.lookup n).getD 0)
  | [], _, _, _, h => .inl h
  | (m, k) :: r, acc, n, c, h => by
    unfold cloFrom at h
    split at h
    · rename_i hk
      have hk : k = .free := by simpa using hk
      rcases cloFrom_mem h with h | ⟨h1, h2⟩
      · rcases List.mem_cons.mp h with e | h
        · cases e; exact .inr ⟨hk ▸ List.mem_cons_self, rfl⟩
        · exact .inl h
      · exact .inr ⟨List.mem_cons_of_mem _ h1, h2⟩
    · rcases cloFrom_mem h with h | ⟨h1, h2⟩
      · exact .inl h
      · exact .inr ⟨List.mem_cons_of_mem _ h1, h2⟩
theorem cloFrom_acc {cells : List (Str × Addr)} : ∀ {names : List (Str × NameKind)} {acc : List (Str × Addr)} {p : Str × Addr}, p ∈ acc → p ∈ cloFrom cells names acc
  | [], _, _, h => h
  | (m, k) :: r, acc, p, h => by
    unfold cloFrom
    split
    · exact cloFrom_acc (List.mem_cons_of_mem _ h)
    · exact cloFrom_acc h
theorem cloFrom_has {cells : List (Str × Addr)} : ∀ {names : List (Str × NameKind)} {acc : List (Str × Addr)} {n : Str}, (n, .free) ∈ names → (n, (cells.lookup n).getD 0) ∈ cloFrom cells names acc
  | (m, k) :: r, acc, n, h => by
    unfold cloFrom
    rcases List.mem_cons.mp h with e | h
    · cases e
      exact cloFrom_acc List.mem_cons_self
    · split
      · exact cloFrom_has h
      · exact cloFrom_has h

theorem cells_mem : ∀ {names : List (Str × NameKind)} {h : Heap} {acc : List (Str × Addr)} {x : Str} {c : Addr}, (x, c) ∈ cellsFrom h.objs.size names acc →
    (x, c) ∈ acc ∨ ((x, .cell) ∈ names ∧ h.objs.size ≤ c ∧ CellAt (pushCells h names) c none)
  | [], _, _, _, _, h => .inl h
  | (n, k) :: r, h, acc, x, c, hm => by
    unfold cellsFrom at hm
    unfold pushCells
    split at hm
    · rename_i hk
      rw [if_pos hk]
      have hk : k = .cell := by simpa using hk
      rw [← Heap.size_push h { cls := .type "cell", data := .cell none }] at hm
      rcases cells_mem hm with hm | ⟨h1, h2, h3⟩
      · rcases List.mem_cons.mp hm with e | hm
        · cases e
          exact .inr ⟨hk ▸ List.mem_cons_self, Nat.le_refl _, _, pushCells_keeps r _ _ _ (Heap.get?_push_size _ rfl), rfl⟩
        · exact .inl hm
      · rw [Heap.size_push] at h2
        exact .inr ⟨List.mem_cons_of_mem _ h1, Nat.le_of_succ_le h2, h3⟩
    · rename_i hk
      rw [if_neg hk]
      rcases cells_mem hm with hm | ⟨h1, h2, h3⟩
      · exact .inl hm
      · exact .inr ⟨List.mem_cons_of_mem _ h1, h2, h3⟩
theorem cells_acc : ∀ {names : List (Str × NameKind)} {n : Nat} {acc : List (Str × Addr)} {p : Str × Addr}, p ∈ acc → p ∈ cellsFrom n names acc
  | [], _, _, _, h => h
  | (m, k) :: r, n, acc, p, h => by
    unfold cellsFrom
    split
    · exact cells_acc (List.mem_cons_of_mem _ h)
    · exact cells_acc h
theorem cells_has : ∀ {names : List (Str × NameKind)} {n : Nat} {acc : List (Str × Addr)} {x : Str}, (x, .cell) ∈ names → ∃ c, (x, c) ∈ cellsFrom n names acc
  | (m, k) :: r, n, acc, x, h => by
    unfold cellsFrom
    rcases List.mem_cons.mp h with e | h
    · cases e
      exact ⟨n, cells_acc List.mem_cons_self⟩
    · split
      · exact cells_has h
      · exact cells_has h
theorem cells_inj : ∀ {names : List (Str × NameKind)} {h : Heap} {acc : List (Str × Addr)} {x y : Str} {c : Addr}, (∀ p ∈ acc, p.2 < h.objs.size) → (∀ x y c, (x, c) ∈ acc → (y, c) ∈ acc → x = y) →
    (x, c) ∈ cellsFrom h.objs.size names acc → (y, c) ∈ cellsFrom h.objs.size names acc → x = y
  | [], _, _, _, _, _, _, hi, h1, h2 => hi _ _ _ h1 h2
  | (n, k) :: r, h, acc, x, y, c, hl, hi, h1, h2 => by
    unfold cellsFrom at h1 h2
    split at h1
    · rename_i hk
      rw [if_pos hk] at h2
      rw [← Heap.size_push h { cls := .type "cell", data := .cell none }] at h1 h2
      refine cells_inj (h := h.push _) (fun p hp => ?_) (fun x y c a b => ?_) h1 h2
      · rw [Heap.size_push]
        rcases List.mem_cons.mp hp with rfl | hp
        · exact Nat.lt_succ_self _
        · exact Nat.lt_succ_of_lt (hl p hp)
      · rcases List.mem_cons.mp a with e | a <;> rcases List.mem_cons.mp b with e' | b
        · cases e; cases e'; rfl
        · cases e; exact absurd (hl _ b) (Nat.lt_irrefl _)
        · cases e'; exact absurd (hl _ a) (Nat.lt_irrefl _)
        · exact hi _ _ _ a b
    · rename_i hk
      rw [if_neg hk] at h2
      exact cells_inj hl hi h1 h2

theorem newEnv_comp {M : Model} {A : Around} {E : Value → Shared → Prop} {s : Shared} {scope : Scope} {globals : Addr} {closure : List (Str × Addr)} {qual : Str} {func : Option Addr} {code : Value} {around : Env} {builtins : Addr} {Q : Env → Shared → Prop}
    (h : Q (newEnv scope s.heap.objs.size globals (cellsFrom (s.heap.objs.size + 1) scope.names closure) qual func code (some around) builtins)
      { s with heap := pushCells (s.heap.push { cls := .type "dict", data := .dict #[] }) scope.names }) :
    wpAny M A (newFunctionEnv scope globals closure [] qual func code (some around) builtins) Q E s := by
  simp only [newFunctionEnv, Option.isSome_some, if_true]
  refine wpAny_bind (wpAny_alloc ?_)
  refine wpAny_bind (wpAny_layCells _ (fun n k c => rfl) scope.names closure _ _ ?_)
  rw [show ({ s with heap := s.heap.push { cls := .type "dict", data := .dict #[] } } : Shared).heap.objs.size = s.heap.objs.size + 1 from Heap.size_push ..]
  rw [List.forIn_nil]
  exact wpAny_bind (wpAny_pure (wpAny_pure h))

/-- every name of the written scope, in the scope that runs -/
theorem lookup_relS {sc : Scope} : ∀ {names : List (Str × NameKind)} {x : Str} {k : NameKind},
    (names.map fun (n, k) => if (k == NameKind.free && sc.kind == .function && sc.names.lookup n == some .cell) then (n, NameKind.cell) else (n, k)).lookup x = some k →
    ∃ k', names.lookup x = some k' ∧ (k = k' ∨ (k' = .free ∧ k = .cell))
  | [], _, _, h => by simp at h
  | (n, k₀) :: r, x, k, h => by
    have ih := @lookup_relS sc r x k
    have h' : List.lookup x ((if (k₀ == NameKind.free && sc.kind == .function && sc.names.lookup n == some .cell) = true then (n, NameKind.cell) else (n, k₀)) :: (r.map _)) = some k := h
    cases hx : x == n with
    | true =>
      simp only [List.lookup_cons, hx]
      by_cases hc : (k₀ == NameKind.free && sc.kind == .function && sc.names.lookup n == some .cell) = true
      · rw [if_pos hc] at h'
        simp only [List.lookup_cons, hx] at h'
        cases h'
        simp only [Bool.and_eq_true, beq_iff_eq] at hc
        exact ⟨k₀, rfl, .inr ⟨hc.1.1, rfl⟩⟩
      · rw [if_neg hc] at h'
        simp only [List.lookup_cons, hx] at h'
        cases h'
        exact ⟨_, rfl, .inl rfl⟩
    | false =>
      simp only [List.lookup_cons, hx]
      by_cases hc : (k₀ == NameKind.free && sc.kind == .function && sc.names.lookup n == some .cell) = true
      · rw [if_pos hc] at h'
        simp only [List.lookup_cons, hx] at h'
        exact ih h'
      · rw [if_neg hc] at h'
        simp only [List.lookup_cons, hx] at h'
        exact ih h'



/-- the names of a comprehension's block: its own (with their places in N), or captured -/
structure BlkOk (N : List Str) (sc scope : Scope) (own : List (Str × Nat)) : Prop where
  kind : scope.kind = .function
  uniq : ∀ y ∈ scope.names, scope.names.lookup y.1 = some y.2
  ix : ∀ p ∈ own, N[p.2]? = some p.1
  free : ∀ y ∈ scope.names, y.2 = .free → sc.names.lookup y.1 = some .cell ∨ sc.names.lookup y.1 = some .free
  own : ∀ y ∈ scope.names, y.2 = .local ∨ y.2 = .cell → y.1 ∈ own.map (·.1) ∨ y.1 ∉ N
/-- the slots of the block's own names forgotten -/
def wipe (σ : St) : List Nat → St
  | [] => σ
  | v :: vs => (wipe σ vs).set v none
theorem wipe_length (σ : St) : ∀ vs : List Nat, (wipe σ vs).length = σ.length
  | [] => rfl
  | v :: vs => by unfold wipe; rw [List.length_set, wipe_length σ vs]
theorem wipe_some {σ : St} {i : Nat} {x : V} : ∀ {vs : List Nat}, (wipe σ vs)[i]? = some (some x) → σ[i]? = some (some x) ∧ i ∉ vs
  | [], h => ⟨h, by simp⟩
  | v :: vs, h => by
    unfold wipe at h
    by_cases hi : v = i
    · subst hi
      by_cases hv : v < (wipe σ vs).length
      · rw [List.getElem?_set_self hv] at h; cases h
      · rw [List.getElem?_eq_none (by simpa using hv)] at h; cases h
    · rw [List.getElem?_set_ne hi] at h
      obtain ⟨h1, h2⟩ := wipe_some h
      exact ⟨h1, by simp only [List.mem_cons, not_or]; exact ⟨fun e => hi e.symm, h2⟩⟩

/-- the context of a block that starts at s, its iterator's objects at fp -/
abbrev Cx.blk (X : Cx) (s : Shared) (H : Hp) (scope : Scope) (cenv : Env) (fp : List Addr) : Cx := { X with s_0 := s, H_0 := H, env := cenv, outer := X.stack, ex := fp, fn := fun x => scope.names.lookup x == some .cell, pn := [], xe := fun _ _ => False }
section
variable {X : Cx} {pins : List (Addr × Obj)} {σ : St} {H : Hp} {s : Shared}
theorem block_start {scope : Scope} {own : List (Str × Nat)} {fp : List Addr} (I : Inv X pins σ H s) (ok : BlkOk X.N X.env.scope scope own) (hN : X.N.Nodup) (hfp : ∀ b ∈ fp, FpOk X pins H b ∧ b < s.heap.objs.size) :
    Inv (X.blk s H scope (compEnvC scope (cellsFrom (s.heap.objs.size + 1) scope.names (cloFrom X.env.cells scope.names [])) s.heap.objs.size X.env) fp) [] (wipe σ (own.map (·.2))) H { s with heap := pushCells (s.heap.push { cls := .type "dict", data := .dict #[] }) scope.names } := by
  have hfree : ∀ y ∈ scope.names, y.2 = .free → ∃ c, X.env.cells.lookup y.1 = some c := fun y hy e => by
    rcases ok.free y hy e with k | k
    · exact I.ok.has _ (.inl k)
    · exact I.ok.has _ (.inr k)
  generalize hcenv : compEnvC scope (cellsFrom (s.heap.objs.size + 1) scope.names (cloFrom X.env.cells scope.names [])) s.heap.objs.size X.env = cenv
  have kp : ∀ b o, s.heap.get? b = some o → (pushCells (s.heap.push { cls := .type "dict", data := .dict #[] }) scope.names).get? b = some o := fun b o e => pushCells_keeps _ _ _ _ (Heap.get?_push_of_some _ e)
  have hL : cenv.locals = s.heap.objs.size := by rw [← hcenv]; rfl
  have hcl : cenv.cells = cellsFrom (s.heap.objs.size + 1) scope.names (cloFrom X.env.cells scope.names []) := by rw [← hcenv]; rfl
  have hsc : cenv.scope = relS scope X.env.scope := by rw [← hcenv]; rfl
  rw [← Heap.size_push s.heap { cls := .type "dict", data := .dict #[] }] at hcl
  have cm : ∀ {y c}, (y, c) ∈ cloFrom X.env.cells scope.names [] → X.env.cells.lookup y = some c ∧ c < s.heap.objs.size := fun {y c} hm => by
    rcases cloFrom_mem hm with hm | ⟨h1, rfl⟩
    · cases hm
    · obtain ⟨c, hc⟩ := hfree _ h1 rfl
      rw [hc]
      obtain ⟨w, z⟩ := I.cell _ _ hc
      exact ⟨rfl, z.lt⟩
  have mem : ∀ {y c}, cenv.cells.lookup y = some c → (X.env.cells.lookup y = some c ∧ c < s.heap.objs.size) ∨ (s.heap.objs.size + 1 ≤ c ∧ CellAt (pushCells (s.heap.push { cls := .type "dict", data := .dict #[] }) scope.names) c none) := fun {y c} e => by
    rw [hcl] at e
    rcases cells_mem (PySem.mem_of_lookup e) with hm | ⟨_, h2, h3⟩
    · exact .inl (cm hm)
    · rw [Heap.size_push] at h2; exact .inr ⟨h2, h3⟩
  have look : ∀ {y}, scope.names.lookup y = some .free → ∃ c, cenv.cells.lookup y = some c ∧ X.env.cells.lookup y = some c := fun {y} hl => by
    have hy : (y, NameKind.free) ∈ scope.names := PySem.mem_of_lookup hl
    obtain ⟨c', e'⟩ := mem_lookup (cells_acc (names := scope.names) (n := (s.heap.push { cls := .type "dict", data := .dict #[] }).objs.size) (cloFrom_has (cells := X.env.cells) (acc := []) hy))
    rw [← hcl] at e'
    refine ⟨c', e', ?_⟩
    rw [hcl] at e'
    rcases cells_mem (PySem.mem_of_lookup e') with hm | ⟨h1, _, _⟩
    · exact (cm hm).1
    · have := ok.uniq _ h1
      rw [hl] at this; cases this
  have okB : (X.blk s H scope cenv fp).Ok := by
    refine ⟨I.ok.mod, by show cenv.scope.kind = _; rw [hsc]; exact ok.kind, by show cenv.globals = _; rw [← hcenv]; exact I.ok.glob, by show cenv.builtins = _; rw [← hcenv]; exact I.ok.blt, by show s.heap.objs.size ≤ cenv.locals; rw [hL]; exact Nat.le_refl _,
      fun y z c e1 e2 => ?_, fun y hy => ?_, fun y c z e => ?_, I.ok.hd, I.ok.frames, .inl rfl, fun b hb => ⟨?_, fun y c e z => ?_⟩, I.bs, Nat.le_trans I.ok.bsz I.sz, fun b o e hb => ?_, fun b hb z => ?_, I.stack, I.stkFree⟩
    · have e1 : cenv.cells.lookup y = some c := e1
      have e2 : cenv.cells.lookup z = some c := e2
      rw [hcl] at e1 e2
      refine cells_inj (fun p hp => ?_) (fun y z c a b => I.ok.inj y z c (cm a).1 (cm b).1) (PySem.mem_of_lookup e1) (PySem.mem_of_lookup e2)
      rw [Heap.size_push]
      exact Nat.lt_succ_of_lt (cm (y := p.1) (c := p.2) hp).2
    · show ∃ c, cenv.cells.lookup y = some c
      have key : ∀ k, cenv.kindOf y = some k → (k = .cell ∨ k = .free) → ∃ c, cenv.cells.lookup y = some c := fun k hk hk' => by
        unfold Env.kindOf at hk
        rw [hsc] at hk
        obtain ⟨k', e, r⟩ := lookup_relS hk
        have : k' = .cell ∨ k' = .free := by
          rcases r with rfl | ⟨rfl, _⟩
          · exact hk'
          · exact .inr rfl
        rcases this with rfl | rfl
        · obtain ⟨c, hm⟩ := cells_has (n := (s.heap.push { cls := .type "dict", data := .dict #[] }).objs.size) (acc := cloFrom X.env.cells scope.names []) (PySem.mem_of_lookup e)
          obtain ⟨c', e'⟩ := mem_lookup hm
          exact ⟨c', by rw [hcl]; exact e'⟩
        · obtain ⟨c, h1, _⟩ := look e
          exact ⟨c, h1⟩
      rcases hy with hy | hy
      · exact key _ hy (.inl rfl)
      · exact key _ hy (.inr rfl)
    · have z : (scope.names.lookup y == some NameKind.cell) = true := z
      have z : scope.names.lookup y = some .cell := by simpa using z
      have e : cenv.cells.lookup y = some c := e
      rw [hcl] at e
      rcases cells_mem (PySem.mem_of_lookup e) with hm | ⟨_, h2, _⟩
      · rcases cloFrom_mem hm with hm | ⟨h1, _⟩
        · cases hm
        · have q := ok.uniq _ h1
          rw [z] at q; cases q
      · rw [Heap.size_push] at h2
        exact Nat.le_of_succ_le h2
    · show b ≠ cenv.locals
      rw [hL]; exact Nat.ne_of_lt (hfp b hb).2
    · have e : cenv.cells.lookup y = some c := e
      rcases mem e with ⟨h1, _⟩ | ⟨h1, _⟩
      · exact (hfp b hb).1.2.2.2.2.1 y c h1 z
      · have h2 : s.heap.objs.size + 1 ≤ b := by rw [← z]; exact h1
        exact absurd (Nat.lt_of_lt_of_le (hfp b hb).2 (Nat.le_of_succ_le h2)) (Nat.lt_irrefl _)
    · rcases (hfp b hb).1.2.2.2.1 with z | z
      · exact I.ok.noex b o e z
      · exact absurd (Nat.lt_of_lt_of_le (Heap.lt_size e) (Nat.le_trans I.ok.bsz z)) (Nat.lt_irrefl _)
    · rcases List.mem_cons.mp (I.stkSub b z) with z | z
      · exact (hfp b hb).1.2.1 z
      · exact (hfp b hb).1.2.2.1 z
  refine ⟨okB, rfl, I.bare, Un.kept kp, ⟨fun _ => none, ?_, fun i y av e1 e2 e3 => ?_⟩, fun y c e => ?_, ?_, fun y c e => ?_, fun p hp => ?_, I.hok.kept kp, by rw [wipe_length]; exact I.len⟩
  · show Heap.Ns _ cenv.locals _
    rw [hL]
    exact Heap.Ns.keeps (Heap.Ns.new ..) fun b o e => pushCells_keeps _ _ _ _ e
  · obtain ⟨e2, hne⟩ := wipe_some e2
    have hfr : scope.names.lookup y = some .free ∧ (cenv.kindOf y = some .cell ∨ cenv.kindOf y = some .free) := by
      have key : ∀ k, cenv.scope.names.lookup y = some k → k = .local ∨ k = .cell ∨ k = .free → scope.names.lookup y = some .free ∧ (cenv.kindOf y = some .cell ∨ cenv.kindOf y = some .free) := fun k hk hk' => by
        have hk0 := hk
        rw [hsc] at hk
        obtain ⟨k', e, r⟩ := lookup_relS hk
        have no : ¬ (k' = .local ∨ k' = .cell) := fun hh => by
          rcases ok.own _ (PySem.mem_of_lookup e) hh with e' | e'
          · obtain ⟨p, hp, hpy⟩ := List.mem_map.mp e'
            have e3 := ok.ix p hp
            have : p.1 = y := hpy
            rw [this] at e3
            exact hne (List.mem_map.mpr ⟨p, hp, nodup_ix hN e3 e1⟩)
          · exact e' (List.mem_of_getElem? e1)
        rcases r with rfl | ⟨rfl, rfl⟩
        · rcases hk' with rfl | rfl | rfl
          · exact absurd (.inl rfl) no
          · exact absurd (.inr rfl) no
          · exact ⟨e, .inr hk0⟩
        · exact ⟨e, .inl hk0⟩
      have e3 : Vis cenv.scope y := e3
      rcases e3 with e3 | e3 | e3
      · exact key _ e3 (.inl rfl)
      · exact key _ e3 (.inr (.inl rfl))
      · exact key _ e3 (.inr (.inr rfl))
    obtain ⟨m, hn, hl⟩ := I.loc
    have hvis : Vis X.env.scope y := (ok.free _ (PySem.mem_of_lookup hfr.1) rfl).elim (fun k => .inr (.inl k)) (fun k => .inr (.inr k))
    obtain ⟨w, r, q⟩ := hl i y av e1 e2 hvis
    refine ⟨w, r, .inr ⟨hfr.2, ?_⟩⟩
    obtain ⟨c, h1, h2⟩ := look hfr.1
    rcases q with ⟨k, _⟩ | ⟨_, c', e', z⟩
    · have k : X.env.scope.names.lookup y = some .local := k
      rcases ok.free _ (PySem.mem_of_lookup hfr.1) rfl with k' | k' <;> rw [show X.env.scope.names.lookup y = _ from k'] at k <;> cases k
    · rw [h2] at e'; cases e'
      exact ⟨c, h1, z.keeps kp⟩
  · have e : cenv.cells.lookup y = some c := e
    rcases mem e with ⟨h1, _⟩ | ⟨_, z⟩
    · obtain ⟨w, z⟩ := I.cell y c h1
      exact ⟨w, z.keeps kp⟩
    · exact ⟨_, z⟩
  · show H cenv.locals = none
    rw [hL]; exact I.hok.fresh (Nat.le_refl _)
  · have e : cenv.cells.lookup y = some c := e
    rcases mem e with ⟨h1, _⟩ | ⟨h1, _⟩
    · exact I.freeC y c h1
    · exact I.hok.fresh (Nat.le_of_succ_le h1)
  · exact absurd (show p ∈ ([] : List (Addr × Obj)) ++ [] from hp) (by simp)

/-- an item appended to a tracked list -/
theorem app_ok {E : Value → Shared → Prop} {D : Addr} {xs : List V} {y : V} {v : Value} {Q : Value → Shared → Prop} (I : Inv X pins σ H s) (hD : H D = some (.lst xs)) (hz : xs.length < sizeLine) (r : RelV y v)
    (h : ∀ s', Inv X pins σ (upd H D (.lst (xs ++ [y]))) s' → Q .none s') : wpAny (model X.prog X.w) X.A (call (.builtin "list.append") [.ref D, v]) Q E s := by
  obtain ⟨hz', its, n, ri, e⟩ := I.hok D _ hD
  have hl := ri.length
  refine append_at (hsz := by rw [List.size_toArray]; omega) e fun h' sb ho' => ?_
  refine h { s with heap := h' } (I.write (t' := s.toks) (by rw [hD]; trivial) (.inl rfl) (fun b u hb q => (sb.2 b hb).trans q) ⟨_, ho'⟩ ⟨by rw [List.length_append]; exact hz, its ++ [v], n + 1, ri.append (.cons r .nil), ?_⟩)
  rw [ho']
  simp

/-- a clause's tests -/
def PTs (X : Cx) (ifs : List Expr) (t : TT) : Prop :=
  ∀ (pins : List (Addr × Obj)) (s : Shared) (σ : St) (H : Hp) (Q : Bool → Hp → Prop), Inv X pins σ H s → t σ H Q →
    wpAny (model X.prog X.w) X.A (forIn ifs true fun c r => if r = true then do let ok ← isTrue c X.env (eval c X.env); pure (ForInStep.yield ok) else pure (ForInStep.yield r)) (TP X pins σ Q) X.xe s
def tYes : TT := fun _ H Q => Q true H
theorem pts_nil : PTs X [] tYes := fun _ _ _ H _ I h => wpAny_tests_nil ⟨H, I, h⟩
end

theorem thnF {α : Type} {t : Sem α} {Q Q' : α → Shared → Prop} {M : Model} {A : Around} {E : Value → Shared → Prop} {s : Shared} (h : wpAny M A t Q (fun _ _ => False) s) (hQ : ∀ a s, Q a s → Q' a s) : wpAny M A t Q' E s := wpAny_mono h hQ fun _ _ z => False.elim z

/-- the loop of a list comprehension's block, the target of any form (codeAny_compLoop_tests asks a target that no tuple goes to; statement and proof follow it, PyProof/CompMap.lean:41-61, with the step letOwnedTupleGo kept) -/
theorem compLoop_any {prog : Program} {w : World} {A : Around} {R : Result → Shared → Prop} {s : Shared} {elt target iter : Expr} {ifs : List Expr} {scope : Scope} {pos : Pos} {it acc : Value} {env : Env} (I : Nat → Shared → Prop)
    (turn : ∀ n s, I n s → wpAny (model prog w) A (pyNext it) (fun r s₁ => match r with
      | none => R (.ok .next) s₁
      | some v => wpAny (model prog w) A (letOwnedTupleGo target it v) (fun _ s₁' => wpAny (model prog w) A (assign target env v) (fun _ s₂ =>
          wpAny (model prog w) A (forIn ifs true fun c r => if r = true then do let ok ← isTrue c env (eval c env); pure (ForInStep.yield ok) else pure (ForInStep.yield r)) (fun ok s₃ =>
            if ok = true then wpAny (model prog w) A (eval elt env) (fun x s₄ =>
              wpAny (model prog w) A (call (.builtin "list.append") [acc, x]) (fun _ s₅ => ∃ m, m < n ∧ I m s₅) (notedBy (model prog w) A env fun e s' => R (.error e) s') s₄) (notedBy (model prog w) A env fun e s' => R (.error e) s') s₃
            else ∃ m, m < n ∧ I m s₃) (notedBy (model prog w) A env fun e s' => R (.error e) s') s₂) (notedBy (model prog w) A env fun e s' => R (.error e) s') s₁') (notedBy (model prog w) A env fun e s' => R (.error e) s') s₁) (notedBy (model prog w) A env fun e s' => R (.error e) s') s)
    (n : Nat) (h : I n s) :
    codeAny (model prog w) A (.compLoop (.ListComp elt [⟨target, iter, ifs, 0⟩] scope pos) 0 it acc env) R s := by
  refine codeAny_loop rfl I (fun n s hI => ?_) n h
  show wpAny _ A ((compTurn (.ListComp elt [⟨target, iter, ifs, 0⟩] scope pos) 0 it acc env).onRaise (fun x => do noteFrame x env; theTreesLotGoes x)) _ _ s
  refine wpAny_noted ?_
  rw [compTurn_list]
  refine wpAny_bind (wpAny_standAt (wpAny_bind (wpAny_mono (turn n s hI) (fun r s₁ h₁ => ?_) fun _ _ h' => h')))
  cases r with
  | none => exact wpAny_pure h₁
  | some v =>
    refine wpAny_bind (wpAny_mono h₁ (fun _ s₁' h₁' => ?_) fun _ _ h' => h')
    refine wpAny_bind (wpAny_mono h₁' (fun _ s₂ h₂ => wpAny_bind (wpAny_mono h₂ (fun ok s₃ h₃ => ?_) fun _ _ h' => h')) fun _ _ h' => h')
    cases ok with
    | false => exact wpAny_pure ⟨rfl, h₃⟩
    | true =>
      exact wpAny_bind (wpAny_bind (wpAny_mono h₃ (fun x s₄ h₄ => wpAny_bind (wpAny_mono h₄ (fun _ s₅ h₅ => wpAny_pure (wpAny_pure ⟨rfl, h₅⟩)) fun _ _ h' => h')) fun _ _ h' => h'))

section
variable {X : Cx}
/-- [elt for target in iter if ..]: D the new list; W by the turn and a measure, Nx what a turn is to reach -/
def tLc (wi : TI) (g : TG) (tt : TT) (te : TE) (vs : List Nat) : TE := fun σ H Q => wi σ H fun J H1 => ∀ D, H1 D = none → ∃ W : Nat → Nat → Hp → Prop, (∃ m, W 0 m (upd H1 D (.lst []))) ∧ ∀ i m H, W i m H →
  (J.stop i H ∧ Q (.ref D) H) ∨ (J.go i H ∧ ∃ Nx : Hp → Prop, (∀ H', Nx H' → ∃ m', m' < m ∧ W (i + 1) m' H') ∧ ∀ x H', J.yld i H x H' → g x (wipe σ vs) H' fun σ2 H2 => wipe σ2 vs = wipe σ vs ∧ tt σ2 H2 fun b H3 =>
    if b = true then te σ2 H3 fun y H4 => ∃ acc, H4 D = some (.lst acc) ∧ acc.length < sizeLine ∧ Nx (upd H4 D (.lst (acc ++ [y]))) else Nx H3)
theorem lc_core {pins : List (Addr × Obj)} {s : Shared} {σ : St} {H : Hp} {Q : VK} {elt tg iter : Expr} {ifs : List Expr} {scope : Scope} {own : List (Str × Nat)} {pos pos' : Pos} {wi : TI} {g : TG} {tt : TT} {te : TE} {use : Option (Value → Sem Unit)} {Qf : Value → Shared → Prop}
    (hc : X.calm = true) (hN : X.N.Nodup) (I : Inv X pins σ H s) (hi : PI X tg iter wi) (ok : BlkOk X.N X.env.scope scope own)
    (hg : ∀ (s : Shared) (H : Hp) (C : Addr) (cl : List (Str × Addr)) (fp : List Addr), PG (X.blk s H scope (compEnvC scope cl C X.env) fp) tg g) (ht : ∀ (s : Shared) (H : Hp) (C : Addr) (cl : List (Str × Addr)) (fp : List Addr), PTs (X.blk s H scope (compEnvC scope cl C X.env) fp) ifs tt)
    (he : ∀ (s : Shared) (H : Hp) (C : Addr) (cl : List (Str × Addr)) (fp : List Addr), PE (X.blk s H scope (compEnvC scope cl C X.env) fp) elt te) (hs : ∀ x, foldedSetIterable iter X.env x = pure x)
    (h : tLc wi g tt te (own.map (·.2)) σ H Q)
    (hRR : ∀ D C s' m H', Inv X pins σ H' s' → Q (.ref D) H' → s'.heap.Ns C m → FpOk X pins H' C → compPost (model X.prog X.w) X.A X.xe use Qf (.ref D) C (.ok .next) s') :
    wpAny (model X.prog X.w) X.A (comprehension (.ListComp elt [⟨tg, iter, ifs, 0⟩] scope pos) scope X.env pos' (newList []) false (eval iter X.env) use) Qf X.xe s := by
  have hfree : ∀ y ∈ scope.names, y.2 = .free → ∃ c, X.env.cells.lookup y.1 = some c := fun y hy e => by
    rcases ok.free y hy e with k | k
    · exact I.ok.has _ (.inl k)
    · exact I.ok.has _ (.inr k)
  refine wpAny_comprehension_free (use := use) rfl hs (closure_ok hfree) ok.kind (fun y hy e => by rw [ok.uniq y hy, e])
    (thn (hi pins s σ H _ I h) fun xv s1 hx => thn hx fun itv s2 h2 => ?_)
  obtain ⟨it, fp, tn, J, H2, e, I2, T, st2, f2, q⟩ := h2
  subst e
  refine wpAny_newObj_type (newEnv_comp ?_) (by show 0 ≤ sizeLine; decide)
  generalize hD : s2.heap.objs.size = D
  have hDn : H2 D = none := I2.hok.fresh (Nat.le_of_eq hD)
  obtain ⟨W, ⟨m0, w0⟩, turn⟩ := q D hDn
  -- the new list
  generalize hs3 : ({ s2 with heap := s2.heap.push { cls := .type "list", data := .seq ([] : List Value).toArray } } : Shared) = s3
  have I3 : Inv X pins σ (upd H2 D (.lst [])) s3 := by
    rw [← hs3]
    refine I2.laid (t' := s2.toks) (fun b o e => Heap.get?_push_of_some _ e) (Nat.le_of_eq hD) ⟨Nat.zero_le _, [], 0, .nil, ?_⟩
    rw [← hD]
    exact Heap.get?_push_size _ rfl
  have h3 : s3.heap = s2.heap.push { cls := .type "list", data := .seq ([] : List Value).toArray } := by rw [← hs3]
  have sz : ∀ b ∈ fp, b < s2.heap.objs.size := fun b hb => by
    obtain ⟨o, e, _⟩ := T.obj _ _ st2 b hb
    exact Heap.lt_size e
  have f3 : ∀ b ∈ fp, FpOk X pins (upd H2 D (.lst [])) b ∧ b < s3.heap.objs.size := fun b hb => by
    have hlt := sz b hb
    refine ⟨⟨?_, (f2 b hb).2⟩, by rw [h3, Heap.size_push]; exact Nat.lt_succ_of_lt hlt⟩
    rw [upd_ne (by rw [← hD]; exact Nat.ne_of_lt hlt)]
    exact (f2 b hb).1
  have st3 : tn 0 s3.heap := T.keep _ _ _ st2 fun b _ o e => by rw [h3]; exact Heap.get?_push_of_some _ e
  have I4 := block_start I3 ok hN f3
  have pg := hg s3 (upd H2 D (.lst [])) s3.heap.objs.size (cellsFrom (s3.heap.objs.size + 1) scope.names (cloFrom X.env.cells scope.names [])) fp
  have pt := ht s3 (upd H2 D (.lst [])) s3.heap.objs.size (cellsFrom (s3.heap.objs.size + 1) scope.names (cloFrom X.env.cells scope.names [])) fp
  have pe := he s3 (upd H2 D (.lst [])) s3.heap.objs.size (cellsFrom (s3.heap.objs.size + 1) scope.names (cloFrom X.env.cells scope.names [])) fp
  show codeAny _ _ (.compStart (.ListComp elt [⟨tg, iter, ifs, 0⟩] scope pos) 0 (.ref it) (.ref D) (compEnvC scope (cellsFrom (s3.heap.objs.size + 1) scope.names (cloFrom X.env.cells scope.names [])) s3.heap.objs.size X.env)) (compPost (model X.prog X.w) X.A X.xe use Qf (.ref D) s3.heap.objs.size) { s3 with heap := pushCells (s3.heap.push { cls := .type "dict", data := .dict #[] }) scope.names }
  have nfp : ∀ b ∈ fp, (upd H2 D (.lst [])) b = none := fun b hb => (f3 b hb).1.1
  generalize hce : compEnvC scope (cellsFrom (s3.heap.objs.size + 1) scope.names (cloFrom X.env.cells scope.names [])) s3.heap.objs.size X.env = ce at I4 pg pt pe ⊢
  have cL : ce.locals = s3.heap.objs.size := by subst hce; rfl
  generalize hH3 : upd H2 D (.lst []) = H3 at I3 I4 pg pt pe w0 nfp f3
  generalize hs4 : ({ s3 with heap := pushCells (s3.heap.push { cls := .type "dict", data := .dict #[] }) scope.names } : Shared) = s4 at I4 ⊢
  have st4 : tn 0 s4.heap := T.keep _ _ _ st3 fun b _ o e => by rw [← hs4]; exact pushCells_keeps _ _ _ _ (Heap.get?_push_of_some _ e)
  have stat : ∀ {σ' : St} {H' : Hp} {s' : Shared}, Inv (X.blk s3 H3 scope ce fp) [] σ' H' s' → (∀ b ∈ fp, H' b = none) → ∀ b ∈ fp, FpOk (X.blk s3 H3 scope ce fp) [] H' b := fun {σ' H' s'} I' hn b hb =>
    ⟨hn b hb, (I'.ok.exf b hb).1, I'.ok.exfs b hb, .inl hb, fun x c e => (I'.ok.exf b hb).2 x c e, fun p hp => absurd (show p ∈ ([] : List (Addr × Obj)) ++ [] from hp) (by simp)⟩
  have loop : codeAny (model X.prog X.w) X.A (.compLoop (.ListComp elt [⟨tg, iter, ifs, 0⟩] scope pos) 0 (.ref it) (.ref D) ce) (compPost (model X.prog X.w) X.A X.xe use Qf (.ref D) s3.heap.objs.size) s4 := by
    refine compLoop_any (fun n s' => ∃ i H', Inv (X.blk s3 H3 scope ce fp) [] (wipe σ (own.map (·.2))) H' s' ∧ tn i s'.heap ∧ (∀ b ∈ fp, H' b = none) ∧ W i n H') ?_ m0 ⟨0, H3, I4, st4, nfp, w0⟩
    rintro n s5 ⟨i, H5, I5, st5, n5, w5⟩
    rcases turn i n H5 w5 with ⟨stop, qq⟩ | ⟨go, Nx, hNx, step⟩
    · have td := T.done (X.blk s3 H3 scope ce fp) rfl rfl rfl hc i [] s5 _ H5 (fun _ _ => False) I5 (stat I5 n5) st5 stop
      refine thnF td fun r s6 ⟨hr, I6⟩ => ?_
      subst hr
      -- back in the def's context
      have I7 : Inv X pins σ H5 s6 := I3.call' (ch := fp) I6.os I6.base I6.hok I6.bare fun b hb => ⟨(f3 b hb).1.2.2.2.1, (f3 b hb).1.2.1, (f3 b hb).1.2.2.2.2.1, (f3 b hb).1.2.2.2.2.2⟩
      have nC : H5 s3.heap.objs.size = none := by
        have z : H5 ce.locals = none := I6.free
        rw [cL] at z
        exact z
      obtain ⟨m, hn, _⟩ := I6.loc
      have hn : s6.heap.Ns ce.locals m := hn
      rw [cL] at hn
      exact hRR D s3.heap.objs.size s6 m H5 I7 qq hn (I3.fpOk (Nat.le_refl _) nC)
    · have ti := T.item (X.blk s3 H3 scope ce fp) rfl rfl rfl hc i [] s5 _ H5 (fun _ _ => False) I5 (stat I5 n5) st5 go
      refine thnF ti fun r s6 ⟨u, hr, h6⟩ => ?_
      subst hr
      refine thnF h6 fun _ s7 ⟨x, H7, I7, r7, y7, st7, n7⟩ => ?_
      have I7' := I7.pinned (stat I7 n7) (T.obj _ _ st7)
      refine thnF (pg _ s7 _ H7 x u _ I7' r7 (step x H7 y7)) fun _ s8 ⟨σ8, H8, I8, hw8, q8⟩ => ?_
      refine thnF (pt _ s8 σ8 H8 _ I8 q8) fun b s9 ⟨H9, I9, q9⟩ => ?_
      -- the turn's end
      have fin : ∀ {s' : Shared} {H' : Hp}, Inv (X.blk s3 H3 scope ce fp) ([] ++ pinsAt fp s7.heap) σ8 H' s' → Nx H' → ∃ m, m < n ∧ ∃ i H', Inv (X.blk s3 H3 scope ce fp) [] (wipe σ (own.map (·.2))) H' s' ∧ tn i s'.heap ∧ (∀ b ∈ fp, H' b = none) ∧ W i m H' := fun {s' H'} I' nx => by
        obtain ⟨m', hm, w'⟩ := hNx H' nx
        have pin' : ∀ b ∈ fp, ∀ o, s7.heap.get? b = some o → s'.heap.get? b = some o ∧ H' b = none := fun b hb o e =>
          let z := I'.pin (b, o) (List.mem_append_right _ (List.mem_append_right _ (mem_pinsAt hb e)))
          ⟨z.1, z.2.1⟩
        have hl : (wipe σ (own.map (·.2))).length = σ8.length := by rw [← hw8, wipe_length]
        refine ⟨m', hm, i + 1, H', (I'.unpinned (pins := [])).weak hl (fun j v e => ?_), T.keep _ _ _ st7 fun b hb o e => (pin' b hb o e).1, fun b hb => ?_, w'⟩
        · rw [← hw8] at e
          exact (wipe_some e).1
        · obtain ⟨o, e, _⟩ := T.obj _ _ st7 b hb
          exact (pin' b hb o e).2
      cases b with
      | false =>
        simp only [Bool.false_eq_true, if_false] at q9 ⊢
        exact fin I9 q9
      | true =>
        simp only [if_true] at q9 ⊢
        refine thnF (pe _ s9 σ8 H9 _ I9 q9) fun z s10 ⟨yv, H10, I10, r10, acc, hD10, hz10, nx⟩ => ?_
        exact app_ok (X := X.blk s3 H3 scope ce fp) I10 hD10 hz10 r10 fun s11 I11 => fin I11 nx
  exact codeAny_compStart_list loop (T.self X.A 0 _ _ _ st4 loop)
/-- as a value -/
theorem pe_lc {elt tg iter : Expr} {ifs : List Expr} {scope : Scope} {own : List (Str × Nat)} {pos : Pos} {wi : TI} {g : TG} {tt : TT} {te : TE} (hc : X.calm = true) (hN : X.N.Nodup) (hi : PI X tg iter wi) (ok : BlkOk X.N X.env.scope scope own)
    (hg : ∀ (s : Shared) (H : Hp) (C : Addr) (cl : List (Str × Addr)) (fp : List Addr), PG (X.blk s H scope (compEnvC scope cl C X.env) fp) tg g) (ht : ∀ (s : Shared) (H : Hp) (C : Addr) (cl : List (Str × Addr)) (fp : List Addr), PTs (X.blk s H scope (compEnvC scope cl C X.env) fp) ifs tt)
    (he : ∀ (s : Shared) (H : Hp) (C : Addr) (cl : List (Str × Addr)) (fp : List Addr), PE (X.blk s H scope (compEnvC scope cl C X.env) fp) elt te) (hs : ∀ x, foldedSetIterable iter X.env x = pure x := by intro _; rfl) :
    PE X (.ListComp elt [⟨tg, iter, ifs, 0⟩] scope pos) (tLc wi g tt te (own.map (·.2))) := by
  intro pins s σ H Q I h
  rw [eval_ListComp]
  refine lc_core hc hN I hi ok hg ht he hs h fun D C s' m H' I' q hn f => ⟨m, hn, fun h'' sb => ?_⟩
  obtain ⟨f0, f1, f2, f3, f4, f5⟩ := f
  exact ⟨.ref D, H', I'.turned (t' := s'.toks) (fun b o hb e => (sb.2 b hb).trans e) f0 f1 f3 f4 f5, rfl, q⟩
end

/-! ### the forms one uses -/
/-- over a range: Pv by the turn and the heap (the new list at D within) -/
theorem lc_range {lo : Int} {n : Nat} {g : TG} {tt : TT} {te : TE} {vs : List Nat} {σ : St} {H1 : Hp} {D : Addr} {Qd : Hp → Prop} (Pv : Nat → Hp → Prop) (h0 : Pv 0 (upd H1 D (.lst [])))
    (hs : ∀ i H, i < n → Pv i H → g (.int (lo + i)) (wipe σ vs) H fun σ2 H2 => wipe σ2 vs = wipe σ vs ∧ tt σ2 H2 fun b H3 =>
      if b = true then te σ2 H3 fun y H4 => ∃ acc, H4 D = some (.lst acc) ∧ acc.length < sizeLine ∧ Pv (i + 1) (upd H4 D (.lst (acc ++ [y]))) else Pv (i + 1) H3) (hd : ∀ H, Pv n H → Qd H) :
    ∃ W : Nat → Nat → Hp → Prop, (∃ m, W 0 m (upd H1 D (.lst []))) ∧ ∀ i m H, W i m H →
      ((Itr lo n).stop i H ∧ Qd H) ∨ ((Itr lo n).go i H ∧ ∃ Nx : Hp → Prop, (∀ H', Nx H' → ∃ m', m' < m ∧ W (i + 1) m' H') ∧ ∀ x H', (Itr lo n).yld i H x H' → g x (wipe σ vs) H' fun σ2 H2 => wipe σ2 vs = wipe σ vs ∧ tt σ2 H2 fun b H3 =>
        if b = true then te σ2 H3 fun y H4 => ∃ acc, H4 D = some (.lst acc) ∧ acc.length < sizeLine ∧ Nx (upd H4 D (.lst (acc ++ [y]))) else Nx H3) := by
  refine ⟨fun i m H => m = n - i ∧ i ≤ n ∧ Pv i H, ⟨n, by simp, Nat.zero_le _, h0⟩, ?_⟩
  rintro i m H ⟨rfl, hi, p⟩
  by_cases hlt : i < n
  · refine .inr ⟨hlt, Pv (i + 1), fun H' p' => ⟨n - (i + 1), by omega, rfl, hlt, p'⟩, fun x H' y => ?_⟩
    obtain ⟨e, y⟩ := y
    subst e y
    exact hs i _ hlt p
  · have e : i = n := by omega
    subst e
    exact .inl ⟨Nat.le_refl _, hd H p⟩
/-- over a list that the block leaves as it is -/
theorem lc_list {K : PySem.W.Frag} {a : Addr} {xs : List V} {g : TG} {tt : TT} {te : TE} {vs : List Nat} {σ : St} {H1 : Hp} {D : Addr} {Qd : Hp → Prop} (Pv : Nat → Hp → Prop) (h0 : Pv 0 (upd H1 D (.lst []))) (hl : ∀ i H, i ≤ xs.length → Pv i H → SqL K H a xs)
    (hs : ∀ i x H, xs[i]? = some x → Pv i H → g x (wipe σ vs) H fun σ2 H2 => wipe σ2 vs = wipe σ vs ∧ tt σ2 H2 fun b H3 =>
      if b = true then te σ2 H3 fun y H4 => ∃ acc, H4 D = some (.lst acc) ∧ acc.length < sizeLine ∧ Pv (i + 1) (upd H4 D (.lst (acc ++ [y]))) else Pv (i + 1) H3) (hd : ∀ H, Pv xs.length H → Qd H) :
    ∃ W : Nat → Nat → Hp → Prop, (∃ m, W 0 m (upd H1 D (.lst []))) ∧ ∀ i m H, W i m H →
      ((Itl K a).stop i H ∧ Qd H) ∨ ((Itl K a).go i H ∧ ∃ Nx : Hp → Prop, (∀ H', Nx H' → ∃ m', m' < m ∧ W (i + 1) m' H') ∧ ∀ x H', (Itl K a).yld i H x H' → g x (wipe σ vs) H' fun σ2 H2 => wipe σ2 vs = wipe σ vs ∧ tt σ2 H2 fun b H3 =>
        if b = true then te σ2 H3 fun y H4 => ∃ acc, H4 D = some (.lst acc) ∧ acc.length < sizeLine ∧ Nx (upd H4 D (.lst (acc ++ [y]))) else Nx H3) := by
  refine ⟨fun i m H => m = xs.length - i ∧ i ≤ xs.length ∧ Pv i H, ⟨xs.length, by simp, Nat.zero_le _, h0⟩, ?_⟩
  rintro i m H ⟨rfl, hi, p⟩
  have q := hl i H hi p
  by_cases hlt : i < xs.length
  · refine .inr ⟨⟨xs, xs[i], q, by simp [hlt]⟩, Pv (i + 1), fun H' p' => ⟨xs.length - (i + 1), by omega, rfl, hlt, p'⟩, fun x H' y => ?_⟩
    obtain ⟨e, y⟩ := y
    subst e
    exact hs i x _ (y xs q) p
  · have e : i = xs.length := by omega
    subst e
    exact .inl ⟨⟨xs, q, Nat.le_refl _⟩, hd H p⟩
def blkC (N : List Str) (sc scope : Scope) (own : List (Str × Nat)) : Bool :=
  (match scope.kind with | .function => true | _ => false) && (scope.names.all fun y => decide (scope.names.lookup y.1 = some y.2)) && (own.all fun p => decide (N[p.2]? = some p.1)) &&
    (scope.names.all fun y => match y.2 with
      | .free => (match sc.names.lookup y.1 with | some .cell => true | some .free => true | _ => false)
      | .local => decide (y.1 ∈ own.map (·.1)) || decide (y.1 ∉ N)
      | .cell => decide (y.1 ∈ own.map (·.1)) || decide (y.1 ∉ N)
      | _ => true)
theorem blkOk_by {N : List Str} {sc scope : Scope} {own : List (Str × Nat)} (h : blkC N sc scope own = true) : BlkOk N sc scope own := by
  unfold blkC at h
  simp only [Bool.and_eq_true, List.all_eq_true, decide_eq_true_eq] at h
  obtain ⟨⟨⟨h1, h2⟩, h3⟩, h4⟩ := h
  refine ⟨?_, h2, h3, fun y hy e => ?_, fun y hy e => ?_⟩
  · split at h1
    · assumption
    · cases h1
  · have q := h4 y hy
    simp only [e] at q
    split at q <;> first | exact .inl (by assumption) | exact .inr (by assumption) | cases q
  · have q := h4 y hy
    rcases e with e | e <;> (simp only [e, Bool.or_eq_true, decide_eq_true_eq] at q; exact q)
end L2

namespace L2
open PySem PySem.Spec PyProof.Rows


section
variable {prog : Program} {w : World} {A : Around} {R : Result → Shared → Prop} {s : Shared} {elt t0 i0 t1 i1 : Expr} {ifs0 ifs1 : List Expr} {scope : Scope} {pos : Pos} {it acc : Value} {env : Env}
end

section
variable {X : Cx}
end
end L2

namespace L2
open PySem PySem.Spec PyProof.Rows

/-! ### lists of pairs as tables -/
section
variable {κ : Type} [DecidableEq κ]
def valV (kvs : List (κ × V)) (k : κ) : Option V := (kvs.find? fun kv => decide (kv.1 = k)).map (·.2)
/-- in its place, or at the end -/
def putK (kvs : List (κ × V)) (k : κ) (v : V) : List (κ × V) :=
  if (kvs.any fun kv => decide (kv.1 = k)) = true then kvs.map (fun kv => if kv.1 = k then (kv.1, v) else kv) else kvs ++ [(k, v)]
def dropK (kvs : List (κ × V)) (k : κ) : List (κ × V) := kvs.filter fun kv => decide (kv.1 ≠ k)

theorem valV_pos {p : κ × V} {r : List (κ × V)} {k : κ} (e : p.1 = k) : valV (p :: r) k = some p.2 := by simp [valV, List.find?_cons, e]
theorem valV_neg {p : κ × V} {r : List (κ × V)} {k : κ} (e : ¬ p.1 = k) : valV (p :: r) k = valV r k := by simp [valV, List.find?_cons, e]
theorem valV_any (k : κ) : ∀ kvs : List (κ × V), (kvs.any fun kv => decide (kv.1 = k)) = (valV kvs k).isSome
  | [] => rfl
  | p :: r => by
    rw [List.any_cons]
    by_cases e : p.1 = k
    · simp only [valV_pos e, decide_eq_true e, Bool.true_or, Option.isSome_some]
    · rw [valV_neg e, decide_eq_false e, Bool.false_or]; exact valV_any k r
theorem length_putK (kvs : List (κ × V)) (k : κ) (v : V) : (putK kvs k v).length ≤ kvs.length + 1 := by
  unfold putK
  split
  · rw [List.length_map]; omega
  · rw [List.length_append, List.length_cons, List.length_nil]; omega

theorem RelO.isSome_eq {o : Option V} {u : Option Value} (r : RelO o u) : o.isSome = u.isSome := by
  cases o with
  | none => cases u with
    | none => rfl
    | some _ => exact (show False from r).elim
  | some _ => cases u with
    | none => exact (show False from r).elim
    | some _ => rfl
theorem RelO.getD {o : Option V} {u : Option Value} {d : V} {d' : Value} (r : RelO o u) (rd : RelV d d') : RelV (o.getD d) (u.getD d') := by
  cases o with
  | none => cases u with
    | none => exact rd
    | some _ => exact (show False from r).elim
  | some _ => cases u with
    | none => exact (show False from r).elim
    | some _ => exact r

/-- raw tables of the same keys -/
theorem KV.val {kvs : List (κ × V)} {vs : List (κ × Value)} (r : KV kvs vs) (k : κ) : RelO (valV kvs k) (valueAt vs k) := by
  unfold KV at r
  induction r with
  | nil => exact True.intro
  | @cons p q ps qs h t ih =>
    obtain ⟨h1, h2⟩ := h
    by_cases e : p.1 = k
    · have e' : q.1 = k := h1.symm.trans e
      have b : valueAt (q :: qs) k = some q.2 := by simp [valueAt, List.find?_cons, e']
      rw [valV_pos e, b]; exact h2
    · have e' : ¬ q.1 = k := fun z => e (h1.trans z)
      have b : valueAt (q :: qs) k = valueAt qs k := by simp [valueAt, List.find?_cons, e']
      rw [valV_neg e, b]; exact ih
theorem KV.any {kvs : List (κ × V)} {vs : List (κ × Value)} (r : KV kvs vs) (k : κ) : (kvs.any fun kv => decide (kv.1 = k)) = vs.any fun kv => decide (kv.1 = k) := by
  unfold KV at r
  induction r with
  | nil => rfl
  | cons h t ih => rw [List.any_cons, List.any_cons, ih, h.1]
theorem KV.repl {kvs : List (κ × V)} {vs : List (κ × Value)} (r : KV kvs vs) (k : κ) {y : V} {u : Value} (ry : RelV y u) :
    KV (kvs.map fun kv => if kv.1 = k then (kv.1, y) else kv) (vs.map fun kv => if kv.1 = k then (kv.1, u) else kv) := by
  unfold KV at r ⊢
  induction r with
  | nil => exact .nil
  | @cons p q ps qs h t ih =>
    rw [List.map_cons, List.map_cons]
    refine .cons ?_ ih
    obtain ⟨h1, h2⟩ := h
    by_cases e : p.1 = k
    · rw [if_pos e, if_pos (h1.symm.trans e)]; exact ⟨h1, ry⟩
    · rw [if_neg e, if_neg (fun z => e (h1.trans z))]; exact ⟨h1, h2⟩
theorem KV.put {kvs : List (κ × V)} {vs : List (κ × Value)} (r : KV kvs vs) (k : κ) {y : V} {u : Value} (ry : RelV y u) : KV (putK kvs k y) (stored vs k u) := by
  unfold putK stored
  rw [r.any k]
  by_cases e : (vs.any fun kv => decide (kv.1 = k)) = true
  · rw [if_pos e, if_pos e]; exact r.repl k ry
  · rw [if_neg e, if_neg e]; exact Paired.snoc r ⟨rfl, ry⟩
theorem KV.drop {kvs : List (κ × V)} {vs : List (κ × Value)} (r : KV kvs vs) (k : κ) : KV (dropK kvs k) (without vs k) := by
  unfold KV at r ⊢
  unfold dropK without
  induction r with
  | nil => exact .nil
  | @cons p q ps qs h t ih =>
    obtain ⟨h1, h2⟩ := h
    rw [List.filter_cons, List.filter_cons]
    by_cases e : p.1 = k
    · have a : ¬ decide (p.1 ≠ k) = true := by simp [e]
      have b : ¬ decide (q.1 ≠ k) = true := by simp [h1.symm.trans e]
      rw [if_neg a, if_neg b]; exact ih
    · have e' : ¬ q.1 = k := fun z => e (h1.trans z)
      have a : decide (p.1 ≠ k) = true := by simp [e]
      have b : decide (q.1 ≠ k) = true := by simp [e']
      rw [if_pos a, if_pos b]; exact .cons ⟨h1, h2⟩ ih
theorem KV.keys {kvs : List (κ × V)} {vs : List (κ × Value)} (r : KV kvs vs) : kvs.map (·.1) = vs.map (·.1) := by
  unfold KV at r
  induction r with
  | nil => rfl
  | cons h t ih => rw [List.map_cons, List.map_cons, ih, h.1]
theorem KV.length {kvs : List (κ × V)} {vs : List (κ × Value)} (r : KV kvs vs) : kvs.length = vs.length := Paired.length r
end


/-! ### a tracked dict, its keys ints and texts or tuples of these -/
theorem kV_is {P : Program} {w : World} {k : Key} {u : Value} (r : RelV (kV k) u) : (mixKind P w).is k u = true := by
  cases k with
  | inl i => obtain ⟨t, e⟩ := (show ∃ t, u = Value.int i t from r); subst e; exact mixKind_int P w i t
  | inr x => obtain ⟨t, e⟩ := (show ∃ t, u = Value.str x t from r); subst e; exact mixKind_str P w x t
theorem items_are {P : Program} {w : World} : ∀ {ks : List Key} {us : List Value}, Vals (ks.map kV) us → ItemsAre (mixKind P w) ks us
  | [], _, r => by rw [List.map_nil] at r; cases r; exact .nil
  | k :: ks, _, r => by
    rw [List.map_cons] at r
    cases r with
    | cons h t => exact .cons (kV_is h) (items_are t)

/-- raw entries of a dict with tuple keys -/
abbrev KT (H : Hp) : List (List Key × V) → List (List Key × Addr × Value) → Prop := Paired fun p q => p.1 = q.1 ∧ H q.2.1 = some (.tup (p.1.map kV)) ∧ RelV p.2 q.2.2
theorem KT.val {H : Hp} {kvs : List (List Key × V)} {xs : List (List Key × Addr × Value)} (r : KT H kvs xs) (k : List Key) : RelO (valV kvs k) ((atKey xs k).map (·.2)) := by
  induction r with
  | nil => exact True.intro
  | @cons p q ps qs h t ih =>
    obtain ⟨h1, _, h2⟩ := h
    by_cases e : p.1 = k
    · have e' : q.1 = k := h1.symm.trans e
      have b : atKey (q :: qs) k = some q.2 := by simp [atKey, List.find?_cons, e']
      rw [valV_pos e, b]; exact h2
    · have e' : ¬ q.1 = k := fun z => e (h1.trans z)
      have b : atKey (q :: qs) k = atKey qs k := by simp [atKey, List.find?_cons, e']
      rw [valV_neg e, b]; exact ih
theorem KT.repl {H : Hp} {kvs : List (List Key × V)} {xs : List (List Key × Addr × Value)} (r : KT H kvs xs) (k : List Key) {y : V} {u : Value} (ry : RelV y u) :
    KT H (kvs.map fun kv => if kv.1 = k then (kv.1, y) else kv) (xs.map (putAt k u)) := by
  induction r with
  | nil => exact .nil
  | @cons p q ps qs h t ih =>
    rw [List.map_cons, List.map_cons]
    refine .cons ?_ ih
    obtain ⟨h1, h2, h3⟩ := h
    unfold putAt
    by_cases e : p.1 = k
    · rw [if_pos e, if_pos (h1.symm.trans e)]; exact ⟨h1, h2, ry⟩
    · rw [if_neg e, if_neg (fun z => e (h1.trans z))]; exact ⟨h1, h2, h3⟩
theorem KT.put {H : Hp} {kvs : List (List Key × V)} {xs : List (List Key × Addr × Value)} (r : KT H kvs xs) (k : List Key) {b : Addr} {y : V} {u : Value} (hb : H b = some (.tup (k.map kV))) (ry : RelV y u) :
    KT H (putK kvs k y) (storedH xs k b u) := by
  have e : (kvs.any fun kv => decide (kv.1 = k)) = (atKey xs k).isSome := by
    rw [valV_any, (r.val k).isSome_eq, Option.isSome_map]
  unfold putK storedH
  rw [e]
  by_cases q : (atKey xs k).isSome = true
  · rw [if_pos q, if_pos q]; exact r.repl k ry
  · rw [if_neg q, if_neg q]; exact Paired.snoc r ⟨rfl, hb, ry⟩
theorem KT.keeps {H H' : Hp} {kvs : List (List Key × V)} {xs : List (List Key × Addr × Value)} (r : KT H kvs xs) (ht : ∀ b ys, H b = some (.tup ys) → H' b = some (.tup ys)) : KT H' kvs xs :=
  Paired.mapP r fun _ _ z => ⟨z.1, ht _ _ z.2.1, z.2.2⟩

section
variable {P : Program} {w : World} {H : Hp} {h : Heap} {a : Addr}
theorem rd_of {u : HO} (ok : HOk P w H h) (e : Rd H a u) : ObjOk P w H h a u := e.ok ok
theorem dk_rd {kvs : List (Key × V)} (ok : HOk P w H h) (e : Rd H a (.dK kvs)) : kvs.length ≤ sizeLine ∧ (a == sysModules) = false ∧ ∃ vs, KV kvs vs ∧ h.DictOf (mixKind P w) a vs :=
  show ObjOk P w H h a (.dK kvs) from rd_of ok e
theorem dk_of {kvs : List (Key × V)} (ok : HOk P w H h) (e : H a = some (.dK kvs)) : kvs.length ≤ sizeLine ∧ (a == sysModules) = false ∧ ∃ vs, KV kvs vs ∧ h.DictOf (mixKind P w) a vs := dk_rd ok (.inl e)
/-- a tracked tuple of ints and texts is a key -/
theorem key_of {ks : List Key} (ok : HOk P w H h) (e : H a = some (.tup (ks.map kV))) : (tupleKind (mixKind P w)).is h ks a := by
  obtain ⟨_, its, r, o, h1, h2, n, h3⟩ := (show ObjOk P w H h a (.tup (ks.map kV)) from ok a _ e)
  exact ⟨o, its.toArray, n, h1, h2, h3, by simpa using items_are r⟩
theorem dt_rd {kvs : List (List Key × V)} (ok : HOk P w H h) (e : Rd H a (.dT kvs)) : kvs.length ≤ sizeLine ∧ (a == sysModules) = false ∧
    ∃ xs, KT H kvs xs ∧ h.DictOfH (tupleKind (mixKind P w)) a xs := by
  obtain ⟨z, y, xs, r, o, es, ep, h1, h2, h3, h4, h5⟩ := (show ObjOk P w H h a (.dT kvs) from rd_of ok e)
  refine ⟨z, y, xs, r, o, es, ep, h1, h2, h3, h4, fun x hx => ?_, h5⟩
  have all : ∀ {l : List (List Key × V)} {m : List (List Key × Addr × Value)}, KT H l m → ∀ x ∈ m, (tupleKind (mixKind P w)).is h x.1 x.2.1 := by
    intro l m q
    induction q with
    | nil => intro x hx; exact nomatch hx
    | @cons p q ps qs hq t ih =>
      intro x hx
      rcases List.mem_cons.mp hx with e | hx
      · subst e
        exact key_of ok (by rw [← hq.1]; exact hq.2.1)
      · exact ih x hx
  exact all r x hx
theorem dt_of {kvs : List (List Key × V)} (ok : HOk P w H h) (e : H a = some (.dT kvs)) : kvs.length ≤ sizeLine ∧ (a == sysModules) = false ∧
    ∃ xs, KT H kvs xs ∧ h.DictOfH (tupleKind (mixKind P w)) a xs := dt_rd ok (.inl e)
end

/-- what the dict at a holds at the key y -/
def DGet (H : Hp) (a : Addr) (y : V) (r : Option V) : Prop :=
  (∃ kvs k, Rd H a (.dK kvs) ∧ y = kV k ∧ r = valV kvs k) ∨ ∃ kvs k b, Rd H a (.dT kvs) ∧ y = .ref b ∧ H b = some (.tup (k.map kV)) ∧ r = valV kvs k
/-- the heap behind a[y] = v -/
def DPut (H : Hp) (a : Addr) (y v : V) (H' : Hp) : Prop :=
  (∃ kvs k, H a = some (.dK kvs) ∧ y = kV k ∧ kvs.length < sizeLine ∧ H' = upd H a (.dK (putK kvs k v))) ∨
  ∃ kvs k b, H a = some (.dT kvs) ∧ y = .ref b ∧ H b = some (.tup (k.map kV)) ∧ kvs.length < sizeLine ∧ H' = upd H a (.dT (putK kvs k v))
theorem DGet.k {H : Hp} {a : Addr} {kvs : List (Key × V)} {k : Key} (e : H a = some (.dK kvs)) : DGet H a (kV k) (valV kvs k) := .inl ⟨kvs, k, .inl e, rfl, rfl⟩
theorem DGet.t {H : Hp} {a b : Addr} {kvs : List (List Key × V)} {k : List Key} (e : H a = some (.dT kvs)) (eb : H b = some (.tup (k.map kV))) : DGet H a (.ref b) (valV kvs k) := .inr ⟨kvs, k, b, .inl e, rfl, eb, rfl⟩
theorem DPut.k {H : Hp} {a : Addr} {kvs : List (Key × V)} {k : Key} {v : V} (e : H a = some (.dK kvs)) (hl : kvs.length < sizeLine) : DPut H a (kV k) v (upd H a (.dK (putK kvs k v))) := .inl ⟨kvs, k, e, rfl, hl, rfl⟩
theorem DPut.t {H : Hp} {a b : Addr} {kvs : List (List Key × V)} {k : List Key} {v : V} (e : H a = some (.dT kvs)) (eb : H b = some (.tup (k.map kV))) (hl : kvs.length < sizeLine) :
    DPut H a (.ref b) v (upd H a (.dT (putK kvs k v))) := .inr ⟨kvs, k, b, e, rfl, eb, hl, rfl⟩


section
variable {X : Cx} {pins : List (Addr × Obj)} {σ : St} {H : Hp} {s : Shared} {a : Addr} {y v : V} {u r : Value} {o : Option V} {A : Around} {E : Value → Shared → Prop}

theorem Inv.big (I : Inv X pins σ H s) : sysModules < s.heap.objs.size := by
  have h : mainGlobals < s.heap.objs.size := (I.mod.glob.keeps I.bk).lt
  exact Nat.lt_trans (by decide) h

/-- d[y], there -/
theorem d_getItem {Q : Value → Shared → Prop} (hu : A.units + 1 < cLine) (I : Inv X pins σ H s) (g : DGet H a y (some v)) (ry : RelV y u) (h : ∀ w' s', Inv X pins σ H s' → RelV v w' → Q w' s') :
    wpAny (model X.prog X.w) A (getItem (.ref a) u) Q E s := by
  rcases g with ⟨kvs, k, e, ey, l⟩ | ⟨kvs, k, b, e, ey, eb, l⟩
  · subst ey
    obtain ⟨z, hd, vs, rel, dd⟩ := dk_rd I.hok e
    obtain ⟨w', hw, rw'⟩ := RelO.some_of (v := v) (o := valueAt vs k) (by rw [l]; exact rel.val k)
    exact wpAny_getItem_of (kV_is ry) dd.mapOf hw (h w' _ (I.tok _) rw')
  · subst ey
    cases (show u = Value.ref b from ry)
    obtain ⟨z, hd, xs, rel, dd⟩ := dt_rd I.hok e
    obtain ⟨w', hw, rw'⟩ := RelO.some_of (v := v) (o := (atKey xs k).map (·.2)) (by rw [l]; exact rel.val k)
    obtain ⟨p, hp, hp2⟩ := Option.map_eq_some_iff.mp hw
    refine wpAny_getItem_heap (tupleKind_room_in1 hu) (key_of I.hok eb) dd hp ?_
    rw [hp2]
    exact h w' _ (I.tok _) rw'
/-- a dict's object is replaced -/
theorem d_write {h' : Heap} {t' : Nat} {ob : HO} (I : Inv X pins σ H s) (mu : Mut (H a)) (hs : Heap.SameBut a s.heap h') (he : ∃ q, h'.get? a = some q) (new : ObjOk X.prog X.w (upd H a ob) h' a ob) :
    Inv X pins σ (upd H a ob) { s with heap := h', toks := t' } :=
  I.write (x := a) (e := a) mu (.inl rfl) (fun b q hb z => (hs.2 b hb).trans z) he new
theorem dk_new {P : Program} {w : World} {H' : Hp} {h' : Heap} {kvs : List (Key × V)} {vs : List (Key × Value)} (z : kvs.length ≤ sizeLine) (hd : (a == sysModules) = false) (rel : KV kvs vs) (dd : h'.DictOf (mixKind P w) a vs) :
    ObjOk P w H' h' a (.dK kvs) := ⟨z, hd, vs, rel, dd⟩
/-- d[y] = v -/
theorem d_setItem {H' : Hp} {Q : Unit → Shared → Prop} (hu : A.units + 1 < cLine) (I : Inv X pins σ H s) (g : DPut H a y v H') (ry : RelV y u) (rv : RelV v r) (h : ∀ s', Inv X pins σ H' s' → Q () s') :
    wpAny (model X.prog X.w) A (setItem (.ref a) u r) Q E s := by
  rcases g with ⟨kvs, k, e, ey, l, eH⟩ | ⟨kvs, k, b, e, ey, eb, l, eH⟩
  · subst ey eH
    obtain ⟨z, hd, vs, rel, dd⟩ := dk_of I.hok e
    have hz : vs.length ≤ sizeLine := by rw [← rel.length]; exact z
    have hl : (putK kvs k v).length ≤ sizeLine := by have := length_putK kvs k v; omega
    refine wpAny_setItem_pairs (hsz := hz) (kV_is ry) dd fun h' dd' hs => h _ ?_
    have he : ∃ q, h'.get? a = some q := let ⟨q, _, _, hq, _⟩ := dd'; ⟨q, hq⟩
    exact d_write I (by rw [e]; exact True.intro) hs he (dk_new hl hd (rel.put k rv) dd')
  · subst ey eH
    cases (show u = Value.ref b from ry)
    obtain ⟨z, hd, xs, rel, dd⟩ := dt_of I.hok e
    have hz : xs.length ≤ sizeLine := by rw [← Paired.length rel]; exact z
    have hl : (putK kvs k v).length ≤ sizeLine := by have := length_putK kvs k v; omega
    refine wpAny_setItem_heap (hsz := hz) (tupleKind_room_in1 hu) (key_of I.hok eb) dd fun h' dd' hs => h _ ?_
    obtain ⟨q, es, ep, hq, h2, h3, h4, _, h5⟩ := dd'
    refine d_write I (by rw [e]; exact True.intro) hs ⟨q, hq⟩ ⟨hl, hd, _, (rel.put k eb rv).keeps fun c ys ec => ?_, q, es, ep, hq, h2, h3, h4, h5⟩
    rw [upd_ne (ne_of ec e (fun z => nomatch z))]
    exact ec
end

section
variable {X : Cx} {pins : List (Addr × Obj)} {σ : St} {H : Hp} {s : Shared} {a : Addr} {kvs : List (Key × V)} {k : Key} {u : Value} {A : Around} {E : Value → Shared → Prop}
end


/-! ### readings and rules -/
/-- the element of a subscription, not a slice -/
def NoSl (i : Expr) : Prop := ∀ ov iv, subscripted i false ov iv = operate [ov, iv] (getItem ov iv)
theorem subD_of {prog : Program} {w : World} {A : Around} {E : Value → Shared → Prop} {s : Shared} {env : Env} {value slice : Expr} {pos : Pos} {T id : String} {Q : Value → Shared → Prop}
    (hl : typeLookup (.type T) "__getitem__" = pure (some (.builtin id))) (hs : NoSl slice)
    (h : wpAny (model prog w) A (eval value env) (fun o s₁ => wpAny (model prog w) A (eval slice env) (fun i s₂ => s₂.TypeIs o T ∧ wpAny (model prog w) A (getItem o i) Q E s₂) E s₁) E s) :
    wpAny (model prog w) A (eval (.Subscript value slice pos) env) Q E s := by
  refine Subscript_ (wpAny_mono h (fun o s₁ h₁ => wpAny_mono h₁ (fun i s₂ h₂ => ?_) fun _ _ x => x) fun _ _ x => x)
  obtain ⟨hT, h₂⟩ := h₂
  unfold subscriptTail
  refine wpAny_bind ?_
  rw [getitemInPython_of_ne hT.not_modules]
  refine wpAny_bind (wpAny_specialOf hT hl ?_)
  have fin : wpAny (model prog w) A (subscripted slice false o i) (fun r s₃ => wpAny (model prog w) A (letTemporaryGo value o r >>= fun _ => pure r) Q E s₃) E s₂ := by
    rw [hs o i]
    exact wpAny_operating (wpAny_mono h₂ (fun r s₃ h₃ => wpAny_bind (wpAny_letTemporaryGo (wpAny_pure h₃))) fun _ _ x => x)
  first
    | exact wpAny_pure (wpAny_bind fin)
    | exact wpAny_bind (wpAny_pure (wpAny_bind fin))
    | exact wpAny_bind fin

theorem dict_typeIs {X : Cx} {pins : List (Addr × Obj)} {σ : St} {H : Hp} {s : Shared} {a : Addr} {y : V} {o : Option V} (I : Inv X pins σ H s) (g : DGet H a y o) : s.TypeIs (.ref a) "dict" := by
  rcases g with ⟨kvs, k, e, _, _⟩ | ⟨kvs, k, b, e, _, _, _⟩
  · obtain ⟨_, _, vs, _, dd⟩ := dk_rd I.hok e
    exact dd.typeIs
  · obtain ⟨_, _, xs, _, dd⟩ := dt_rd I.hok e
    exact dd.typeIs

/-- d[y] -/
def tDGet (td ty : TE) : TE := fun σ H Q => td σ H fun x H1 => ty σ H1 fun y H2 => ∃ a v, x = .ref a ∧ DGet H2 a y (some v) ∧ Q v H2
/-- d[y] = v -/
def sDPut (td ty tv : TE) : TS := fun D σ H => tv σ H fun v H1 => td σ H1 fun x H2 => ty σ H2 fun y H3 => ∃ a H4, x = .ref a ∧ DPut H3 a y v H4 ∧ D.nx σ H4

section
variable {X : Cx} {o i e value : Expr} {pos pos' tpos : Pos} {td ty tv : TE}
theorem pe_dget (hu : X.A.units + 1 < cLine) (ho : PE X o td) (hi : PE X i ty) (hs : NoSl i) : PE X (.Subscript o i pos) (tDGet td ty) := by
  intro pins s σ H Q I h
  refine subD_of PySem.F.slot_dict_getitem.lookup hs (thn (ho pins s σ H _ I h) fun u s1 ⟨x, H1, I1, rx, q1⟩ => thn (hi pins s1 σ H1 _ I1 q1) fun iv s2 ⟨y, H2, I2, ry, a, v, ex, g, q2⟩ => ?_)
  subst ex
  obtain rfl : u = Value.ref a := rx
  exact ⟨dict_typeIs I2 g, d_getItem hu I2 g ry fun w' s3 I3 rw' => ⟨v, H2, I3, rw', q2⟩⟩
theorem ps_dput (hu : X.A.units + 1 < cLine) (ho : PE X o td) (hi : PE X i ty) (hv : PE X value tv) (hs : swapsWith value (some (.Subscript o i pos')) pos.line X.env = pure false) :
    PS X (.Assign [.Subscript o i pos'] value pos) (sDPut td ty tv) := by
  intro pins s σ H D I h
  refine wpAny_Assign_Subscript (thn (hv pins s σ H _ I h) fun r s1 ⟨v, H1, I1, rv, q1⟩ => thn (ho pins s1 σ H1 _ I1 q1) fun u s2 ⟨x, H2, I2, rx, q2⟩ => thn (hi pins s2 σ H2 _ I2 q2) fun iv s3 ⟨y, H3, I3, ry, a, H4, ex, g, q3⟩ => ?_) hs
  subst ex
  obtain rfl : u = Value.ref a := rx
  exact d_setItem hu I3 g ry rv fun s4 I4 => ⟨σ, H4, I4, q3⟩
end


/-! ### displays -/
theorem dk_empty {P : Program} {w : World} {H : Hp} (h : Heap) (hb : sysModules < h.objs.size) : ObjOk P w H (h.push { cls := .type "dict", data := .dict #[] }) h.objs.size (.dK []) :=
  ⟨Nat.zero_le _, beq_eq_false_iff_ne.mpr (Ne.symm (Nat.ne_of_lt hb)), [], .nil, Heap.DictOf.new h⟩
/-- {}, to be a dict of the kind that is wanted -/
def tDNewK : TE := fun _ H Q => ∀ p, H p = none → Q (.ref p) (upd H p (.dK []))
section
variable {X : Cx} {pos : Pos}
theorem pe_dnewK : PE X (.Dict [] [] pos) tDNewK := fun pins s σ H Q I h =>
  wpAny_Dict_empty ⟨.ref s.heap.objs.size, _, I.laid (a := s.heap.objs.size) (o := .dK []) (t' := s.toks) (fun _ _ q => Heap.get?_push_of_some _ q) (Nat.le_refl _) (dk_empty s.heap I.big), rfl, h _ (I.hok.fresh (Nat.le_refl _))⟩
end

abbrev VV : List (V × V) → List (Value × Value) → Prop := Paired fun p q => RelV p.1 q.1 ∧ RelV p.2 q.2



/-! ### methods -/
/-- a method call o.m(e) of a built-in, with one argument: what must be seen of the text -/
structure M1 (X : Cx) (o : Expr) (m : Str) (apos : Pos) (e : Expr) (cpos : Pos) : Prop where
  base : attributeBase o m X.env (eval o X.env) = eval o X.env
  few : ((backTo cpos (starEach [e] X.env)).all (fun x => !x.1) && (backToKw cpos (keywordEach [] X.env)).all (fun x => x.1.isSome)
    && decide (([e] : List Expr).length + ([] : List Keyword).length + (if ([] : List Keyword).isEmpty then 0 else 1) < 30)) = true
  line : (apos.endLine == cpos.line) = true
  trees : backTo cpos (starEach [e] X.env) = [(false, eval e X.env)]
structure M2 (X : Cx) (o : Expr) (m : Str) (apos : Pos) (e f : Expr) (cpos : Pos) : Prop where
  base : attributeBase o m X.env (eval o X.env) = eval o X.env
  few : ((backTo cpos (starEach [e, f] X.env)).all (fun x => !x.1) && (backToKw cpos (keywordEach [] X.env)).all (fun x => x.1.isSome)
    && decide (([e, f] : List Expr).length + ([] : List Keyword).length + (if ([] : List Keyword).isEmpty then 0 else 1) < 30)) = true
  line : (apos.endLine == cpos.line) = true
  trees : backTo cpos (starEach [e, f] X.env) = [(false, eval e X.env), (false, eval f X.env)]

/-- a is a dict, whatever its keys -/
def IsD (H : Hp) (a : Addr) : Prop := (∃ kvs, Rd H a (.dK kvs)) ∨ ∃ kvs, Rd H a (.dT kvs)
theorem isD_at {X : Cx} {pins : List (Addr × Obj)} {σ : St} {H : Hp} {s : Shared} {a : Addr} (I : Inv X pins σ H s) (d : IsD H a) :
    s.TypeIs (.ref a) "dict" ∧ (∀ b, Value.ref a = .ref b → ∃ ob, s.heap.get? b = some ob ∧ ob.dict = none) ∧ (a == sysModules) = false := by
  rcases d with ⟨kvs, e⟩ | ⟨kvs, e⟩
  · obtain ⟨_, hd, vs, _, dd⟩ := dk_rd I.hok e
    refine ⟨dd.typeIs, fun b q => ?_, hd⟩
    cases q
    obtain ⟨ob, _, _, h1, h2, _⟩ := dd
    exact ⟨ob, h1, h2.2.1⟩
  · obtain ⟨_, hd, xs, _, dd⟩ := dt_rd I.hok e
    refine ⟨dd.typeIs, fun b q => ?_, hd⟩
    cases q
    obtain ⟨ob, _, _, h1, h2, _⟩ := dd
    exact ⟨ob, h1, h2.2.1⟩

section
variable {X : Cx} {pins : List (Addr × Obj)} {σ : St} {H : Hp} {s : Shared} {a : Addr} {y d : V} {u r : Value} {o : Option V} {A : Around} {E : Value → Shared → Prop}
/-- d.get(y, x) -/
theorem d_get2 {Q : Value → Shared → Prop} (hu : A.units + 1 < cLine) (I : Inv X pins σ H s) (g : DGet H a y o) (ry : RelV y u) (rd : RelV d r) (h : ∀ w' s', Inv X pins σ H s' → RelV (o.getD d) w' → Q w' s') :
    wpAny (model X.prog X.w) A (call (.builtin "dict.get") [.ref a, u, r]) Q E s := by
  rcases g with ⟨kvs, k, e, ey, l⟩ | ⟨kvs, k, b, e, ey, eb, l⟩
  · subst ey
    obtain ⟨z, hd, vs, rel, dd⟩ := dk_rd I.hok e
    refine call_meetsIn PySem.F.slot_dict_get dd.typeIs PySem.F.entry_dict_get (PySem.F.args_dict_get_3 _ _ _) (meets_dict_get_default (mixKind X.prog X.w) a (kV_is ry) hd r) ⟨_, dd.mapOf, h _ _ (I.tok _) ?_⟩
    rw [l]
    exact (rel.val k).getD rd
  · subst ey
    cases (show u = Value.ref b from ry)
    obtain ⟨z, hd, xs, rel, dd⟩ := dt_rd I.hok e
    refine call_meetsIn PySem.F.slot_dict_get dd.typeIs PySem.F.entry_dict_get (PySem.F.args_dict_get_3 _ _ _) (meetsH_dict_get_default (tupleKind (mixKind X.prog X.w)) a b hd r) ⟨tupleKind_room_in1 hu, k, xs, key_of I.hok eb, dd, h _ _ (I.tok _) ?_⟩
    rw [l]
    exact (rel.val k).getD rd
end

def tDGet2 (td ty tx : TE) : TE := fun σ H Q => td σ H fun x H1 => ∃ a, x = .ref a ∧ IsD H1 a ∧ ty σ H1 fun y H2 => tx σ H2 fun z H3 => ∃ o, DGet H3 a y o ∧ Q (o.getD z) H3
section
variable {X : Cx} {o e f : Expr} {apos cpos : Pos} {td ty tx : TE}
theorem pe_dget2 (hu : X.A.units + 1 < cLine) (ho : PE X o td) (he : PE X e ty) (hf : PE X f tx) (m : M2 X o "get" apos e f cpos) : PE X (.Call (.Attribute o "get" apos) [e, f] [] cpos) (tDGet2 td ty tx) := by
  intro pins s σ H Q I h
  refine wpAny_Call_method m.base m.few m.line PySem.F.plainAttrs_dict PySem.F.slot_dict_get PySem.F.type_dict_get (thn (ho pins s σ H _ I h) fun u s1 ⟨x, H1, I1, rx, a, ex, d, q1⟩ => ?_)
  subst ex
  obtain rfl : u = Value.ref a := rx
  obtain ⟨t1, t2, _⟩ := isD_at I1 d
  refine ⟨t1, t2, ?_⟩
  rw [m.trees]
  refine Calls.callWith_builtin rfl (Calls.evalArgs_plain (Calls.spliced_cons (thn (he pins s1 σ H1 _ I1 q1) fun iv s2 ⟨y, H2, I2, ry, q2⟩ =>
    Calls.spliced_cons (thn (hf pins s2 σ H2 _ I2 q2) fun fv s3 ⟨z, H3, I3, rz, ov, g, q3⟩ => Calls.spliced_nil ?_))))
  exact d_get2 hu I3 g ry rz fun w' s4 I4 rw' => ⟨_, H3, I4, rw', q3⟩
end

/-! ### dict(d): a copy -/
section
variable {X : Cx} {pins : List (Addr × Obj)} {σ : St} {H : Hp} {s : Shared} {a : Addr} {kvs : List (Key × V)} {A : Around} {E : Value → Shared → Prop}
end


section
variable {X : Cx} {pins : List (Addr × Obj)} {σ : St} {H : Hp} {s : Shared} {a : Addr} {y : V} {u : Value} {A : Around} {E : Value → Shared → Prop}
end
end L2

namespace L2
open PySem PySem.Spec PyProof.Rows


section
variable {prog : Program} {w : World} {A : Around} {E : Value → Shared → Prop}


end

section
variable {X : Cx}
end
end L2

namespace L2
open PySem PySem.Spec PyProof.Rows


section
variable {X : Cx} {pins : List (Addr × Obj)} {σ : St} {H : Hp} {s : Shared} {h' : Heap}

/-! ### locking a thing while a statement runs -/
theorem Inv.lock {d : Addr} {u : HO} (I : Inv X pins σ H s) (h : H d = some u) (mu : Mut (some u)) : ∃ od, Inv X pins σ (upd H d (.frz od u)) s := by
  have x := I.hok d u h
  have ex : ∃ od, s.heap.get? d = some od := by
    cases u with
    | lst xs => obtain ⟨_, _, _, _, e⟩ := x; exact ⟨_, e⟩
    | dK kvs => obtain ⟨_, _, _, _, o, _, _, e, _⟩ := x; exact ⟨o, e⟩
    | dT kvs => obtain ⟨_, _, _, _, o, _, _, e, _⟩ := x; exact ⟨o, e⟩
    | set S n => obtain ⟨o, _, _, _, e, _⟩ := x; exact ⟨o, e⟩
    | ins C dx fs => obtain ⟨_, _, _, e, _⟩ := x; exact ⟨_, e⟩
    | ext φ => obtain ⟨_, ⟨_, e⟩, _⟩ := x; exact ⟨_, e⟩
    | _ => exact False.elim mu
  obtain ⟨od, e⟩ := ex
  have new : ObjOk X.prog X.w (upd H d (.frz od u)) s.heap d (.frz od u) := by
    refine ⟨e, x.stay (fun b v _ q => q) (fun b q => ?_) fun b xs q => ?_⟩
    · rw [upd_ne (fun z => by rw [z, h] at q; cases q; exact mu)]; exact q
    · rw [upd_ne (fun z => by rw [z, h] at q; cases q; exact mu)]; exact q
  exact ⟨od, I.write (x := d) (e := d) (t' := s.toks) (h' := s.heap) (by rw [h]; exact mu) (.inl rfl) (fun b v _ q => q) ⟨od, e⟩ new⟩
theorem Inv.nofrz {d : Addr} {u : HO} (I : Inv X pins σ H s) (h : H d = some u) (mu : Mut (some u)) : ∀ o' u', X.H_0 d ≠ some (.frz o' u') := fun o' u' e => by
  have q := I.base.frzs d o' u' e
  rw [h] at q
  cases q
  exact mu
theorem Inv.unlock {d : Addr} {od : Obj} {u : HO} (I : Inv X pins σ H s) (h : H d = some (.frz od u)) (hn : ∀ o' u', X.H_0 d ≠ some (.frz o' u')) : Inv X pins σ (upd H d u) s := by
  have neH : ∀ b o, H b = some o → (∀ o' u', o ≠ .frz o' u') → b ≠ d := fun b o e hne z => by
    rw [z, h] at e
    cases e
    exact hne _ _ rfl
  have neN : ∀ b, H b = none → b ≠ d := fun b e z => by rw [z, h] at e; cases e
  refine ⟨I.ok, I.os, I.bare, ⟨I.base.keep, I.base.slot, fun b o e n hx => ?_, I.base.there, fun b xs e => ?_, fun b o x e => ?_, fun b ps e => ?_⟩, I.loc, I.cell, ?_, fun x c e => ?_, fun p hp => ?_, fun b o e => ?_, I.len⟩
  · rw [upd_ne (neN b (I.base.free b o e n hx))]; exact I.base.free b o e n hx
  · have q := I.base.tups b xs e
    rw [upd_ne (neH b _ q (fun _ _ z => nomatch z))]; exact q
  · have q := I.base.frzs b o x e
    rw [upd_ne (fun z => by rw [z] at e; exact hn _ _ e)]; exact q
  · obtain ⟨m, q⟩ := I.base.tbls b ps e
    exact ⟨m, by rw [upd_ne (neH b _ q (fun _ _ z => nomatch z))]; exact q⟩
  · rw [upd_ne (neN _ I.free)]; exact I.free
  · rw [upd_ne (neN c (I.freeC x c e))]; exact I.freeC x c e
  · obtain ⟨e, n, r⟩ := I.pin p hp
    exact ⟨e, by rw [upd_ne (neN _ n)]; exact n, r⟩
  · by_cases hb : b = d
    · rw [hb, upd_same] at e
      cases e
      rw [hb]
      obtain ⟨_, x⟩ := I.hok d _ h
      exact x.stay (fun c v _ q => q) (fun c q => by rw [upd_ne (neH c _ q (fun _ _ z => nomatch z))]; exact q) fun c xs q => by rw [upd_ne (neH c _ q (fun _ _ z => nomatch z))]; exact q
    · rw [upd_ne hb] at e
      exact (I.hok b o e).stay (fun c v _ q => q) (fun c q => by rw [upd_ne (neH c _ q (fun _ _ z => nomatch z))]; exact q) fun c xs q => by rw [upd_ne (neH c _ q (fun _ _ z => nomatch z))]; exact q
end
/-- the statement runs while the thing at d is locked (read, not written); d and what stands there are the reading's choice -/
def tLock (t : TS) : TS := fun D σ H => ∃ d u, H d = some u ∧ Mut (some u) ∧ ∀ od, t ⟨fun σ' H' => H' d = some (.frz od u) ∧ D.nx σ' (upd H' d u), fun v H' => H' d = some (.frz od u) ∧ D.rt v (upd H' d u), fun σ' H' => H' d = some (.frz od u) ∧ D.bk σ' (upd H' d u), fun σ' H' => H' d = some (.frz od u) ∧ D.ct σ' (upd H' d u)⟩ σ (upd H d (.frz od u))
section
variable {X : Cx}
theorem ps_lock {st : Stmt} {t : TS} (h : PS X st t) : PS X st (tLock t) := by
  intro pins s σ H D I hw
  obtain ⟨d, u, hd, mu, hw⟩ := hw
  obtain ⟨od, I1⟩ := I.lock hd mu
  refine thn (h pins s σ _ _ I1 (hw od)) fun f s1 q => ?_
  cases f with
  | next => obtain ⟨σ', H', I2, e, q⟩ := q; exact ⟨σ', _, I2.unlock e (I.nofrz hd mu), q⟩
  | brk => obtain ⟨σ', H', I2, e, q⟩ := q; exact ⟨σ', _, I2.unlock e (I.nofrz hd mu), q⟩
  | cont => obtain ⟨σ', H', I2, e, q⟩ := q; exact ⟨σ', _, I2.unlock e (I.nofrz hd mu), q⟩
  | ret v => obtain ⟨x, σ', H', I2, r, e, q⟩ := q; exact ⟨x, σ', _, I2.unlock e (I.nofrz hd mu), r, q⟩

/-! ### one iterator just laid -/
theorem pi_one {tg : Expr} {pins : List (Addr × Obj)} {σ : St} {H : Hp} {s : Shared} {R : It → Hp → Prop} {J : It} {tn : Nat → Heap → Prop} {tk : Nat} (I : Inv X pins σ H s) (o : Obj)
    (T : Turn X.prog X.w X.K tg J [s.heap.objs.size] s.heap.objs.size tn) (st : tn 0 (s.heap.push o)) (q : R J H) : PIE X pins σ tg R (.ref s.heap.objs.size) { s with heap := s.heap.push o, toks := tk } := by
  refine ⟨s.heap.objs.size, [s.heap.objs.size], tn, J, H, rfl, I.kept fun b ob e => Heap.get?_push_of_some _ e, T, st, fun b hb => ?_, q⟩
  have e : b = s.heap.objs.size := by simpa using hb
  subst e
  exact I.fpOk (Nat.le_refl _) (I.hok.fresh (Nat.le_refl _))
end

/-! ### range with a step -/
/-- range(i, j, c): small bounds, n items -/
def RgC (i j c : Int) (n : Nat) : Prop := c ≠ 0 ∧ c.natAbs < 1073741824 ∧ Builtin.Range.small i j c = true ∧ Builtin.Range.rangeSize i j c = n
section
variable {X : Cx} {tg : Expr}
end

/-! ### reversed(list) -/
section
variable {X : Cx} {tg : Expr}
end

/-! ### a str -/

/-! ### a dict's keys: any dict's entries -/
section
variable {prog : Program} {w : World} {A : Around} {E : Value → Shared → Prop} {s : Shared}
theorem iter_keys {d : Addr} {o : Obj} {es : Array DictEntry} {ep : Nat} {Q : Value → Shared → Prop} (hd : (d == sysModules) = false) (ho : s.heap.get? d = some o) (hc : o.ExactDict) (hdat : o.data = .dict es ep)
    (hQ : Q (.ref s.heap.objs.size) { s with heap := s.heap.push { cls := .type "dict_keyiterator", data := .fields #[.ref d, .int 0 0, .int es.size 0, .int ep 0] } }) :
    wpAny (model prog w) A (pyIter (.ref d)) Q E s := by
  have hT : s.TypeIs (.ref d) "dict" := ⟨o, ho, hc.1⟩
  refine wpAny_pyIter_slot hT F.slot_dict_iter (wpAny_call_entry F.slot_dict_iter hT F.entry_dict_iter ?_ (F.args_dict_iter_1 _))
  unfold Builtin.«dict.__iter__»
  refine wpAny_bind ?_
  unfold Builtin.Dict.dictSlotNone
  refine wpAny_bind (wpAny_notOrdered_dict hT ?_)
  show wpAny _ _ (pure (Value.ref d)) _ _ s
  refine wpAny_pure ?_
  show wpAny _ _ (Builtin.Dict.showsAll d >>= _) _ _ s
  unfold Builtin.Dict.showsAll
  rw [if_neg (by rw [hd]; exact Bool.false_ne_true)]
  refine wpAny_bind (wpAny_pure ?_)
  refine wpAny_bind (wpAny_dictEntries ho hdat ?_)
  refine wpAny_bind (wpAny_dictEpoch ho hdat ?_)
  refine wpAny_bind (wpAny_newObj_type (wpAny_pure ⟨_, rfl, "dict_keyiterator", _, ⟨_, Heap.get?_push_size _ rfl, rfl⟩, F.slot_dict_keyiterator_next.lookup, ?_⟩))
  simpa [rawInt] using hQ
theorem next_key_item {it d : Addr} {i n ep : Nat} {od : Obj} {es : Array DictEntry} {en : DictEntry} {Q : Option Value → Shared → Prop} (hit : s.heap.IsKeyIter it d i n ep) (hod : s.heap.get? d = some od) (hdd : od.data = .dict es ep)
    (hsz : es.size = n) (hx : es[i]? = some en) (hQ : ∀ h', h'.IsKeyIter it d (i + 1) n ep → Heap.SameBut it s.heap h' → Q (some en.key) { s with heap := h' }) : wpAny (model prog w) A (pyNext (.ref it)) Q E s := by
  obtain ⟨o, ho, hc, hd⟩ := id hit
  unfold pyNext
  refine wpAny_bind (wpAny_attempt (wpAny_callSpecial?_slot (name := Str.ofString "__next__") hit.typeIs F.slot_dict_keyiterator_next
    (wpAny_call_entry F.slot_dict_keyiterator_next hit.typeIs F.entry_dict_keyiterator_next ?_ (F.args_dict_keyiterator_next_1 _))))
  refine wpAny_bind (wpAny_pure ?_)
  refine wpAny_bind ?_
  refine wpAny_bind ?_
  first | refine wpAny_bind (wpAny_typeNameOfWhole_keyiter hit.typeIs (wpAny_pure ?_)) | refine wpAny_bind (wpAny_typeNameOf_keyiter hit.typeIs (wpAny_pure ?_))
  refine wpAny_bind (wpAny_fieldsOf ho hd ?_)
  have hown : Builtin.Dict_items.ownsTuple "dict_keyiterator" = false := by decide
  simp only [hown, Bool.false_eq_true, if_false]
  show wpAny _ _ (if (Value.ref d == Value.none) = true then _ else _) _ _ s
  rw [if_neg (show ¬ ((Value.ref d == Value.none) = true) from Bool.false_ne_true)]
  refine wpAny_bind (wpAny_pure ?_)
  refine wpAny_bind (wpAny_dictEntries hod hdd ?_)
  rw [if_neg (by rw [hsz]; simp)]
  refine wpAny_bind (wpAny_pure ?_)
  refine wpAny_bind (wpAny_dictEpoch hod hdd ?_)
  rw [if_neg (by simp)]
  refine wpAny_pure ?_
  obtain ⟨hlt', hen⟩ := Array.getElem?_eq_some_iff.mp hx
  simp only [show ¬ ((i : Int) < 0) from by omega, if_false, Int.toNat_natCast, Array.getElem?_eq_getElem hlt']
  refine wpAny_bind ?_
  first | refine wpAny_bind (wpAny_typeNameOfWhole_keyiter hit.typeIs (wpAny_pure ?_)) | refine wpAny_bind (wpAny_typeNameOf_keyiter hit.typeIs (wpAny_pure ?_))
  refine wpAny_bind (wpAny_isOneOf_keyiter hit.typeIs ?_)
  show wpAny _ _ (setField (.ref it) 1 (rawInt ((i : Int) + 1)) >>= _) _ _ s
  refine wpAny_bind (wpAny_setField ho hd (by simp) ?_)
  have hit' : (s.heap.update it (Obj.mapFields (·.setIfInBounds 1 (rawInt ((i : Int) + 1))))).IsKeyIter it d (i + 1) n ep :=
    ⟨_, Heap.get?_update_self _ ho (Obj.isFreed_of_fields (Obj.data_mapFields hd _)), (Obj.cls_mapFields ..).trans hc, by rw [Obj.data_mapFields hd]; simp [rawInt]⟩
  refine wpAny_bind (wpAny_holding ?_)
  refine wpAny_bind (wpAny_isOneOf_keyiter (s := { s with heap := s.heap.update it (Obj.mapFields (·.setIfInBounds 1 (rawInt ((i : Int) + 1)))) }) hit'.typeIs ?_)
  show wpAny _ _ (pure es[i].key) _ _ _
  rw [hen]
  exact wpAny_pure (wpAny_pure ⟨_, rfl, wpAny_pure (hQ _ hit' (Heap.SameBut.update ..))⟩)
theorem next_key_end {it d : Addr} {i n ep : Nat} {od : Obj} {es : Array DictEntry} {Q : Option Value → Shared → Prop} (hh : A.handled = none) (hit : s.heap.IsKeyIter it d i n ep) (hod : s.heap.get? d = some od) (hdd : od.data = .dict es ep)
    (hsz : es.size = n) (hge : n ≤ i) (hQ : ∀ h', Heap.ExtBut it s.heap h' → Q none { s with heap := h' }) : wpAny (model prog w) A (pyNext (.ref it)) Q E s := by
  obtain ⟨o, ho, hc, hd⟩ := id hit
  unfold pyNext
  refine wpAny_bind (wpAny_attempt (wpAny_callSpecial?_slot (name := Str.ofString "__next__") hit.typeIs F.slot_dict_keyiterator_next
    (wpAny_call_entry F.slot_dict_keyiterator_next hit.typeIs F.entry_dict_keyiterator_next ?_ (F.args_dict_keyiterator_next_1 _))))
  refine wpAny_bind (wpAny_pure ?_)
  refine wpAny_bind ?_
  refine wpAny_bind ?_
  first | refine wpAny_bind (wpAny_typeNameOfWhole_keyiter hit.typeIs (wpAny_pure ?_)) | refine wpAny_bind (wpAny_typeNameOf_keyiter hit.typeIs (wpAny_pure ?_))
  refine wpAny_bind (wpAny_fieldsOf ho hd ?_)
  have hown : Builtin.Dict_items.ownsTuple "dict_keyiterator" = false := by decide
  simp only [hown, Bool.false_eq_true, if_false]
  show wpAny _ _ (if (Value.ref d == Value.none) = true then _ else _) _ _ s
  rw [if_neg (show ¬ ((Value.ref d == Value.none) = true) from Bool.false_ne_true)]
  refine wpAny_bind (wpAny_pure ?_)
  refine wpAny_bind (wpAny_dictEntries hod hdd ?_)
  rw [if_neg (by rw [hsz]; simp)]
  refine wpAny_bind (wpAny_pure ?_)
  refine wpAny_bind (wpAny_dictEpoch hod hdd ?_)
  rw [if_neg (by simp)]
  refine wpAny_pure ?_
  have hge' : es.size ≤ i := by rw [hsz]; exact hge
  simp only [show ¬ ((i : Int) < 0) from by omega, if_false, Int.toNat_natCast, Array.getElem?_eq_none hge']
  refine wpAny_bind ?_
  first | refine wpAny_bind (wpAny_typeNameOfWhole_keyiter hit.typeIs (wpAny_pure ?_)) | refine wpAny_bind (wpAny_typeNameOf_keyiter hit.typeIs (wpAny_pure ?_))
  show wpAny _ _ (setField (.ref it) 0 .none >>= _) _ _ s
  refine wpAny_bind (wpAny_setField ho hd (by simp) ?_)
  show wpAny _ _ (newExc (.type "StopIteration") [] >>= _) _ _ _
  refine wpAny_bind ?_
  simp only [newExc, newTuple]
  refine wpAny_bind (wpAny_newObj_type ?_ (by size_fits))
  refine wpAny_bind (m := firstArgMember _ _) (wpAny_of_eq (a := Value.none) (by first | rfl | (simp only [firstArgMember]; rfl)) ?_)
  refine wpAny_newObj_type ?_ (by size_fits)
  simp only [raiseNew]
  refine wpAny_bind (wpAny_handled ?_)
  rw [show A.in1.handled = none from hh]
  refine wpAny_bind (wpAny_pure (wpAny_throw ?_))
  refine wpAny_bind (wpAny_isInstance (T := "StopIteration") (b := true) ⟨_, Heap.get?_push_size _ rfl, rfl⟩ isSubtype_stop ?_)
  exact wpAny_pure (hQ _ (((Heap.SameBut.update ..).extBut.push _).push _))
end

/-! ### a locked dict -/
theorem kv_get {κ : Type} {kvs : List (κ × V)} {vs : List (κ × Value)} (h : KV kvs vs) : ∀ {i : Nat} {k : κ} {v : V}, kvs[i]? = some (k, v) → ∃ u, vs[i]? = some (k, u) ∧ RelV v u := by
  unfold KV at h
  induction h with
  | nil => intro i k v e; simp at e
  | @cons a b l₁ l₂ r t ih =>
    intro i k v e
    cases i with
    | zero =>
      simp only [List.getElem?_cons_zero, Option.some.injEq] at e
      subst e
      refine ⟨b.2, ?_, r.2⟩
      simp only [List.getElem?_cons_zero]
      exact congrArg some (Prod.ext r.1.symm rfl)
    | succ j =>
      simp only [List.getElem?_cons_succ] at e ⊢
      exact ih e
theorem paired_get {α β : Type} {G : α → β → Prop} {l₁ : List α} {l₂ : List β} (h : Paired G l₁ l₂) : ∀ {i : Nat} {a : α}, l₁[i]? = some a → ∃ b, l₂[i]? = some b ∧ G a b := by
  induction h with
  | nil => intro i a e; simp at e
  | @cons a b l₁ l₂ r t ih =>
    intro i a' e
    cases i with
    | zero =>
      simp only [List.getElem?_cons_zero, Option.some.injEq] at e
      subst e
      exact ⟨b, rfl, r⟩
    | succ j =>
      simp only [List.getElem?_cons_succ] at e ⊢
      exact ih e
theorem relV_key {k : Key} {u : Value} (h : keyIs k u = true) : RelV (kV k) u := by
  rcases keyIs_shape h with ⟨i, t, rfl, rfl⟩ | ⟨x, t, rfl, rfl⟩
  · exact ⟨t, rfl⟩
  · exact ⟨t, rfl⟩
section
variable {X : Cx} {pins : List (Addr × Obj)} {σ : St} {H : Hp} {s : Shared} {d : Addr} {o : Obj}
theorem Inv.frzK {kvs : List (Key × V)} (I : Inv X pins σ H s) (h : H d = some (.frz o (.dK kvs))) :
    (d == sysModules) = false ∧ s.heap.get? d = some o ∧ o.ExactDict ∧ ∃ (es : Array DictEntry) (ep : Nat) (vs : List (Key × Value)), o.data = .dict es ep ∧ es.size = kvs.length ∧ KV kvs vs ∧ s.heap.DictAt (mixKind X.prog X.w) d vs ep := by
  obtain ⟨hd, z, hs, vs, kv, o', es, ep, ho, hx, hdt, r⟩ := I.hok d _ h
  rw [hd] at ho
  cases ho
  refine ⟨hs, hd, hx, es, ep, vs, hdt, ?_, kv, o, es, hd, hx, hdt, r⟩
  have l1 := r.2.1.length
  have l2 : kvs.length = vs.length := Paired.length kv
  rw [Array.length_toList] at l1
  omega
/-- the same for tuple keys -/
theorem Inv.frzT {kvs : List (List Key × V)} (I : Inv X pins σ H s) (h : H d = some (.frz o (.dT kvs))) :
    (d == sysModules) = false ∧ s.heap.get? d = some o ∧ o.ExactDict ∧ ∃ (es : Array DictEntry) (ep : Nat), o.data = .dict es ep ∧ es.size = kvs.length ∧
      ∀ (i : Nat) (k : List Key) (v : V), kvs[i]? = some (k, v) → ∃ (en : DictEntry) (q : Addr), es[i]? = some en ∧ en.key = .ref q ∧ H q = some (.tup (k.map kV)) := by
  obtain ⟨hd, z, hs, xs, pr, o', es, ep, ho, hx, hdt, he, _⟩ := I.hok d _ h
  rw [hd] at ho
  cases ho
  refine ⟨hs, hd, hx, es, ep, hdt, ?_, fun i k v e => ?_⟩
  · have l1 : es.size = xs.length := size_of_entries he
    have l2 : kvs.length = xs.length := Paired.length pr
    omega
  · obtain ⟨b, hb, e1, e2, _⟩ := paired_get pr e
    have q := entry_at he i
    rw [hb] at q
    exact ⟨_, b.2.1, q, rfl, e2⟩
end

/-- the keys of the locked dict at d, in their order -/
def Itk (d : Addr) (o : Obj) (kvs : List (Key × V)) : It :=
  ⟨fun i H => H d = some (.frz o (.dK kvs)) ∧ i < kvs.length, fun i H x H' => H' = H ∧ ∃ k v, kvs[i]? = some (k, v) ∧ x = kV k, fun i H => H d = some (.frz o (.dK kvs)) ∧ kvs.length ≤ i⟩
/-- .. of tuple keys: the key's own tuple -/
def Itkt (d : Addr) (o : Obj) (kvs : List (List Key × V)) : It :=
  ⟨fun i H => H d = some (.frz o (.dT kvs)) ∧ i < kvs.length, fun i H x H' => H' = H ∧ ∃ (k : List Key) (v : V) (q : Addr), kvs[i]? = some (k, v) ∧ x = .ref q ∧ H q = some (.tup (k.map kV)), fun i H => H d = some (.frz o (.dT kvs)) ∧ kvs.length ≤ i⟩
theorem dict_ep {o : Obj} {es es' : Array DictEntry} {ep ep' : Nat} (h : o.data = .dict es ep) (h' : o.data = .dict es' ep') : es' = es ∧ ep' = ep := by
  rw [h] at h'
  cases h'
  exact ⟨rfl, rfl⟩
section
variable {P : Program} {w : World} {K : PySem.W.Frag} {tg : Expr} {d : Addr} {o : Obj} {es : Array DictEntry} {ep : Nat}
theorem turn_keys {kvs : List (Key × V)} (it : Addr) (hod : o.data = .dict es ep) : Turn P w K tg (Itk d o kvs) [it] it (fun i h => h.IsKeyIter it d i kvs.length ep) where
  mem := by simp
  obj := fun i h st b hb => by
    have e : b = it := by simpa using hb
    subst e
    obtain ⟨oi, e, c, dd⟩ := st
    exact ⟨oi, e, fun v z => by rw [dd] at z; cases z⟩
  keep := fun i h h' st k => st.at fun oi e => k it (by simp) oi e
  item := by
    intro X hP hw hK hc i pins s σ H E I hf st hg
    subst hP hw hK
    obtain ⟨hd, hi⟩ := hg
    obtain ⟨f0, f1, f2, f3, f4, f5⟩ := hf it (by simp)
    obtain ⟨hs, hgd, hx, es', ep', vs, hdt, hsz, kv, hm⟩ := I.frzK hd
    obtain ⟨rfl, rfl⟩ := dict_ep hod hdt
    obtain ⟨⟨k, v⟩, hkv⟩ : ∃ p, kvs[i]? = some p := ⟨kvs[i], List.getElem?_eq_getElem hi⟩
    obtain ⟨u, hu, ru⟩ := kv_get kv hkv
    have hl : kvs.length = vs.length := Paired.length kv
    rw [hl] at st
    refine wpAny_pyNext_dict_item st hm hu fun key h' hkey st' sb => ?_
    have I1 : Inv X pins σ H { s with heap := h' } := I.turned (t' := s.toks) (fun b ob hb e => (sb.2 b hb).trans e) f0 f1 f3 f4 f5
    obtain ⟨oi, e, c, dd⟩ := id st'
    refine ⟨key, rfl, go_of (s := { s with heap := h' }) e c dd (by decide) ⟨kV k, H, I1, relV_key (show keyIs k key = true from hkey), ⟨rfl, k, v, hkv, rfl⟩, ?_, fun b hb => (hf b hb).1⟩⟩
    show h'.IsKeyIter it d (i + 1) kvs.length _
    rw [hl]
    exact st'
  done := by
    intro X hP hw hK hc i pins s σ H E I hf st hg
    subst hP hw hK
    obtain ⟨hd, hi⟩ := hg
    obtain ⟨f0, f1, f2, f3, f4, f5⟩ := hf it (by simp)
    obtain ⟨hs, hgd, hx, es', ep', vs, hdt, hsz, kv, hm⟩ := I.frzK hd
    obtain ⟨rfl, rfl⟩ := dict_ep hod hdt
    exact next_key_end (I.ok.hd hc) st hgd hdt hsz hi fun h' eb => ⟨rfl, I.turned (t' := s.toks) (fun b ob hb e => eb b ob hb e) f0 f1 f3 f4 f5⟩
  self := fun A i s Q E st h => wpAny_pyIter_keyiter st h
theorem turn_keysT {kvs : List (List Key × V)} (it : Addr) (hod : o.data = .dict es ep) : Turn P w K tg (Itkt d o kvs) [it] it (fun i h => h.IsKeyIter it d i kvs.length ep) where
  mem := by simp
  obj := fun i h st b hb => by
    have e : b = it := by simpa using hb
    subst e
    obtain ⟨oi, e, c, dd⟩ := st
    exact ⟨oi, e, fun v z => by rw [dd] at z; cases z⟩
  keep := fun i h h' st k => st.at fun oi e => k it (by simp) oi e
  item := by
    intro X hP hw hK hc i pins s σ H E I hf st hg
    subst hP hw hK
    obtain ⟨hd, hi⟩ := hg
    obtain ⟨f0, f1, f2, f3, f4, f5⟩ := hf it (by simp)
    obtain ⟨hs, hgd, hx, es', ep', hdt, hsz, ent⟩ := I.frzT hd
    obtain ⟨rfl, rfl⟩ := dict_ep hod hdt
    obtain ⟨⟨k, v⟩, hkv⟩ : ∃ p, kvs[i]? = some p := ⟨kvs[i], List.getElem?_eq_getElem hi⟩
    obtain ⟨en, q, hen, hkey, hq⟩ := ent i k v hkv
    refine next_key_item st hgd hdt hsz hen fun h' st' sb => ?_
    have I1 : Inv X pins σ H { s with heap := h' } := I.turned (t' := s.toks) (fun b ob hb e => (sb.2 b hb).trans e) f0 f1 f3 f4 f5
    obtain ⟨oi, e, c, dd⟩ := id st'
    exact ⟨en.key, rfl, go_of (s := { s with heap := h' }) e c dd (by decide) ⟨.ref q, H, I1, hkey, ⟨rfl, k, v, q, hkv, rfl, hq⟩, st', fun b hb => (hf b hb).1⟩⟩
  done := by
    intro X hP hw hK hc i pins s σ H E I hf st hg
    subst hP hw hK
    obtain ⟨hd, hi⟩ := hg
    obtain ⟨f0, f1, f2, f3, f4, f5⟩ := hf it (by simp)
    obtain ⟨hs, hgd, hx, es', ep', hdt, hsz, ent⟩ := I.frzT hd
    obtain ⟨rfl, rfl⟩ := dict_ep hod hdt
    exact next_key_end (I.ok.hd hc) st hgd hdt hsz hi fun h' eb => ⟨rfl, I.turned (t' := s.toks) (fun b ob hb e => eb b ob hb e) f0 f1 f3 f4 f5⟩
  self := fun A i s Q E st h => by
    refine wpAny_pyIter_slot st.typeIs F.slot_dict_keyiterator_iter (wpAny_call_entry F.slot_dict_keyiterator_iter st.typeIs F.entry_dict_keyiterator_iter ?_ (F.args_dict_keyiterator_iter_1 _))
    show wpAny _ _ (ret (.ref it)) _ _ s
    exact wpAny_pure ⟨_, rfl, "dict_keyiterator", _, st.typeIs, F.slot_dict_keyiterator_next.lookup, h⟩
end

/-! ### for k in d, d.keys(), d.values(), d.items() -/
/-- the dict is locked (tLock, or by the caller) -/
def iKeys (td : TE) : TI := fun σ H R => td σ H fun x H1 => ∃ d o, x = .ref d ∧ ((∃ kvs, H1 d = some (.frz o (.dK kvs)) ∧ R (Itk d o kvs) H1) ∨ ∃ kvs, H1 d = some (.frz o (.dT kvs)) ∧ R (Itkt d o kvs) H1)
section
variable {X : Cx} {tg e : Expr} {td : TE} {apos cpos : Pos}
theorem pi_keys (he : PE X e td) : PI X tg e (iKeys td) := by
  intro pins s σ H R I h
  refine thn (he pins s σ H _ I h) fun u s1 ⟨x, H1, I1, rx, d, o, ex, q⟩ => ?_
  subst ex
  obtain rfl : u = Value.ref d := rx
  rcases q with ⟨kvs, hd, q⟩ | ⟨kvs, hd, q⟩
  · obtain ⟨hs, hgd, hx, es, ep, vs, hdt, hsz, kv, hm⟩ := I1.frzK hd
    refine iter_keys hs hgd hx hdt (pi_one (tk := s1.toks) I1 _ (turn_keys _ hdt) ⟨_, Heap.get?_push_size _ rfl, rfl, ?_⟩ q)
    rw [hsz] <;> rfl
  · obtain ⟨hs, hgd, hx, es, ep, hdt, hsz, ent⟩ := I1.frzT hd
    refine iter_keys hs hgd hx hdt (pi_one (tk := s1.toks) I1 _ (turn_keysT _ hdt) ⟨_, Heap.get?_push_size _ rfl, rfl, ?_⟩ q)
    rw [hsz] <;> rfl
end

/-! ### enumerate(list) -/
/-! ### zip(list, list) -/
end L2

section 
namespace Bits
open PySem PyProof.Rows








end Bits
end 

section 
namespace TL
open PySem PySem.Builtin PySem.Builtin.Str PySem.StrLaws

abbrev tl (x : Str) : List Nat := x.cps.toList

/-! ### the list functions -/
/-- S stands at the head of l -/
def pre (S l : List Nat) : Bool := l.take S.length == S
/-- l cut at each S from the left; k signs are still to be passed over -/
def spl (S : List Nat) : Nat → List Nat → List Nat → List (List Nat)
  | _, acc, [] => [acc]
  | 0, acc, c :: r => if pre S (c :: r) = true then acc :: spl S (S.length - 1) [] r else spl S 0 (acc ++ [c]) r
  | k + 1, acc, _ :: r => spl S k acc r
/-- what stands before the first S, and behind it -/
def par (S : List Nat) : List Nat → List Nat → Option (List Nat × List Nat)
  | _, [] => none
  | acc, c :: r => if pre S (c :: r) = true then some (acc, (c :: r).drop S.length) else par S (acc ++ [c]) r




/-! ### the model's split and partition are these -/




/-! ### computing spl and par -/


/-! ### digits -/

/-! ### words: x.split() -/
end TL
end 

namespace L2
open PySem PySem.Spec PyProof.Rows




section
variable {X : Cx} {pins : List (Addr × Obj)} {σ : St} {H : Hp} {s : Shared} {Q : VK}
end

section
variable {X : Cx}





/-! ### of a text alone -/

/-! ### of a text and a text -/

end

section
variable {X : Cx} {o e : Expr} {to te : TE}

end
end L2

namespace L2
open PySem PySem.Spec PyProof.Rows

section
variable {X : Cx}
end

/-! ### slices of a text -/
theorem IsPart.raw {v : Value} {o : Option Int} (p : IsPart v o) : ∃ l : Option (Int × Tok), v = partValue l ∧ l.map (·.1) = o := by
  cases p with
  | none => exact ⟨none, rfl, rfl⟩
  | int i t => exact ⟨some (i, t), rfl, rfl⟩


end L2

namespace Att
open PySem PySem.W PySem.Calls PyProof.Rows

/-! ### the script -/
theorem ints_of_wellAll {P : Params} {h : Heap} : ∀ (ns : List Int) (vs : List Value), WellAll P h vs (ns.map WData.int) → IntsAre vs ns := by
  intro ns
  induction ns with
  | nil =>
    intro vs w
    rw [List.map_nil] at w
    cases w
    exact .nil
  | cons n ns ih =>
    intro vs w
    rw [List.map_cons] at w
    cases w with
    | cons a b =>
      cases a
      exact .cons _ _ (ih _ b)

theorem script_of {l : OpenLaw} {n : Nat} (hn : l.most = some n) {P : Params} {h : Heap} {args : List WData} {vals : List Value}
    (hpre : l.row.toRowW.claim.pre args = true) (hwl : WellAll P h vals args) :
    ∃ a vs ns, vals = [Value.ref a] ∧ args = [WData.list (ns.map WData.int)] ∧ h.get? a = some { cls := .type "list", data := .seq vs.toArray } ∧ IntsAre vs ns ∧ ns.length ≤ n := by
  have hsh : WShape.hasAll [] args [.list .int] = true := (pre_splitW hpre).1
  have hc : l.pre.holds [] { args := args } = true := (pre_splitW hpre).2
  obtain ⟨d, r, rfl, h1, h2⟩ := hasAllW_cons hsh
  obtain rfl := hasAllW_nil h2
  obtain ⟨xs, rfl, h3⟩ := hasW_list h1
  obtain ⟨ns, rfl⟩ := items_int h3
  have hlen : ns.length ≤ n := by
    unfold OpenLaw.pre at hc
    have h4 : (WTm.not (.lt (.lit (.int (n : Int))) (.len (.arg 0)))).holds [] { args := [.list (ns.map .int)] } = true := by
      have h4 := (holds_andW hc).1
      rw [hn] at h4
      exact h4
    have h5 := condW_of h4 (w_not (w_lt w_lit (w_len_list (w_arg rfl))))
    rw [List.length_map] at h5
    refine Nat.le_of_not_lt fun q => ?_
    have q' : (n : Int) < ((ns.length : Nat) : Int) := by omega
    first
      | (rw [decide_eq_true q'] at h5; exact absurd h5 (by decide))
      | (simp at h5; omega)
  cases hwl with
  | cons w1 w2 =>
    cases w2
    cases w1 with
    | list ho hall => exact ⟨_, _, ns, rfl, rfl, ho, ints_of_wellAll ns _ hall, hlen⟩

theorem post_true (l : OpenLaw) (args : List WData) : l.row.toRowW.claim.post args (.bool true) args = true :=
  postW_of (r := l.row.toRowW) (X := (true == true))
    (show WShape.has [] (.bool true) .bool = true by first | rfl | decide | simp [WShape.has, WShape.arms, WShape.armsAll])
    (show (WTm.eq .res (.lit (.bool true))).value [] { args := args, res := some (.bool true), after := args } = some (.bool (true == true)) from w_eq_bool (w_res rfl) w_lit) rfl

/-! ### the attachment: holds_open's last premise (the goal 'hc' behind k_head) from a wpAny of the law's body -/

/-- the same from a codeAny of the CALL (for a layer whose function contracts speak of calls) -/
theorem attach_call {l : OpenLaw} {n : Nat} {q : Program} {loose : List Str} {XP : (Str → Option Value) → Heap → Prop} {YP : World → Heap → Prop} {d : DefRec}
    (hn : l.most = some n) (hdf : d.params.defaults = [])
    (call : ∀ (w : World) (s₀ s₁ : Shared) (mg mb : Str → Option Value) (fa : Addr) (o : Obj) (pm cd doc : Value) (a : Addr) (vs : List Value) (ns : List Int),
      Ground q loose [] XP w s₀ mg mb s₁.heap → YP w s₁.heap →
      s₁.heap.get? fa = some o → o.data = .func (docDef d.name d.params d.body d.scope pm cd doc) → s₁.heap.CodeRec cd d.name → mg d.name = some (.ref fa) →
      s₁.heap.get? a = some { cls := .type "list", data := .seq vs.toArray } → IntsAre vs ns → ns.length ≤ n → s₁.gens = #[] →
      codeAny (model l.prog w) callerA (.call (.ref fa) ⟨[.ref a], []⟩) (fun r s' => r = .ok (.ret (.bool true)) ∧ OldK s₁.heap s'.heap ∧ s'.os = s₁.os ∧ AllBare s'.gens) s₁) :
    WalkO q loose XP YP l.row.toRowW d [] (fun f vs => PySem.call f vs) := by
  intro w s₀ s₁ mg mb G Y fa o pm cd doc dV kV ho hd hcd hD hmg hg args vals as hpre hlay hrd hwl hlo
  obtain rfl : dV = .none := Dflts.none hD hdf
  obtain rfl : kV = .none := Dflts.noKw hD
  obtain ⟨a, vs, ns, rfl, rfl, hobj, hints, hlen⟩ := script_of hn hpre hwl
  refine enter_call (codeAny_mono (call w s₀ s₁ mg mb fa o pm cd doc a vs ns G Y ho (fd_plain hd) hcd hmg hobj hints hlen hg) fun r s' hq => ?_)
  obtain ⟨rfl, h2, h3, h4⟩ := hq
  exact ⟨.inl ⟨.bool true, .bool true, [], rfl, fun _ => rfl, .bool true, post_true l _, fun _ => ⟨List.Pairwise.nil, fun _ hm => (nomatch hm)⟩⟩, h2, h3, h4⟩


/-! ### rules over ANY heap (no ledger) from facts about the written part K: the library's own take a ledger (News) for what they write -/
section
variable {prog : Program} {w : World} {A : Around} {E : Value → Shared → Prop} {s : Shared} {K : Frag}





/-! the whole heap as the ledger: makes every rule that writes through a ledger a rule over any heap -/
def ledger (h : Heap) (L d : Addr) : List (Addr × Obj) := (List.range h.objs.size).filterMap fun a => if a = L ∨ a = d then none else (h.get? a).map fun o => (a, o)

end
end Att

namespace L2
open PySem PySem.Spec PyProof.Rows

theorem vals_ints : ∀ {vs : List Value} {ns : List Int}, IntsAre vs ns → Vals (ns.map V.int) vs
  | _, _, .nil => .nil
  | _, _, .cons n t h => .cons ⟨t, rfl⟩ (vals_ints h)

/-- nothing is tracked but the script, known to the object (or it is an object of the module) -/
def Only (H : Hp) : Prop := ∀ b, H b = none ∨ ∃ o xs, H b = some (.frz o (.lst xs))

/-- THE HEAD: the law's promise, at the heap behind the top. F, the promise of the law's def, may use that base is part of the heap (so K.In base, base.Ns mainGlobals mg stand in Mod) -/
theorem law_call {P : Program} {w : World} {K : PySem.W.Frag} {mg mb : Str → Option Value} {CX : CXT} {k : Nat} {fa a : Addr} {fd : FuncData} {x : Str} {sp : Sp} {s₁ : Shared} {vs : List Value} {ns : List Int}
    (KX : K.In s₁.heap) (hns : s₁.heap.Ns mainGlobals mg) (hb : s₁.heap.Ns builtinsNs mb) (hbb : ∀ x : Str, x ≠ "__name__" → mb x = bootBuiltins x) (hlim : s₁.heap.NoLimit) (hg : s₁.gens = #[])
    (ha : s₁.heap.get? a = some { cls := .type "list", data := .seq vs.toArray }) (hi : IntsAre vs ns) (hl : ns.length ≤ sizeLine) (hr : Room k callerA)
    (F : ∀ base : Heap, K.In base → base.Ns mainGlobals mg → FnOk P w K mg base CX k fa fd [x] sp) (hbind : ∀ (s : Shared) (u : Value), BindsTo s fd ⟨[u], []⟩ [(x, u)])
    (hsp : ∀ H : Hp, Only H → SqL K H a (ns.map V.int) → sp [.ref a] H (fun v _ => v = .bl true) fun _ _ _ => False)
    (hCX : ∀ H e s', CX [] H s₁ (fun _ _ _ => False) e s' → False) :
    codeAny (model P w) callerA (.call (.ref fa) ⟨[.ref a], []⟩) (fun r s' => r = .ok (.ret (.bool true)) ∧ OldK s₁.heap s'.heap ∧ s'.os = s₁.os ∧ AllBare s'.gens) s₁ := by
  have rv := vals_ints hi
  have lenV := hi.length
  -- from an abstract heap in which nothing but the script may be tracked
  have core : ∀ H : Hp, Only H → SqL K H a (ns.map V.int) → HOk P w H s₁.heap → (∀ b, H b ≠ none → b = a) → (H a ≠ none → K.lookup a = none) →
      codeAny (model P w) callerA (.call (.ref fa) ⟨[.ref a], []⟩) (fun r s' => r = .ok (.ret (.bool true)) ∧ OldK s₁.heap s'.heap ∧ s'.os = s₁.os ∧ AllBare s'.gens) s₁ := by
    intro H hO hS hok hA hK
    have base_of : ∀ {b : Addr} {o : Obj}, s₁.heap.get? b = some o → H b = none → (hidT s₁.heap H).get? b = some o := fun e n => hidT_get e n
    have noA : ∀ {b : Addr} {o : Obj} {es : Array DictEntry} {ep : Nat}, s₁.heap.get? b = some o → o.data = .dict es ep → H b = none := fun {b o es ep} e d => by
      cases q : H b with
      | none => rfl
      | some u =>
        have e' : b = a := hA b (by rw [q]; simp)
        subst e'
        rw [ha] at e; cases e
        have d' : Data.seq vs.toArray _ = Data.dict es ep := d
        cases d'
    have nsK : ∀ {b : Addr} {m : Str → Option Value}, s₁.heap.Ns b m → (hidT s₁.heap H).Ns b m := fun {b m} ⟨o, es, ep, e, d, r⟩ => ⟨o, es, ep, base_of e (noA e d), d, r⟩
    have hKb : K.In (hidT s₁.heap H) := fun b o e => base_of (KX b o e) (by
      cases q : H b with
      | none => rfl
      | some u =>
        have e' : b = a := hA b (by rw [q]; simp)
        subst e'
        rw [hK (by rw [q]; simp)] at e; cases e)
    have hM : Mod K mg (hidT s₁.heap H) := ⟨hKb, nsK hns, ⟨mb, nsK hb, hbb⟩, let ⟨mc, h1, h2⟩ := hlim; ⟨mc, nsK h1, h2⟩⟩
    have e0 : Env0 P w K mg (hidT s₁.heap H) callerA [] s₁ H := ⟨rfl, hM, fun b o e => of_hidT e, Nat.le_of_eq (hidT_size _ _), trivial, fun b hb => absurd (show b ∈ ([] : List Addr) from hb) (by simp), hok, .of_eq hg⟩
    refine codeAny_mono ((F _ hKb (nsK hns)).run callerA [] s₁ H ⟨[.ref a], []⟩ [.ref a] [.ref a] _ _ hr e0 (hbind s₁ (.ref a)) (.cons rfl .nil) (hsp H hO hS)) fun r s' h => ?_
    cases r with
    | error e => exact (hCX H e s' h).elim
    | ok fl =>
      cases fl with
      | next => exact False.elim h
      | brk => exact False.elim h
      | cont => exact False.elim h
      | ret u =>
        obtain ⟨v, H', os, bare, un, hok', r', q⟩ := h
        have q' : v = .bl true := q
        subst q'
        obtain rfl : u = Value.bool true := r'
        refine ⟨rfl, OldK.of_keep fun b o e => ?_, os, bare⟩
        cases q : H b with
        | none => exact un.keep b o e q (by intro z; exact absurd (show b ∈ ([] : List Addr) from z) (by simp)) (by simp)
        | some u =>
          rcases hO b with z | ⟨ob, xs, z⟩
          · rw [q] at z; cases z
          · have z2 := un.frzs b ob _ z
            obtain ⟨e1, _⟩ := hok b _ z
            obtain ⟨e2, _⟩ := hok' b _ z2
            rw [e] at e1; cases e1
            exact e2
  cases hk : K.lookup a with
  | some o =>
    -- the script is one of the module's own objects
    have e := KX a o hk
    rw [ha] at e
    cases e
    refine core (fun _ => none) (fun _ => .inl rfl) (.inr ⟨_, vs.toArray, _, hk, rfl, rfl, rfl, by rw [List.size_toArray, lenV]; exact hl, by simpa using rv⟩) (fun b u z => by have z' : (none : Option HO) = some u := z; cases z') (fun b z => absurd rfl z) fun z => absurd rfl z
  | none =>
    refine core (fun b => if b = a then some (.frz { cls := .type "list", data := .seq vs.toArray } (.lst (ns.map V.int))) else none) (fun b => ?_) (.inl (.inr ⟨{ cls := .type "list", data := .seq vs.toArray }, if_pos rfl⟩)) (fun b u z => ?_) (fun b z => ?_) fun _ => hk
    · by_cases hb : b = a
      · exact .inr ⟨_, _, if_pos hb⟩
      · exact .inl (if_neg hb)
    · by_cases hb : b = a
      · have z' := (if_pos hb).symm.trans z
        cases z'
        subst hb
        exact ⟨ha, by rw [List.length_map]; exact hl, vs, _, rv, ha⟩
      · have z' := (if_neg hb).symm.trans z
        cases z'
    · by_cases hb : b = a
      · exact hb
      · exact absurd (if_neg hb) z
end L2

namespace L2
open PySem PySem.Spec PyProof.Rows

abbrev KOf {K : PySem.W.Frag} {h : Heap} (_ : K.In h) : PySem.W.Frag := K

/-- the goal that k_head leaves (case hc), from the law's promise. F gives the function object fd (K's own) once, then the promise over every base -/
theorem walk_of {l : PySem.W.OpenLaw} {n k : Nat} {q : Program} {loose : List Str} {XP : (Str → Option Value) → Heap → Prop} {YP : World → Heap → Prop} {d : DefRec} {K : Params → PySem.W.Frag} {CX : World → CXT} {sp : World → Sp} {x : Str}
    (hn : l.most = some n) (hn2 : n ≤ sizeLine) (hdf : d.params.defaults = []) (hr : Room k callerA)
    (hY : ∀ (w : World) (h : Heap), YP w h → (K w.params).In h)
    (F : ∀ (w : World) (mg : Str → Option Value) (fa : Addr) (h : Heap), (K w.params).In h → h.Ns mainGlobals mg → mg d.name = some (.ref fa) →
      ∃ fd : FuncData, (∀ (s : Shared) (u : Value), BindsTo s fd ⟨[u], []⟩ [(x, u)]) ∧
        ∀ base : Heap, (K w.params).In base → base.Ns mainGlobals mg → FnOk l.prog w (K w.params) mg base (CX w) k fa fd [x] (sp w))
    (hsp : ∀ (w : World) (H : Hp) (a : Addr) (ns : List Int), ns.length ≤ n → Only H → SqL (K w.params) H a (ns.map V.int) → sp w [.ref a] H (fun v _ => v = .bl true) fun _ _ _ => False)
    (hCX : ∀ (w : World) (H : Hp) (s : Shared) (e : Value) (s' : Shared), CX w [] H s (fun _ _ _ => False) e s' → False) :
    PySem.W.WalkO q loose XP YP l.row.toRowW d [] (fun f vs => PySem.call f vs) := by
  refine Att.attach_call hn hdf fun w s₀ s₁ mg mb fa o pm cd doc a vs ns G Y ho hd hcd hmg hobj hints hlen hg => ?_
  have KX := hY w _ Y
  obtain ⟨fd, hb, hF⟩ := F w mg fa _ KX G.T.g hmg
  exact law_call KX G.T.g G.T.b G.T.builtins G.T.nolimit hg hobj hints (Nat.le_trans hlen hn2) hr hF hb (fun H hO hS => hsp w H a ns hlen hO hS) fun H e s' => hCX w H s₁ e s'
end L2

/- THE LAST THEOREM (shape; LID, My.* are yours):
   My.Adr: a structure of the addresses that your layer names (classes, functions); My.Txt K t: a structure (Prop) of the equations over K;
   My.txt_mk : {K} {implicit addresses ..} (e1 : nsIn K mainGlobals "law" = some (some (.ref f))) (e2 : K.lookup f = some ⟨oc, od, .func (fnOf "law" "law" params body scope dV kV doc pm an cdv ct), sl⟩) (e3 : codeIn K cdv "law" = true) .. : ∃ t, My.Txt K t

set_option maxRecDepth 100000 in
set_option maxHeartbeats 0 in
theorem PySem.Challenge.cw_LID_holds : PySem.Challenge.rw_LID.Holds := by
  w_on; o_law; k_head; (case hw => w_witness2)
  k_fill
  refine L2.walk_of (l := PySem.Challenge.rw_LID) (n := 63) (k := 40) (x := "script") (CX := fun w => ..) (sp := fun _ => My.sp_law) rfl (by decide) rfl ⟨rfl, by decide, by decide⟩ (fun w h Y => PySem.W.kIn_of Y) ?F ?S ?C
  case F =>
    intro w mg fa h KX G hmg
    have T : ∃ t, My.Txt (L2.KOf KX) t := by
      dsimp only [L2.KOf]                          -- K must stand as «<heap const> w.params» for k_is
      refine' My.txt_mk ?e1 ?e2 ?e3 ..
      (case e1 => PySem.W.k_is)                    -- in the order: a name -> its address -> its object -> its parts
      (case e2 => PySem.W.k_is)
      ..
    obtain ⟨t, T⟩ := T
    have e0 := hmg.symm.trans (PySem.W.mg_of KX G T.law)
    cases e0                                       -- fa is the law's own address
    exact ⟨_, fun s u => .of_eq rfl, fun base kb nb => My.law_fn T kb nb⟩     -- if «.of_eq rfl» comes too early: refine' ⟨_, ?b, fun base kb nb => My.law_fn T kb nb⟩; exact fun s u => .of_eq rfl
  case S => exact fun w H a ns hl hO hS => ..
  case C => exact ..
(the tactic k_is has no namespace: write k_is) -/

/-! SHORT WORDS over the layer: a def of the text, its body, what a loop and a test want. -/
namespace L2
open PySem PySem.Spec PyProof.Rows

/-! ### the text by places -/
def defArgs (s : Stmt) : Arguments := match s with
  | .FunctionDef _ a _ _ _ _ _ _ _ _ => a
  | _ => { posonlyargs := [], args := [], vararg := none, kwonlyargs := [], kw_defaults := [], kwarg := none, defaults := [] }
def defBody (s : Stmt) : List Stmt := match s with
  | .FunctionDef _ _ b _ _ _ _ _ _ _ => b
  | _ => []
def defScope (s : Stmt) : Scope := match s with
  | .FunctionDef _ _ _ _ _ _ sc _ _ _ => sc
  | _ => { kind := .function, names := [], isGenerator := false, isCoroutine := false }

/-! ### no exception leaves a def -/
abbrev CX0 : CXT := fun _ _ _ _ _ _ => False
abbrev E0 : XK := fun _ _ _ => False
theorem pass0 {X : Cx} : Passes CX0 X E0 := fun _ _ _ _ _ _ _ h => h.elim

/-! ### a def (or method) of the text as it stands behind the top -/
structure Fun (K : PySem.W.Frag) (x qual : Str) (st : Stmt) (f : Addr) (fd : FuncData) : Prop where
  ex : ∃ (oc : Value) (od : Option Addr) (kV doc pm : Value) (an : Option Addr) (cdv ct : Value) (osl : Array (Option Value)),
    fd = PySem.W.fnOf x qual (defArgs st) (defBody st) (defScope st) .none kV doc pm an cdv ct ∧ K.lookup f = some ⟨oc, od, .func fd, osl⟩ ∧ PySem.W.codeIn K cdv qual = true
  kp : PySem.W.keepIn K (.ref f) = true
section
variable {P : Program} {w : World} {K : PySem.W.Frag} {mg : Str → Option Value} {base : Heap}
/-- THE RULE for a def: its body as a term of rules, and the reading of that term -/
theorem Fun.ok {x qual : Str} {st : Stmt} {f : Addr} {fd : FuncData} {N ps : List Str} {k : Nat} {sp : Sp} (F : Fun K x qual st f fd) (S : FnScope N ps (defScope st)) (len : ∀ vs H Q E, sp vs H Q E → vs.length = ps.length)
    (hbody : ∀ (cdv : Value) (A : Around) (outer : List Env) (s : Shared) (H : Hp) (vs : List V) (Q : VK) (E : XK), Room k (A.deeper (envOfC qual (defScope st) s.heap.objs.size f cdv)) → sp vs H Q E →
      ∃ t, PSs (cxOf CX0 P w K mg base N qual (defScope st) f cdv A outer s H E).nox (defBody st) t ∧ t { nx := fun _ H' => Q .non H', rt := Q } (start N vs) H) : FnOk P w K mg base CX0 (k + 1) f fd ps sp := by
  obtain ⟨oc, od, kV, doc, pm, an, cdv, ct, osl, rfl, lk, hcd⟩ := F.ex
  refine fn_of lk hcd S len fun A outer s H vs Q E hr hsp => ?_
  obtain ⟨t, h, q⟩ := hbody cdv A outer s H vs Q E hr hsp
  exact ⟨t, h.nox, q⟩
/-- how its arguments bind (no defaults): h is «fun _ _ _ _ _ _ us hl => match us, hl with | [_, _], _ => rfl», one _ a parameter -/
theorem Fun.binds {x qual : Str} {st : Stmt} {f : Addr} {fd : FuncData} {ps : List Str} (F : Fun K x qual st f fd)
    (h : ∀ (kV doc pm : Value) (an : Option Addr) (cdv ct : Value) (us : List Value), us.length = ps.length → bindArgs (PySem.W.fnOf x qual (defArgs st) (defBody st) (defScope st) .none kV doc pm an cdv ct) ⟨us, []⟩ = pure (ps.zip us)) : Binds K fd ps [] := by
  obtain ⟨oc, od, kV, doc, pm, an, cdv, ct, osl, rfl, lk, hcd⟩ := F.ex
  exact .all (h kV doc pm an cdv ct)
theorem fun_mk {x qual : Str} {st : Stmt} {f : Addr} {oc : Value} {od an : Option Addr} {osl : Array (Option Value)} {kV doc pm cdv ct : Value} (l : K.lookup f = some ⟨oc, od, .func (PySem.W.fnOf x qual (defArgs st) (defBody st) (defScope st) .none kV doc pm an cdv ct), osl⟩)
    (c : PySem.W.codeIn K cdv qual = true) (k : PySem.W.keepIn K (.ref f) = true) : Fun K x qual st f (PySem.W.fnOf x qual (defArgs st) (defBody st) (defScope st) .none kV doc pm an cdv ct) := ⟨⟨oc, od, kV, doc, pm, an, cdv, ct, osl, rfl, l, c⟩, k⟩
end
theorem hu_of {A : Around} {k : Nat} (hr : Room k A) : A.units + 1 < cLine := Nat.lt_of_le_of_lt (Nat.add_le_add_left (by decide : 1 ≤ 64) _) hr.units
theorem small1000 {n : Nat} (h : n ≤ 1000) : n < sizeLine := Nat.lt_of_le_of_lt h (by decide)

/-! ### expressions in short: the name that stands in the i-th slot -/
section
variable {X : Cx}
theorem pv (i : Nat) {x : Str} {pos : Pos} (hN : X.N[i]? = some x := by rfl) (hv : Vis X.env.scope x := by first | exact Or.inl rfl | exact Or.inr (Or.inl rfl) | exact Or.inr (Or.inr rfl)) (hd : (x == ("__debug__" : Str)) = false := by decide)
    (hcd : (x == ("__classdict__" : Str)) = false := by decide) : PE X (.Name x pos) (tVar i) := pe_var hN hv hd hcd
end

/-! ### tests -/
theorem ite2 {c A B : Prop} [Decidable c] (h1 : c → A) (h2 : ¬ c → B) : if c then A else B := by
  by_cases h : c
  · rw [if_pos h]
    exact h1 h
  · rw [if_neg h]
    exact h2 h

/-! ### heaps -/
/-- all that was tracked is as it was -/
def Same (H H' : Hp) : Prop := ∀ b o, H b = some o → H' b = some o
theorem Same.refl (H : Hp) : Same H H := fun _ _ h => h
theorem Same.trans {H H1 H2 : Hp} (a : Same H H1) (b : Same H1 H2) : Same H H2 := fun c o h => b c o (a c o h)
theorem Same.free {H H' : Hp} (e : Same H H') {l : Addr} (h : H' l = Option.none) : H l = Option.none := by
  cases q : H l with
  | none => rfl
  | some o =>
    rw [e l o q] at h
    cases h
theorem Same.seq {K : PySem.W.Frag} {H H' : Hp} {a : Addr} {xs : List V} (e : Same H H') (h : SqL K H a xs) : SqL K H' a xs := by
  rcases h with (h | ⟨o, h⟩) | h
  · exact .inl (.inl (e _ _ h))
  · exact .inl (.inr ⟨o, e _ _ h⟩)
  · exact .inr h

/-! ### a dict's pairs: keys that differ -/
section
variable {κ : Type} [DecidableEq κ]
end
/-! ### lists -/
theorem at_of {xs : List V} {z : Int} {j : Nat} {v : V} (e : z = (j : Int)) (h : xs[j]? = some v) : atI xs z = some v := by
  rw [e]
  exact atI_nat h
/-- a new instance and its __init__ leave all that was tracked as it was -/
theorem Same.made {H H1 : Hp} {x dx C : Addr} (nx : H x = Option.none) (nd : H dx = Option.none) (k : ∀ b o, (upd (upd H dx (.own x)) x (.ins C dx [])) b = some o → b ≠ x → H1 b = some o) : Same H H1 := fun b o e =>
  k b o (by rw [upd_ne (ne_of_none e nx), upd_ne (ne_of_none e nd)]; exact e) (ne_of_none e nx)
end L2

end
section
set_option Elab.async false
set_option linter.all false
set_option maxRecDepth 100000
set_option maxHeartbeats 2000000
namespace L2
open PySem PySem.Spec PyProof.Rows
open PySem.W (WData Codec OpenSpec Well WellAll ReadsW ReadsAllW)
/-! ### an answer as data -/
mutual
/-- x stands for the datum d, lists and tuples all the way -/
inductive Dw (K : PySem.W.Frag) (H : Hp) : V → WData → Prop
  | non : Dw K H .non .none
  | bl (b : Bool) : Dw K H (.bl b) (.bool b)
  | int (i : Int) : Dw K H (.int i) (.int i)
  | str (x : Str) : Dw K H (.str x) (.str x)
  | byt (b : Array UInt8) : Dw K H (.byt b) (.bytes b.toList)
  | lst {a : Addr} {xs : List V} {ds : List WData} : SqL K H a xs → DwAll K H xs ds → Dw K H (.ref a) (.list ds)
  | tup {a : Addr} {xs : List V} {ds : List WData} : SqT K H a xs → DwAll K H xs ds → Dw K H (.ref a) (.tuple ds)
inductive DwAll (K : PySem.W.Frag) (H : Hp) : List V → List WData → Prop
  | nil : DwAll K H [] []
  | cons {v : V} {vs : List V} {d : WData} {ds : List WData} : Dw K H v d → DwAll K H vs ds → DwAll K H (v :: vs) (d :: ds)
end
theorem dw_ints {K : PySem.W.Frag} {H : Hp} : ∀ ns : List Int, DwAll K H (ns.map V.int) (ns.map WData.int)
  | [] => .nil
  | n :: r => .cons (.int n) (dw_ints r)
theorem ints_dw {K : PySem.W.Frag} {H : Hp} : ∀ (ns : List Int) (xs : List V), DwAll K H xs (ns.map WData.int) → xs = ns.map V.int
  | [], xs, h => by
    cases h
    rfl
  | n :: r, xs, h => by
    cases h with
    | cons h1 h2 =>
      cases h1
      rw [ints_dw r _ h2] <;> rfl
section
variable {P : Program} {w : World} {K : PySem.W.Frag} {H : Hp} {h : Heap} {R : PySem.W.WRecords} {cl : Str → Option Addr}
theorem sqL_at {a : Addr} {xs : List V} (hok : HOk P w H h) (KX : K.In h) (q : SqL K H a xs) : ∃ (its : List Value) (o : Obj) (n : Nat), Vals xs its ∧ h.get? a = some o ∧ o.cls = .type "list" ∧ o.data = .seq its.toArray n := by
  rcases q with q | ⟨o, its, n, e, hc, _, hd, _, hv⟩
  · obtain ⟨_, its, n, hv, e⟩ := (show ObjOk P w H h a (.lst xs) from q.ok hok)
    exact ⟨its, _, n, hv, e, rfl, rfl⟩
  · exact ⟨its.toList, o, n, hv, KX _ _ e, hc, by simp [hd]⟩
theorem sqT_at {a : Addr} {xs : List V} (hok : HOk P w H h) (KX : K.In h) (q : SqT K H a xs) : ∃ (its : List Value) (o : Obj) (n : Nat), Vals xs its ∧ h.get? a = some o ∧ o.cls = .type "tuple" ∧ o.data = .seq its.toArray n := by
  rcases q with q | ⟨o, its, n, e, hc, hd, _, hv⟩
  · obtain ⟨_, its, hv, o, e, hc, n, hd⟩ := (show ObjOk P w H h a (.tup xs) from q.ok hok)
    exact ⟨its, o, n, hv, e, hc, hd⟩
  · exact ⟨its.toList, o, n, hv, KX _ _ e, hc, by simp [hd]⟩
mutual
theorem Dw.reads (hok : HOk P w H h) (KX : K.In h) : ∀ (d : WData) (v : V) (u : Value), Dw K H v d → RelV v u → ∃ as, ReadsW R cl h u d as
  | .none, _, _, x, r => by
    cases x
    cases r
    exact ⟨_, ReadsW.none⟩
  | .bool b, _, _, x, r => by
    cases x
    cases r
    exact ⟨_, ReadsW.bool b⟩
  | .int i, _, _, x, r => by
    cases x
    obtain ⟨t, rfl⟩ := r
    exact ⟨_, ReadsW.int i t⟩
  | .str s, _, _, x, r => by
    cases x
    obtain ⟨t, rfl⟩ := r
    exact ⟨_, ReadsW.str s t⟩
  | .bytes b, _, _, x, r => by
    cases x
    obtain ⟨t, rfl⟩ := r
    exact ⟨_, ReadsW.bytes _ t⟩
  | .list ds, _, _, x, r => by
    cases x with
    | lst hs ha =>
      cases r
      obtain ⟨its, o, n, rv, ho, hc, hd⟩ := sqL_at hok KX hs
      obtain ⟨as, hr⟩ := Dw.readsAll hok KX ds _ its ha rv
      exact ⟨_, ReadsW.list ho hc hd hr⟩
  | .tuple ds, _, _, x, r => by
    cases x with
    | tup hs ha =>
      cases r
      obtain ⟨its, o, n, rv, ho, hc, hd⟩ := sqT_at hok KX hs
      obtain ⟨as, hr⟩ := Dw.readsAll hok KX ds _ its ha rv
      exact ⟨_, ReadsW.tuple ho hc hd hr⟩
  | .float _, _, _, x, _ => by cases x
  | .dict _, _, _, x, _ => by cases x
  | .bytearray _, _, _, x, _ => by cases x
  | .set _, _, _, x, _ => by cases x
  | .frozenset _, _, _, x, _ => by cases x
  | .obj _ _, _, _, x, _ => by cases x
theorem Dw.readsAll (hok : HOk P w H h) (KX : K.In h) : ∀ (ds : List WData) (vs : List V) (us : List Value), DwAll K H vs ds → Vals vs us → ∃ as, ReadsAllW R cl h us ds as
  | [], _, _, x, r => by
    cases x
    cases r
    exact ⟨_, ReadsAllW.nil⟩
  | d :: ds, _, _, x, r => by
    cases x with
    | cons h1 h2 =>
      cases r with
      | cons r1 r2 =>
        obtain ⟨as, q1⟩ := Dw.reads hok KX d _ _ h1 r1
        obtain ⟨bs, q2⟩ := Dw.readsAll hok KX ds _ _ h2 r2
        exact ⟨_, ReadsAllW.cons q1 q2⟩
end
end
/-! ### the arguments -/
mutual
/-- data that a codec tells -/
def plW : WData → Bool
  | .none => true
  | .bool _ => true
  | .int _ => true
  | .str _ => true
  | .bytes _ => true
  | .list xs => plWs xs
  | .tuple xs => plWs xs
  | _ => false
def plWs : List WData → Bool
  | [] => true
  | x :: r => plW x && plWs r
end
theorem plWs_map {α : Type} {f : α → WData} (h : ∀ a, plW (f a) = true) : ∀ l : List α, plWs (l.map f) = true
  | [] => rfl
  | x :: r => by
    show (plW (f x) && plWs (r.map f)) = true
    rw [h x, plWs_map h r] <;> rfl
theorem pl_enc : ∀ (c : Codec) (a : c.denote), plW (c.enc a) = true
  | .unit, _ => rfl
  | .bool, _ => rfl
  | .int _ _, _ => rfl
  | .nat _ _, _ => rfl
  | .u8, _ => rfl
  | .bytes _ _, _ => rfl
  | .text _ _ _ _, _ => rfl
  | .list _ _ c, a => plWs_map (fun x => pl_enc c x) a
  | .pair c d, a => by
    show (plW (c.enc a.1) && (plW (d.enc a.2) && true)) = true
    rw [pl_enc c a.1, pl_enc d a.2] <;> rfl
  | .triple c d e, a => by
    show (plW (c.enc a.1) && (plW (d.enc a.2.1) && (plW (e.enc a.2.2) && true))) = true
    rw [pl_enc c a.1, pl_enc d a.2.1, pl_enc e a.2.2] <;> rfl
  | .option c, none => rfl
  | .option c, some x => pl_enc c x
theorem pl_encAll : ∀ (cs : List Codec) (a : Codec.denoteAll cs), plWs (Codec.encAll cs a) = true
  | [], _ => rfl
  | c :: cs, a => by
    show (plW (c.enc a.1) && plWs (Codec.encAll cs a.2)) = true
    rw [pl_enc c a.1, pl_encAll cs a.2] <;> rfl
theorem weight_mem : ∀ {xs : List WData} {d : WData}, d ∈ xs → d.weight ≤ WData.weightAll xs
  | [], d, h => absurd h (by simp)
  | x :: r, d, h => by
    show d.weight ≤ x.weight + 1 + WData.weightAll r
    rcases List.mem_cons.mp h with e | m
    · rw [e]
      omega
    · have z := weight_mem m
      omega
def toV : Value → V
  | .none => .non
  | .bool b => .bl b
  | .int i _ => .int i
  | .str x _ => .str x
  | .bytes b _ => .byt b
  | .ref a => .ref a
  | _ => .non
/-- a value of the arguments, its objects among A -/
def OkU (A : List Addr) : Value → Prop
  | .none => True
  | .bool _ => True
  | .int _ _ => True
  | .str _ _ => True
  | .bytes _ _ => True
  | .ref a => a ∈ A
  | _ => False
theorem OkU.mono {A B : List Addr} (h : ∀ a ∈ A, a ∈ B) : ∀ {u : Value}, OkU A u → OkU B u := fun {u} x => by
  cases u with
  | ref a => exact h a x
  | none => trivial
  | bool b => trivial
  | int i t => trivial
  | str s t => trivial
  | bytes b t => trivial
  | _ => exact False.elim x
theorem relV_toV {A : List Addr} {u : Value} (x : OkU A u) : RelV (toV u) u := by
  cases u with
  | ref a => rfl
  | none => rfl
  | bool b => rfl
  | int i t => exact ⟨t, rfl⟩
  | str s t => exact ⟨t, rfl⟩
  | bytes b t => exact ⟨t, rfl⟩
  | _ => exact False.elim x
theorem vals_toV {A : List Addr} : ∀ {vs : List Value}, (∀ u ∈ vs, OkU A u) → Vals (vs.map toV) vs
  | [], _ => .nil
  | u :: r, h => .cons (relV_toV (h u (List.mem_cons_self ..))) (vals_toV fun x hx => h x (List.mem_cons_of_mem _ hx))
/-- an object of the arguments -/
def ArgOb (h : Heap) (A : List Addr) (a : Addr) : Prop := ∃ vs : List Value, vs.length ≤ sizeLine ∧ (∀ u ∈ vs, OkU A u) ∧
  (h.get? a = some { cls := .type "list", data := .seq vs.toArray } ∨ h.get? a = some { cls := .type "tuple", data := .seq vs.toArray })
theorem ArgOb.mono {h : Heap} {A B : List Addr} {a : Addr} (k : ∀ a ∈ A, a ∈ B) (x : ArgOb h A a) : ArgOb h B a := by
  obtain ⟨vs, h1, h2, h3⟩ := x
  exact ⟨vs, h1, fun u hu => (h2 u hu).mono k, h3⟩
theorem wellAll_len {P : Params} {h : Heap} : ∀ {vs : List Value} {ds : List WData}, WellAll P h vs ds → vs.length = ds.length
  | _, _, .nil => rfl
  | _, _, .cons _ b => by
    show _ + 1 = _ + 1
    rw [wellAll_len b]
theorem well_list {P : Params} {h : Heap} {v : Value} {ds : List WData} (x : Well P h v (.list ds)) : ∃ (a : Addr) (vs : List Value), v = .ref a ∧ h.get? a = some { cls := .type "list", data := .seq vs.toArray } ∧ WellAll P h vs ds := by
  cases x with
  | list ho hall => exact ⟨_, _, rfl, ho, hall⟩
theorem well_tuple {P : Params} {h : Heap} {v : Value} {ds : List WData} (x : Well P h v (.tuple ds)) : ∃ (a : Addr) (vs : List Value), v = .ref a ∧ h.get? a = some { cls := .type "tuple", data := .seq vs.toArray } ∧ WellAll P h vs ds := by
  cases x with
  | tuple ho hall => exact ⟨_, _, rfl, ho, hall⟩
theorem well_cons {P : Params} {h : Heap} {us : List Value} {d : WData} {ds : List WData} (x : WellAll P h us (d :: ds)) : ∃ (v : Value) (vs : List Value), us = v :: vs ∧ Well P h v d ∧ WellAll P h vs ds := by
  cases x with
  | cons a b => exact ⟨_, _, rfl, a, b⟩
theorem line_of {n : Nat} (h : n ≤ 1048576) : n ≤ sizeLine := Nat.le_trans h (by decide)
section
variable {P : Params} {h : Heap}
mutual
theorem area_one : ∀ (d : WData) (v : Value), Well P h v d → plW d = true → d.weight ≤ 1048576 → ∃ A : List Addr, OkU A v ∧ ∀ a ∈ A, ArgOb h A a
  | .none, _, x, _, _ => by
    cases x
    exact ⟨[], trivial, fun a m => absurd m (by simp)⟩
  | .bool b, _, x, _, _ => by
    cases x
    exact ⟨[], trivial, fun a m => absurd m (by simp)⟩
  | .int i, _, x, _, _ => by
    cases x
    exact ⟨[], trivial, fun a m => absurd m (by simp)⟩
  | .str s, _, x, _, _ => by
    cases x
    exact ⟨[], trivial, fun a m => absurd m (by simp)⟩
  | .bytes b, _, x, _, _ => by
    cases x
    exact ⟨[], trivial, fun a m => absurd m (by simp)⟩
  | .list ds, _, x, p, z => by
    obtain ⟨a, vs, rfl, ho, hall⟩ := well_list x
    have z2 : WData.weightAll ds ≤ 1048576 := z
    obtain ⟨A, h1, h2⟩ := area_all ds _ hall p fun d hd => Nat.le_trans (weight_mem hd) z2
    have k : ∀ b ∈ A, b ∈ a :: A := fun b hb => List.mem_cons_of_mem _ hb
    refine ⟨a :: A, List.mem_cons_self .., fun b hb => ?_⟩
    rcases List.mem_cons.mp hb with e | m
    · rw [e]
      exact ⟨vs, line_of (by rw [wellAll_len hall]; exact Nat.le_trans (PySem.W.length_le_weightAllW ds) z2), fun u hu => (h1 u hu).mono k, .inl ho⟩
    · exact (h2 b m).mono k
  | .tuple ds, _, x, p, z => by
    obtain ⟨a, vs, rfl, ho, hall⟩ := well_tuple x
    have z2 : WData.weightAll ds ≤ 1048576 := z
    obtain ⟨A, h1, h2⟩ := area_all ds _ hall p fun d hd => Nat.le_trans (weight_mem hd) z2
    have k : ∀ b ∈ A, b ∈ a :: A := fun b hb => List.mem_cons_of_mem _ hb
    refine ⟨a :: A, List.mem_cons_self .., fun b hb => ?_⟩
    rcases List.mem_cons.mp hb with e | m
    · rw [e]
      exact ⟨vs, line_of (by rw [wellAll_len hall]; exact Nat.le_trans (PySem.W.length_le_weightAllW ds) z2), fun u hu => (h1 u hu).mono k, .inr ho⟩
    · exact (h2 b m).mono k
  | .float _, _, _, p, _ => Bool.noConfusion (show false = true from p)
  | .dict _, _, _, p, _ => Bool.noConfusion (show false = true from p)
  | .bytearray _, _, _, p, _ => Bool.noConfusion (show false = true from p)
  | .set _, _, _, p, _ => Bool.noConfusion (show false = true from p)
  | .frozenset _, _, _, p, _ => Bool.noConfusion (show false = true from p)
  | .obj _ _, _, _, p, _ => Bool.noConfusion (show false = true from p)
theorem area_all : ∀ (ds : List WData) (vs : List Value), WellAll P h vs ds → plWs ds = true → (∀ d ∈ ds, d.weight ≤ 1048576) → ∃ A : List Addr, (∀ u ∈ vs, OkU A u) ∧ ∀ a ∈ A, ArgOb h A a
  | [], _, x, _, _ => by
    cases x
    exact ⟨[], fun u m => absurd m (by simp), fun a m => absurd m (by simp)⟩
  | d :: ds, _, x, p, z => by
    obtain ⟨v, vs, rfl, x1, x2⟩ := well_cons x
    have q : plW d = true ∧ plWs ds = true := Bool.and_eq_true_iff.mp p
    obtain ⟨A, a1, a2⟩ := area_one d v x1 q.1 (z d (List.mem_cons_self ..))
    obtain ⟨B, b1, b2⟩ := area_all ds vs x2 q.2 fun e he => z e (List.mem_cons_of_mem _ he)
    have kA : ∀ b ∈ A, b ∈ A ++ B := fun b hb => List.mem_append.mpr (.inl hb)
    have kB : ∀ b ∈ B, b ∈ A ++ B := fun b hb => List.mem_append.mpr (.inr hb)
    refine ⟨A ++ B, fun u hu => ?_, fun b hb => ?_⟩
    · rcases List.mem_cons.mp hu with e | m
      · rw [e]
        exact a1.mono kA
      · exact (b1 u m).mono kB
    · rcases List.mem_append.mp hb with m | m
      · exact (a2 b m).mono kA
      · exact (b2 b m).mono kB
end
end
/-- what is tracked of an argument's object -/
def hoOf (o : Obj) : Option HO := match o.data with
  | .seq vs _ => if (o.cls == Value.type "list") = true then some (.frz o (.lst (vs.toList.map toV))) else some (.frz o (.tup (vs.toList.map toV)))
  | _ => none
def argH (K : PySem.W.Frag) (h : Heap) (A : List Addr) : Hp := fun b => if b ∈ A then (if (K.lookup b).isNone = true then (h.get? b).bind hoOf else none) else none
/-- nothing is tracked but what is known to the object -/
def OnlyF (H : Hp) : Prop := ∀ b, H b = none ∨ ∃ o u, H b = some (.frz o u)
theorem hoOf_lst (vs : List Value) : hoOf { cls := .type "list", data := .seq vs.toArray } = some (.frz { cls := .type "list", data := .seq vs.toArray } (.lst (vs.map toV))) := by
  show (if (Value.type "list" == Value.type "list") = true then some (HO.frz { cls := .type "list", data := .seq vs.toArray } (.lst (vs.toArray.toList.map toV))) else some (HO.frz { cls := .type "list", data := .seq vs.toArray } (.tup (vs.toArray.toList.map toV)))) = _
  rw [if_pos (beq_self_eq_true _)]
theorem hoOf_tup (vs : List Value) : hoOf { cls := .type "tuple", data := .seq vs.toArray } = some (.frz { cls := .type "tuple", data := .seq vs.toArray } (.tup (vs.map toV))) := by
  show (if (Value.type "tuple" == Value.type "list") = true then some (HO.frz { cls := .type "tuple", data := .seq vs.toArray } (.lst (vs.toArray.toList.map toV))) else some (HO.frz { cls := .type "tuple", data := .seq vs.toArray } (.tup (vs.toArray.toList.map toV)))) = _
  rw [if_neg (by decide)]
section
variable {P : Program} {w : World} {K : PySem.W.Frag} {h : Heap} {A : List Addr}
theorem argH_at {b : Addr} {o : Obj} (hb : b ∈ A) (hk : K.lookup b = none) (e : h.get? b = some o) : argH K h A b = hoOf o := by
  unfold argH
  rw [if_pos hb, hk, if_pos (show (none : Option Obj).isNone = true from rfl), e] <;> rfl
theorem of_argH {b : Addr} {u : HO} (q : argH K h A b = some u) : b ∈ A ∧ K.lookup b = none := by
  unfold argH at q
  by_cases hb : b ∈ A
  · rw [if_pos hb] at q
    cases hk : K.lookup b with
    | none => exact ⟨hb, rfl⟩
    | some o =>
      rw [hk, if_neg (by simp)] at q
      cases q
  · rw [if_neg hb] at q
    cases q
/-- what stands tracked -/
theorem argH_is (ar : ∀ a ∈ A, ArgOb h A a) {b : Addr} {u : HO} (q : argH K h A b = some u) : K.lookup b = none ∧ ∃ vs : List Value, vs.length ≤ sizeLine ∧ (∀ u ∈ vs, OkU A u) ∧
    ((h.get? b = some { cls := .type "list", data := .seq vs.toArray } ∧ u = .frz { cls := .type "list", data := .seq vs.toArray } (.lst (vs.map toV))) ∨
     (h.get? b = some { cls := .type "tuple", data := .seq vs.toArray } ∧ u = .frz { cls := .type "tuple", data := .seq vs.toArray } (.tup (vs.map toV)))) := by
  obtain ⟨hb, hk⟩ := of_argH q
  obtain ⟨vs, h1, h2, h3⟩ := ar b hb
  refine ⟨hk, vs, h1, h2, ?_⟩
  rcases h3 with e | e
  · rw [argH_at hb hk e, hoOf_lst] at q
    exact .inl ⟨e, (Option.some.inj q).symm⟩
  · rw [argH_at hb hk e, hoOf_tup] at q
    exact .inr ⟨e, (Option.some.inj q).symm⟩
theorem argH_only (ar : ∀ a ∈ A, ArgOb h A a) : OnlyF (argH K h A) := fun b => by
  cases q : argH K h A b with
  | none => exact .inl rfl
  | some u =>
    obtain ⟨_, vs, _, _, ⟨_, e⟩ | ⟨_, e⟩⟩ := argH_is ar q
    · exact .inr ⟨_, _, by rw [e]⟩
    · exact .inr ⟨_, _, by rw [e]⟩
theorem argH_ok (ar : ∀ a ∈ A, ArgOb h A a) : HOk P w (argH K h A) h := fun b u q => by
  obtain ⟨_, vs, h1, h2, ⟨e, rfl⟩ | ⟨e, rfl⟩⟩ := argH_is ar q
  · exact ⟨e, by rw [List.length_map]; exact h1, vs, _, vals_toV h2, e⟩
  · exact ⟨e, by rw [List.length_map]; exact h1, vs, vals_toV h2, _, e, rfl, _, rfl⟩
theorem seq_inj {c c' : Value} {vs us : List Value} (e : (some { cls := c, data := .seq vs.toArray } : Option Obj) = some { cls := c', data := .seq us.toArray }) : c = c' ∧ vs = us := by
  have e1 := Option.some.inj e
  have e2 : c = c' := congrArg Obj.cls e1
  have e3 : Data.seq vs.toArray = Data.seq us.toArray := congrArg Obj.data e1
  injection e3 with e4
  refine ⟨e2, ?_⟩
  have e5 := congrArg Array.toList e4
  simpa using e5
/-- a list argument -/
theorem argL (KX : K.In h) (ar : ∀ a ∈ A, ArgOb h A a) {a : Addr} {vs : List Value} (ha : a ∈ A) (e : h.get? a = some { cls := .type "list", data := .seq vs.toArray }) : (∀ u ∈ vs, OkU A u) ∧ SqL K (argH K h A) a (vs.map toV) := by
  obtain ⟨us, h1, h2, h3⟩ := ar a ha
  have hu : us = vs := by
    rcases h3 with q | q
    · rw [e] at q
      exact (seq_inj q).2.symm
    · rw [e] at q
      exact absurd (Value.type.inj (seq_inj q).1) (by decide)
  subst hu
  refine ⟨h2, ?_⟩
  cases hk : K.lookup a with
  | none => exact .inl (.inr ⟨_, by rw [argH_at ha hk e, hoOf_lst]⟩)
  | some o =>
    have e2 := KX a o hk
    rw [e] at e2
    obtain rfl := Option.some.inj e2
    exact .inr ⟨_, us.toArray, _, hk, rfl, rfl, rfl, by rw [List.size_toArray]; exact h1, by simpa using vals_toV h2⟩
theorem argT (KX : K.In h) (ar : ∀ a ∈ A, ArgOb h A a) {a : Addr} {vs : List Value} (ha : a ∈ A) (e : h.get? a = some { cls := .type "tuple", data := .seq vs.toArray }) : (∀ u ∈ vs, OkU A u) ∧ SqT K (argH K h A) a (vs.map toV) := by
  obtain ⟨us, h1, h2, h3⟩ := ar a ha
  have hu : us = vs := by
    rcases h3 with q | q
    · rw [e] at q
      exact absurd (Value.type.inj (seq_inj q).1) (by decide)
    · rw [e] at q
      exact (seq_inj q).2.symm
  subst hu
  refine ⟨h2, ?_⟩
  cases hk : K.lookup a with
  | none => exact .inl (.inr ⟨_, by rw [argH_at ha hk e, hoOf_tup]⟩)
  | some o =>
    have e2 := KX a o hk
    rw [e] at e2
    obtain rfl := Option.some.inj e2
    exact .inr ⟨_, us.toArray, _, hk, rfl, rfl, by rw [List.size_toArray]; exact h1, by simpa using vals_toV h2⟩
mutual
theorem dw_one {Pm : Params} (KX : K.In h) (ar : ∀ a ∈ A, ArgOb h A a) : ∀ (d : WData) (v : Value), Well Pm h v d → plW d = true → OkU A v → Dw K (argH K h A) (toV v) d
  | .none, _, x, _, _ => by
    cases x
    exact .non
  | .bool b, _, x, _, _ => by
    cases x
    exact .bl b
  | .int i, _, x, _, _ => by
    cases x
    exact .int i
  | .str s, _, x, _, _ => by
    cases x
    exact .str s
  | .bytes b, _, x, _, _ => by
    cases x
    have z := Dw.byt (K := K) (H := argH K h A) b.toArray
    exact z
  | .list ds, _, x, p, hu => by
    obtain ⟨a, vs, rfl, ho, hall⟩ := well_list x
    obtain ⟨h2, hs⟩ := argL KX ar hu ho
    exact .lst hs (dw_all KX ar ds _ hall p h2)
  | .tuple ds, _, x, p, hu => by
    obtain ⟨a, vs, rfl, ho, hall⟩ := well_tuple x
    obtain ⟨h2, hs⟩ := argT KX ar hu ho
    exact .tup hs (dw_all KX ar ds _ hall p h2)
  | .float _, _, _, p, _ => Bool.noConfusion (show false = true from p)
  | .dict _, _, _, p, _ => Bool.noConfusion (show false = true from p)
  | .bytearray _, _, _, p, _ => Bool.noConfusion (show false = true from p)
  | .set _, _, _, p, _ => Bool.noConfusion (show false = true from p)
  | .frozenset _, _, _, p, _ => Bool.noConfusion (show false = true from p)
  | .obj _ _, _, _, p, _ => Bool.noConfusion (show false = true from p)
theorem dw_all {Pm : Params} (KX : K.In h) (ar : ∀ a ∈ A, ArgOb h A a) : ∀ (ds : List WData) (vs : List Value), WellAll Pm h vs ds → plWs ds = true → (∀ u ∈ vs, OkU A u) → DwAll K (argH K h A) (vs.map toV) ds
  | [], _, x, _, _ => by
    cases x
    exact .nil
  | d :: ds, _, x, p, hu => by
    obtain ⟨v, vs, rfl, x1, x2⟩ := well_cons x
    have q : plW d = true ∧ plWs ds = true := Bool.and_eq_true_iff.mp p
    exact .cons (dw_one KX ar d v x1 q.1 (hu _ (List.mem_cons_self ..))) (dw_all KX ar ds vs x2 q.2 fun u m => hu u (List.mem_cons_of_mem _ m))
end
end
/-! ### the call -/
/-! ### the row -/
theorem layable_weight {ds : List WData} (h : WData.layableAll ds = true) : ∀ d ∈ ds, d.weight ≤ 1048576 := fun d hd =>
  (PySem.W.layableW_iff.mp (List.all_eq_true.mp h d hd)).2.2
theorem encAll_len : ∀ (cs : List Codec) (a : Codec.denoteAll cs), (Codec.encAll cs a).length = cs.length
  | [], _ => rfl
  | c :: cs, a => by
    show (Codec.encAll cs a.2).length + 1 = cs.length + 1
    rw [encAll_len cs a.2]
end L2
-- rests on (row put in by the clerk, for the bench that shows a file only what it spells): KE.SpHead KE.OsShapes
end

section
set_option Elab.async false
set_option maxRecDepth 100000
namespace Ht
open PySem PySem.SetTable
/-! ### below: how many places are less -/
def rk (P : List Nat) (j : Nat) : Nat := (P.filter fun a => decide (a < j)).length
/-- a rising list: what is less, then the rest -/
theorem ris_split : ∀ {P : List Nat} (j : Nat), P.Pairwise (· < ·) → P.take (rk P j) = P.filter (fun a => decide (a < j)) ∧ P.drop (rk P j) = P.filter (fun a => !decide (a < j))
  | [], j, _ => ⟨rfl, rfl⟩
  | a :: P, j, h => by
    obtain ⟨h1, h2⟩ := List.pairwise_cons.mp h
    by_cases hj : a < j
    · obtain ⟨i1, i2⟩ := ris_split j h2
      have e : rk (a :: P) j = rk P j + 1 := by
        unfold rk
        rw [List.filter_cons_of_pos (by simpa using hj), List.length_cons]
      rw [e, List.take_succ_cons, List.drop_succ_cons, i1, i2, List.filter_cons_of_pos (by simpa using hj), List.filter_cons_of_neg (by simpa using hj)]
      exact ⟨rfl, rfl⟩
    · have hn : P.filter (fun a => decide (a < j)) = [] := by
        rw [List.filter_eq_nil_iff]
        intro y hy
        have := h1 y hy
        simp
        omega
      have hn2 : P.filter (fun a => !decide (a < j)) = P := by
        rw [List.filter_eq_self]
        intro y hy
        have := h1 y hy
        simp
        omega
      have e : rk (a :: P) j = 0 := by
        unfold rk
        rw [List.filter_cons_of_neg (by simpa using hj), hn]
        rfl
      rw [e, List.filter_cons_of_neg (by simpa using hj), hn, List.filter_cons_of_pos (by simpa using hj), hn2]
      exact ⟨rfl, rfl⟩
theorem rk_get {P : List Nat} {j : Nat} (h : P.Pairwise (· < ·)) (hj : j ∈ P) : P[rk P j]? = some j := by
  obtain ⟨e1, e2⟩ := ris_split j h
  have hm : j ∈ P.drop (rk P j) := by
    rw [e2, List.mem_filter]
    exact ⟨hj, by simp⟩
  have hp : (P.drop (rk P j)).Pairwise (· < ·) := h.sublist (List.drop_sublist _ _)
  have hle : ∀ y ∈ P.drop (rk P j), j ≤ y := fun y hy => by
    rw [e2, List.mem_filter] at hy
    simpa using hy.2
  have e3 : P[rk P j]? = (P.drop (rk P j))[0]? := by
    rw [List.getElem?_drop, Nat.add_zero]
  rw [e3]
  cases ed : P.drop (rk P j) with
  | nil => rw [ed] at hm; cases hm
  | cons a r =>
    rw [ed] at hm hp hle
    obtain ⟨q1, _⟩ := List.pairwise_cons.mp hp
    rcases List.mem_cons.mp hm with e | e
    · rw [e]
      rfl
    · have := q1 j e
      have := hle a (List.mem_cons_self ..)
      omega
/-! ### the places that are asked, one after another -/
def ad (m : Nat) (p : Probe) : Probe := if p.more > 0 then { p with j := p.j + 1, more := p.more - 1 } else { p with j := (leap m p.i p.perturb).1, more := runEnd m (leap m p.i p.perturb).1 - (leap m p.i p.perturb).1, i := (leap m p.i p.perturb).1, perturb := (leap m p.i p.perturb).2 }
def gs (m : Nat) (h : Int) : Nat → Nat × Nat
  | 0 => (bits h % (m + 1), bits h)
  | k + 1 => leap m (gs m h k).1 (gs m h k).2
def gp (m : Nat) (g : Nat × Nat) : Probe := { j := g.1, more := runEnd m g.1 - g.1, i := g.1, perturb := g.2, dummy := none }
def pr (m : Nat) (h : Int) : Nat → Probe
  | 0 => gp m (gs m h 0)
  | n + 1 => ad m (pr m h n)
def sq (m : Nat) (h : Int) (n : Nat) : Nat := (pr m h n).j
/-- from one place to the next, once the rest of the hash is used up -/
def nx (m i : Nat) : Nat := (i * 5 + 1) % (m + 1)
def it (m : Nat) : Nat → Nat → Nat
  | 0, i => i
  | k + 1, i => it m k (nx m i)
def Msk (m : Nat) : Prop := m = 7 ∨ m = 31 ∨ m = 127 ∨ m = 511
/-! ### asked in a table -/
/-- the first place of the way that is free -/
structure Fst (m : Nat) (h : Int) (P : List Nat) (N : Nat) : Prop where
  out : ¬ sq m h N ∈ P
  ins : ∀ n, n < N → sq m h n ∈ P
theorem len_le_of_sub {α : Type} [DecidableEq α] {l l' : List α} (h : l.Nodup) (h' : l'.Nodup) (hs : ∀ x, x ∈ l → x ∈ l') : l.length ≤ l'.length := by
  have e : l.Perm (l'.filter fun x => decide (x ∈ l)) := (List.perm_ext_iff_of_nodup h (h'.filter _)).mpr fun x => by
    rw [List.mem_filter, decide_eq_true_eq]
    exact ⟨fun q => ⟨hs x q, q⟩, fun q => q.2⟩
  rw [e.length_eq]
  exact List.length_filter_le _ _
theorem ris_nodup {P : List Nat} (h : P.Pairwise (· < ·)) : P.Nodup := h.imp fun q => Nat.ne_of_lt q
def Reach (m : Nat) (h : Int) (P : List Nat) (j : Nat) : Prop := ∃ n, sq m h n = j ∧ ∀ n', n' < n → sq m h n' ∈ P
theorem Reach.mono {m : Nat} {h : Int} {P P' : List Nat} {j : Nat} (r : Reach m h P j) (hs : ∀ x, x ∈ P → x ∈ P') : Reach m h P' j := by
  obtain ⟨n, e, q⟩ := r
  exact ⟨n, e, fun n' hn => hs _ (q n' hn)⟩
/-- a place that is taken and reached lies ahead of the first free one -/
theorem Reach.before {m : Nat} {h : Int} {P : List Nat} {j N : Nat} (r : Reach m h P j) (hj : j ∈ P) (F : Fst m h P N) : ∃ n, n < N ∧ sq m h n = j := by
  obtain ⟨n, e, q⟩ := r
  refine ⟨n, ?_, e⟩
  by_cases hlt : n < N
  · exact hlt
  · exfalso
    by_cases en : n = N
    · subst en
      exact F.out (e ▸ hj)
    · exact F.out (q N (by omega))
end Ht

set_option Elab.async false
set_option maxRecDepth 100000
namespace Ht
open PySem PySem.SetTable
/-! ### a table laid anew -/
def Occ (own : Array (Option Nat)) (j : Nat) : Prop := (own.getD j (some 0)).isSome = true
structure Lay (m : Nat) (hs : List Int) (own : Array (Option Nat)) (k : Nat) : Prop where
  size : own.size = m + 1
  lt : ∀ j i, own.getD j none = some i → i < k
  ex : ∀ i, i < k → ∃ j, j ≤ m ∧ own.getD j none = some i
  inj : ∀ j j' i, own.getD j none = some i → own.getD j' none = some i → j = j'
  rc : ∀ j i, own.getD j none = some i → ∃ n, sq m (hs.getD i 0) n = j ∧ ∀ n', n' < n → Occ own (sq m (hs.getD i 0) n')
/-- what stands where, by places -/
def lv (m : Nat) (own : Array (Option Nat)) : List (Nat × Nat) := (List.range (m + 1)).filterMap fun j => (own.getD j none).map (j, ·)
/-! ### a table and what it holds -/
structure Tab (t : SetTable) (es : List (Int × Value)) : Prop where
  dum : t.dummies = #[]
  msk : Msk t.mask
  len : t.place.toList.length = es.length
  ris : t.place.toList.Pairwise (· < ·)
  le : ∀ j, j ∈ t.place.toList → j ≤ t.mask
  rch : ∀ q, q ∈ t.place.toList.zip es → Reach t.mask q.2.1 t.place.toList q.1
theorem Tab.fresh (led : Bool) : Tab (.fresh 0 0 led) [] := ⟨rfl, .inl rfl, rfl, .nil, fun j hj => (by cases hj), fun q hq => (by cases hq)⟩
theorem Tab.fits {t : SetTable} {es : Array (Int × Value)} (T : Tab t es.toList) (hs : es.size ≤ t.mask) : t.fits es.size = true := by
  unfold SetTable.fits SetTable.fill
  rw [T.dum]
  have := T.len
  simp only [Array.length_toList] at this
  simp [this, hs]
end Ht

set_option Elab.async false
set_option maxRecDepth 100000
namespace Ht
open PySem PySem.SetTable
section
variable {prog : Program} {w : World} {K : Type} [DecidableEq K] {knd : KeyKind prog w K} {A : Around} {E : Value → Shared → Prop} {s : Shared}
/-- a key's entry -/
def en (knd : KeyKind prog w K) (q : List K × Addr) : Int × Value := (tupleKeyHash knd q.1, .ref q.2)
/-- whole numbers alone -/
def IO (knd : KeyKind prog w K) (ks : List K) : Prop := ∀ k, k ∈ ks → ∀ v, knd.is k v = true → ∃ (n : Int) (t : Tok), v = Value.int n t
/-- the set's object, its table, its keys with their tuples -/
structure Held (knd : KeyKind prog w K) (h : Heap) (a : Addr) (o : Obj) (es : Array (Int × Value)) (ep : Nat) (t : SetTable) (kb : List (List K × Addr)) : Prop where
  ob : h.get? a = some o
  ex : o.ExactSet
  dt : o.data = .set es ep t
  tab : Tab t es.toList
  few : es.size * 5 < t.mask * 3
  ent : es.toList = kb.map (en knd)
  ldd : t.led = !w.params.followText "set-order"
  pln : (∀ q, q ∈ kb → IO knd q.1) → t.plain = true
  key : ∀ q, q ∈ kb → IsTupleKey knd h q.1 q.2
theorem Held.size {h : Heap} {a : Addr} {o : Obj} {es : Array (Int × Value)} {ep : Nat} {t : SetTable} {kb : List (List K × Addr)} (X : Held knd h a o es ep t kb) : es.size = kb.length := by
  rw [← Array.length_toList, X.ent, List.length_map]
theorem Held.fits {h : Heap} {a : Addr} {o : Obj} {es : Array (Int × Value)} {ep : Nat} {t : SetTable} {kb : List (List K × Addr)} (X : Held knd h a o es ep t kb) : t.fits es.size = true := X.tab.fits (by have := X.few; omega)
/-- the key at the n-th place of a way -/
theorem Held.at {h : Heap} {a : Addr} {o : Obj} {es : Array (Int × Value)} {ep : Nat} {t : SetTable} {kb : List (List K × Addr)} (X : Held knd h a o es ep t kb) {j : Nat} (hj : j ∈ t.place.toList) :
    ∃ q, q ∈ kb ∧ es[rk t.place.toList j]? = some (en knd q) := by
  have e := rk_get X.tab.ris hj
  have hl : rk t.place.toList j < t.place.toList.length := (List.getElem?_eq_some_iff.mp e).1
  have hl2 : rk t.place.toList j < kb.length := by
    have := X.tab.len
    rw [X.ent, List.length_map] at this
    omega
  refine ⟨kb[rk t.place.toList j], List.getElem_mem _, ?_⟩
  rw [← Array.getElem?_toList, X.ent, List.getElem?_map, List.getElem?_eq_getElem hl2]
  rfl
/-- a key that is held stands ahead of the first free place of its way -/
theorem Held.before {h : Heap} {a : Addr} {o : Obj} {es : Array (Int × Value)} {ep : Nat} {t : SetTable} {kb : List (List K × Addr)} (X : Held knd h a o es ep t kb) {q : List K × Addr} (hq : q ∈ kb) {N : Nat}
    (F : Fst t.mask (tupleKeyHash knd q.1) t.place.toList N) : ∃ n, n < N ∧ es[rk t.place.toList (sq t.mask (tupleKeyHash knd q.1) n)]? = some (en knd q) := by
  obtain ⟨i, hi, rfl⟩ := List.mem_iff_getElem.mp hq
  have hl : i < t.place.toList.length := by
    have := X.tab.len
    rw [X.ent, List.length_map] at this
    omega
  have he : i < es.toList.length := by rw [X.ent, List.length_map]; exact hi
  have ee : es.toList[i] = en knd kb[i] := by
    have : es.toList[i]? = some (en knd kb[i]) := by rw [X.ent, List.getElem?_map, List.getElem?_eq_getElem hi]; rfl
    rw [List.getElem?_eq_getElem he] at this
    exact Option.some.inj this
  have hz : (t.place.toList[i], en knd kb[i]) ∈ t.place.toList.zip es.toList := by
    rw [← ee]
    refine List.mem_iff_getElem?.mpr ⟨i, ?_⟩
    rw [List.getElem?_zip_eq_some]
    exact ⟨List.getElem?_eq_getElem hl, List.getElem?_eq_getElem he⟩
  have hm : t.place.toList[i] ∈ t.place.toList := List.getElem_mem _
  obtain ⟨n, h1, h2⟩ := (X.tab.rch _ hz).before hm F
  refine ⟨n, h1, ?_⟩
  have e2 : sq t.mask (tupleKeyHash knd kb[i].1) n = t.place.toList[i] := h2
  rw [e2]
  have er := rk_get X.tab.ris hm
  have : rk t.place.toList t.place.toList[i] = i := by
    have h1 := (List.getElem?_eq_some_iff.mp er).1
    exact (List.getElem?_inj h1 (ris_nodup X.tab.ris)).mp (by rw [er, List.getElem?_eq_getElem hl])
  rw [this, ← Array.getElem?_toList, List.getElem?_eq_getElem he, ee]
theorem perm_back {α β : Type} (f : α → β) {l' l : List β} (p : l'.Perm l) : ∀ kb : List α, l = kb.map f → ∃ kb' : List α, kb'.Perm kb ∧ l' = kb'.map f := by
  induction p with
  | nil =>
    intro kb e
    cases kb with
    | nil => exact ⟨[], .rfl, rfl⟩
    | cons a r => cases e
  | cons x p ih =>
    intro kb e
    cases kb with
    | nil => cases e
    | cons a r =>
      obtain ⟨e1, e2⟩ := List.cons.inj e
      obtain ⟨r', p', e'⟩ := ih r e2
      exact ⟨a :: r', p'.cons a, by rw [List.map_cons, e', e1]⟩
  | swap x y l =>
    intro kb e
    cases kb with
    | nil => cases e
    | cons a r =>
      cases r with
      | nil => simp at e
      | cons c r =>
        obtain ⟨e1, e2⟩ := List.cons.inj e
        obtain ⟨e3, e4⟩ := List.cons.inj e2
        exact ⟨c :: a :: r, .swap .., by rw [List.map_cons, List.map_cons, e1, e3, e4]⟩
  | trans p q ih1 ih2 =>
    intro kb e
    obtain ⟨k1, p1, e1⟩ := ih2 kb e
    obtain ⟨k2, p2, e2⟩ := ih1 k1 e1
    exact ⟨k2, p2.trans p1, e2⟩
/-- a set whose members are tuples: these keys, each once -/
def SetT (knd : KeyKind prog w K) (h : Heap) (a : Addr) (S : List (List K)) (M : List (List K × Addr)) : Prop := S.Nodup ∧ ∃ o es ep t kb, Held knd h a o es ep t kb ∧ (kb.map (·.1)).Perm S ∧ ∀ q, q ∈ kb → q ∈ M
theorem keeps {h h' : Heap} {ks : List K} {a d : Addr} {o : Obj} {es ep t} (x : IsTupleKey knd h ks a) (ho : h.get? d = some o) (hd : o.data = .set es ep t) (hs : Heap.SameBut d h h') : IsTupleKey knd h' ks a := by
  obtain ⟨o', items, n, ho', hc, hd', hi⟩ := x
  have hne : a ≠ d := by
    rintro rfl
    obtain rfl : o' = o := Option.some.inj (ho'.symm.trans ho)
    rw [hd] at hd'
    exact nomatch hd'
  exact ⟨o', items, n, (hs.2 a hne).trans ho', hc, hd', hi⟩
end
end Ht

set_option Elab.async false
set_option maxRecDepth 100000
namespace Ht
open PySem PySem.SetTable PySem.Spec
section
variable {prog : Program} {w : World} {K : Type} [DecidableEq K] {knd : KeyKind prog w K} {A : Around} {E : Value → Shared → Prop} {s : Shared} {R : Result → Shared → Prop}
theorem SetT.ob {h : Heap} {a : Addr} {S : List (List K)} {M : List (List K × Addr)} (x : SetT knd h a S M) : ∃ o es ep t, h.get? a = some o ∧ o.data = .set es ep t := by
  obtain ⟨_, o, es, ep, t, _, X, _⟩ := x
  exact ⟨o, es, ep, t, X.ob, X.dt⟩
end
end Ht

set_option Elab.async false
set_option maxRecDepth 100000
namespace Ht
open PySem PySem.SetTable PySem.Spec
section
variable {prog : Program} {w : World} {K : Type} [DecidableEq K] {knd : KeyKind prog w K} {A : Around} {E : Value → Shared → Prop} {s : Shared}
end
end Ht

set_option Elab.async false
set_option maxRecDepth 100000
namespace Ht
open PySem PySem.SetTable PySem.Spec
/-! ### a walk over a set -/
/-- what the walk leans on -/
structure Wlk (w : World) (h : Heap) (S : Addr) (es : Array (Int × Value)) (ep : Nat) (t : SetTable) : Prop where
  ob : ∃ o, h.get? S = some o ∧ o.ExactSet ∧ o.data = .set es ep t
  fits : t.fits es.size = true
  led : t.led = !w.params.followText "set-order"
  plain : t.plain = true
  len : t.place.toList.length = es.toList.length
  ris : t.place.toList.Pairwise (· < ·)
section
variable {prog : Program} {w : World} {A : Around} {E : Value → Shared → Prop} {s : Shared} {S I : Addr} {es : Array (Int × Value)} {ep : Nat} {t : SetTable}
theorem Wlk.keep {h h' : Heap} (X : Wlk w h S es ep t) (k : ∀ o, h.get? S = some o → h'.get? S = some o) : Wlk w h' S es ep t :=
  ⟨let ⟨o, a, b⟩ := X.ob; ⟨o, k o a, b⟩, X.fits, X.led, X.plain, X.len, X.ris⟩
end
end Ht

set_option Elab.async false
set_option maxRecDepth 100000
namespace Ht
open PySem PySem.SetTable PySem.Spec PyProof.Rows PyProof.Rows.G PySem.W
/-! ### sorted(a set of tuples of whole numbers) -/
/-- a tuple of these whole numbers -/
def TupI (h : Heap) (q : List Int × Addr) : Prop := q.1 ≠ [] ∧ ∃ o items n, h.get? q.2 = some o ∧ o.cls = .type "tuple" ∧ o.data = .seq items n ∧ IntsAre items.toList q.1
theorem TupI.keep {h h' : Heap} {q : List Int × Addr} (x : TupI h q) (k : ∀ b o, h.get? b = some o → h'.get? b = some o) : TupI h' q :=
  let ⟨a, o, items, n, ho, r⟩ := x; ⟨a, o, items, n, k _ _ ho, r⟩
section
variable {prog : Program} {w : World} {A : Around} {E : Value → Shared → Prop} {s : Shared} {S : Addr} {es : Array (Int × Value)} {ep : Nat} {t : SetTable}
end
end Ht

end
namespace L2
open PySem PySem.Spec PyProof.Rows
/-! ### rules that the layer lacks: sets of tuples, any over ints, a comprehension over a range with a step -/
section
variable {X : Cx}
theorem refs_vals : ∀ {ps : List Addr} {us : List Value}, Vals (ps.map V.ref) us → us = ps.map Value.ref
  | [], us, h => by
    cases h
    rfl
  | p :: ps, us, h => by
    cases h with
    | cons r t =>
      cases r
      rw [refs_vals t]
      rfl
end
theorem RgC.four (k : Nat) (hk : k ≤ 1000) : RgC 1 ((4 * k + 1 : Nat) : Int) 4 k := by
  have e : Builtin.Range.rangeSize 1 ((4 * k + 1 : Nat) : Int) 4 = (k : Int) := by
    unfold Builtin.Range.rangeSize
    rw [if_pos (by decide)]
    by_cases h : (1 : Int) < ((4 * k + 1 : Nat) : Int)
    · rw [if_pos h]
      omega
    · rw [if_neg h]
      omega
  refine ⟨by decide, by decide, ?_, e⟩
  unfold Builtin.Range.small
  rw [e]
  have fl : ∀ z : Int, -5000 ≤ z → z ≤ 5000 → Builtin.Range.rangeFitsLong z = true := fun z h1 h2 => by
    unfold Builtin.Range.rangeFitsLong
    have e : (2 : Int) ^ 63 = 9223372036854775808 := by decide
    rw [e, Bool.and_eq_true]
    exact ⟨decide_eq_true (by omega), decide_eq_true (by omega)⟩
  rw [fl 1 (by decide) (by decide), fl _ (by omega) (by omega), fl 4 (by decide) (by decide), fl (k : Int) (by omega) (by omega), if_pos (show (4 : Int) > 0 by decide), fl _ (by omega) (by omega)]
  simp
/-! ### whole numbers of any size that is met -/
abbrev Bt (k : Nat) (a : Int) : Prop := PySem.Builtin.Int.intBits a ≤ k
def CMulB (i j : Int) : Prop := ∃ m n : Nat, Bt m i ∧ Bt n j ∧ m + n ≤ 134217728
theorem op_mulB {X : Cx} : OpR X (binaryOp .Mult) (rI CMulB fun i j => .int (i * j)) := opI fun _ _ _ _ _ _ _ ⟨_, _, h1, h2, h3⟩ q => mul_int q (PyProof.Rows.mulOk_of_bits h1 h2 h3)
theorem log_of {j : Int} {k : Nat} (h : Bt k j) (h0 : 0 < j) : j.natAbs.log2 < k := by
  have e : PySem.Builtin.Int.intBits j = j.natAbs.log2 + 1 := by
    unfold PySem.Builtin.Int.intBits
    rw [if_neg (by simp; omega)]
  have : PySem.Builtin.Int.intBits j ≤ k := h
  omega
theorem op_fdivB {X : Cx} : OpR X (binaryOp .FloorDiv) (rI (fun _ j => 0 < j ∧ Bt 9000 j) fun i j => .int (i / j)) := opI fun i j _ _ _ _ _ hc q =>
  floordiv_int (by have := hc.1; omega) (by rw [Int.fdiv_eq_ediv_of_nonneg i (by have := hc.1; omega)]; exact q) (.inl (PyProof.noPylong_of_log2 (log_of hc.2 hc.1)))
end L2
namespace L2
open PySem PySem.Spec PyProof.Rows
/-! ### sets of tuples of whole numbers, sorted -/
section
variable {X : Cx}
end
end L2
namespace L2
open PySem PySem.Spec PyProof.Rows
/-! ### sorted(xs, key=f) -/
/-- a key's call: its value, and nothing tracked is changed -/
def KeyFn (X : Cx) (σ : St) (H : Hp) (f : Addr) (as : List Addr) (g : Addr → Int) : Prop :=
  ∀ (pins : List (Addr × Obj)) (H' : Hp) (s' : Shared) (a : Addr), a ∈ as → Same H H' → Inv X pins σ H' s' →
    wpAny (model X.prog X.w) X.A.in1.in1 (call (.ref f) [.ref a]) (fun v s'' => (∃ t, v = .int (g a) t) ∧ Inv X pins σ H' s'') (fun _ _ => False) s'
theorem vals_refs : ∀ as : List Addr, Vals (as.map V.ref) (as.map Value.ref)
  | [] => .nil
  | _ :: as => .cons rfl (vals_refs as)
theorem zip_g {α : Type} (g : Addr → Int) (f : Addr → α) : ∀ as : List Addr, (as.map g).zip (as.map f) = as.map fun a => (g a, f a)
  | [] => rfl
  | a :: as => by
    rw [List.map_cons, List.map_cons, List.zip_cons_cons, zip_g g f as]
    rfl
section
variable {X : Cx} {pins : List (Addr × Obj)} {σ : St} {H : Hp} {s : Shared} {D kS : Addr} {as : List Addr} {g : Addr → Int}
theorem same_upd {H : Hp} {a : Addr} {o : HO} (h : H a = none) : Same H (upd H a o) := fun b u e => by
  rw [upd_ne (ne_of_none e h)]
  exact e
/-- the end: the sorted list is laid at D, which was pinned till now -/
theorem Inv.unpin {o : HO} {ob : Obj} {h' : Heap} {tk : Nat} (I : Inv X ((D, ob) :: pins) σ H s) (hD : X.s_0.heap.objs.size ≤ D) (np : ∀ p ∈ X.pn ++ pins, p.1 ≠ D) (ncl : ∀ v, ob.data ≠ .cell v) (k : ∀ b u, b ≠ D → s.heap.get? b = some u → h'.get? b = some u) (hd : ∃ u, h'.get? D = some u)
    (new : ObjOk X.prog X.w (upd H D o) h' D o) : Inv X pins σ (upd H D o) { s with heap := h', toks := tk } := by
  have pD := I.pin (D, ob) (List.mem_append_right _ (List.mem_cons_self ..))
  have I0 : Inv X pins σ H s := I.pins_of fun p hp => I.pin p (List.mem_append_right _ (List.mem_cons_of_mem _ hp))
  have hn : H D = none := pD.2.1
  refine I0.step (g' := s.gens) (d' := s.drawn) (ch := [D]) (fun b hb => ?_) (fun b u _ _ hc e _ => k b u (fun z => hc (by simp [z])) e) (fun b u _ _ hc e _ => ⟨u.slots, k b u (fun z => hc (by simp [z])) e⟩) (fun b u hc e n => ?_)
    (fun b u hc e => ⟨u, k b u (fun z => hc (by simp [z])) e⟩) (fun b xs e => ?_) (fun b u v e => ?_) (fun b ps e => ⟨#[], ?_⟩) (fun m hm => ?_) (fun b u e => ?_) I0.bare
  · have e : b = D := by simpa using hb
    subst e
    refine ⟨.inr hD, pD.2.2.1, fun x c hc z => ?_, np⟩
    obtain ⟨v, oc, hoc, hdc⟩ := I0.cell x c hc
    rw [z, pD.1] at hoc
    cases hoc
    exact ncl v hdc
  · rw [upd_ne (fun z => hc (by simp [z]))]
    exact n
  · rw [upd_ne (ne_of_none e hn)]
    exact e
  · rw [upd_ne (ne_of_none e hn)]
    exact e
  · rw [upd_ne (ne_of_none e hn), e]
    simp
  · obtain ⟨ol, es, ep, ho, r⟩ := hm
    exact ⟨ol, es, ep, k _ ol (fun z => pD.2.2.1 z.symm) ho, r⟩
  · by_cases hb : b = D
    · subst hb
      rw [upd_same] at e
      cases e
      exact new
    · rw [upd_ne hb] at e
      refine (I0.hok b u e).stay (fun c v hc q => k c v (fun z => ?_) q) (fun c q => by rw [upd_ne (ne_of_none q hn)]; exact q) fun c xs q => by rw [upd_ne (ne_of_none q hn)]; exact q
      subst z
      rcases hc with z | z
      · exact hb z.symm
      · rw [hn] at z
        cases z
theorem tail_key {e1 : Nat} {st : SortSt} {keys : List Value} {nk : Nat} {P : PySem.Fin → Shared → Prop} {E : Value → Shared → Prop} (I : Inv X ((D, seqObj "list" #[] e1) :: pins) σ (upd H kS (.lst ((as.map g).map V.int))) s) (hD : X.s_0.heap.objs.size ≤ D) (np : ∀ p ∈ X.pn ++ pins, p.1 ≠ D)
    (h64 : as.length < 64) (hkD : kS ≠ D) (hk0 : H kS = none) (hob : s.heap.get? kS = some { cls := .type "list", data := .seq keys.toArray nk }) (hki : IntsAre keys (as.map g)) (hp : (arrOf st).Perm (keys.toArray.zip (as.map Value.ref).toArray)) (hs : SortedTo (arrOf st) (arrOf st).size) (hf : failedOf st = none)
    (q : ∀ (H' : Hp) (as' : List Addr) (s' : Shared), Same H H' → H' D = some (.lst (as'.map V.ref)) → as'.Perm as → (as'.Pairwise fun a b => g a ≤ g b) → Inv X pins σ H' s' → P (.done (.ret .none)) s') :
    wpAny (model X.prog X.w) X.A.in1.in1 (ksk_tail D false e1 (.ref kS) st) P E s := by
  have pD := I.pin (D, seqObj "list" #[] e1) (List.mem_append_right _ (List.mem_cons_self ..))
  have hkl : keys.length = as.length := by rw [hki.length, List.length_map]
  have hz : (arrOf st).size = as.length := by rw [hp.size_eq, Array.size_zip, List.size_toArray, List.size_toArray, hkl, List.length_map, Nat.min_self]
  have hout := ksk_out (b := false) (keys := keys.toArray) (vs := as.map Value.ref) (kz := as.map g) (by simpa using hki) hp hs
  obtain ⟨ps, pp, eo, so⟩ := hout
  rw [zip_g] at pp
  obtain ⟨as', pa, ea⟩ := Ht.perm_back (fun a : Addr => (g a, Value.ref a)) pp as rfl
  have eo' : ((arrOf st).map (·.2)).toList = as'.map Value.ref := by
    have e := eo
    rw [ea, List.map_map] at e
    exact e
  have so' : as'.Pairwise fun a b => g a ≤ g b := by
    rw [ea, List.pairwise_map] at so
    exact so.imp fun z => z
  have eoA : (arrOf st).map (·.2) = (as'.map Value.ref).toArray := Array.ext' (by rw [eo'])
  unfold ksk_tail
  dsimp only
  refine wpAny_bind (listUpdate_at hob rfl (?_) (by rw [List.size_toArray, hkl, sizeLine_eq]; omega) (Nat.zero_le _))
  have I1 := I.lset (f := fun _ => #[]) (its' := []) (ys := []) (t' := s.toks) (l := kS) upd_same hob rfl .nil (Nat.zero_le _)
  rw [upd_upd] at I1
  refine wpAny_bind (wpAny_letGo (?_))
  have pD1 := I1.pin (D, seqObj "list" #[] e1) (List.mem_append_right _ (List.mem_cons_self ..))
  refine wpAny_bind (seqEpoch_at pD1.1 rfl (?_))
  refine wpAny_bind (listUpdate_at pD1.1 rfl (?_) (Nat.zero_le _) (by show ((arrOf st).map (·.2)).size ≤ _; rw [Array.size_map, hz, sizeLine_eq]; omega))
  rw [hf]
  simp only [bne_self_eq_false, Bool.false_eq_true, if_false]
  have g1 := PySem.IsL.update (l := D) (n := e1) pD1.1 fun _ => (arrOf st).map (·.2)
  have sb := Heap.SameBut.update (s.heap.update kS (Obj.mapSeq fun _ => #[])) D (Obj.mapSeq fun _ => (arrOf st).map (·.2))
  have hl : (as'.map V.ref).length ≤ sizeLine := by rw [List.length_map, pa.length_eq, sizeLine_eq]; omega
  rw [eoA] at g1 sb
  have I2 := I1.unpin (o := .lst (as'.map V.ref)) (tk := s.toks) hD np (fun v z => by cases z) (fun b u hb e => (sb.2 b hb).trans e) ⟨_, g1⟩ ⟨hl, as'.map Value.ref, _, vals_refs as', g1⟩
  refine wpAny_pure (q (upd (upd H kS (.lst [])) D (.lst (as'.map V.ref))) as' _ (fun b u e => ?_) upd_same pa so' ?_)
  · have hbD : b ≠ D := fun z => by
      have h0 := pD1.2.1
      rw [← z] at h0
      have h1 := same_upd (o := HO.lst []) hk0 b u e
      rw [h0] at h1
      cases h1
    rw [upd_ne hbD]
    exact same_upd hk0 b u e
  · rw [eoA]
    exact I2
theorem end_key {e1 : Nat} {keys : List Value} {nk : Nat} {P : PySem.Fin → Shared → Prop} {E : Value → Shared → Prop} (I : Inv X ((D, seqObj "list" #[] e1) :: pins) σ (upd H kS (.lst ((as.map g).map V.int))) s) (hD : X.s_0.heap.objs.size ≤ D) (np : ∀ p ∈ X.pn ++ pins, p.1 ≠ D)
    (h2 : 2 ≤ as.length) (h64 : as.length < 64) (hkD : kS ≠ D) (hk0 : H kS = none) (hob : s.heap.get? kS = some { cls := .type "list", data := .seq keys.toArray nk }) (hki : IntsAre keys (as.map g))
    (q : ∀ (H' : Hp) (as' : List Addr) (s' : Shared), Same H H' → H' D = some (.lst (as'.map V.ref)) → as'.Perm as → (as'.Pairwise fun a b => g a ≤ g b) → Inv X pins σ H' s' → P (.done (.ret .none)) s') :
    wpAny (model X.prog X.w) X.A.in1.in1 (ksk_end D false (as.map Value.ref).toArray e1 (.ref kS) keys.toArray) P E s := by
  have hkl : keys.length = as.length := by rw [hki.length, List.length_map]
  have hki' : IntsAre keys.toArray.toList (as.map g) := by simpa using hki
  have hzz : (keys.toArray.zip (as.map Value.ref).toArray).size = as.length := by rw [Array.size_zip, List.size_toArray, List.size_toArray, hkl, List.length_map, Nat.min_self]
  unfold ksk_end
  dsimp only
  rw [if_neg Bool.false_ne_true, if_neg Bool.false_ne_true, if_neg (show ¬ (as.map Value.ref).toArray.size < 2 by rw [List.size_toArray, List.length_map]; omega), if_neg (show ¬ (as.map Value.ref).toArray.size < 2 by rw [List.size_toArray, List.length_map]; omega), ksk_kind hki' (by rw [List.size_toArray, hkl]; exact h2)]
  refine wpAny_bind (wpAny_pure ?_)
  refine wpAny_bind (wpAny_mono (wpS_sortRuns (a₀ := keys.toArray.zip (as.map Value.ref).toArray) (st := SortSt.mk' oneType' (keys.toArray.zip (as.map Value.ref).toArray) #[] 7 none)
    (Q := fun _ z => (arrOf z).Perm (keys.toArray.zip (as.map Value.ref).toArray) ∧ failedOf z = none ∧ SortedTo (arrOf z) (keys.toArray.zip (as.map Value.ref).toArray).size) (ksk_intKeys hki') ⟨Array.Perm.refl _, rfl, rfl, rfl⟩ (by rw [hzz]; omega) (by rw [hzz]; exact h64) fun z a1 a2 a3 => ⟨a1, a2, a3⟩) ?_ fun _ _ e => e)
  rintro ⟨⟨⟩, z⟩ s' ⟨rfl, hp, hf, hs⟩
  exact tail_key I hD np h64 hkD hk0 hob hki hp (by rw [hp.size_eq]; exact hs) hf q
theorem rest_key {f : Addr} {e1 : Nat} {P : PySem.Fin → Shared → Prop} {E : Value → Shared → Prop} (KF : KeyFn X σ H f as g) (I : Inv X ((D, seqObj "list" #[] e1) :: pins) σ (upd H kS (.lst [])) s) (hD : X.s_0.heap.objs.size ≤ D) (np : ∀ p ∈ X.pn ++ pins, p.1 ≠ D)
    (h2 : 2 ≤ as.length) (h64 : as.length < 64) (hkD : kS ≠ D) (hk0 : H kS = none)
    (q : ∀ (H' : Hp) (as' : List Addr) (s' : Shared), Same H H' → H' D = some (.lst (as'.map V.ref)) → as'.Perm as → (as'.Pairwise fun a b => g a ≤ g b) → Inv X pins σ H' s' → P (.done (.ret .none)) s') :
    wpAny (model X.prog X.w) X.A.in1.in1 (ksk_rest D (.ref f) false (as.map Value.ref).toArray e1 (.ref kS)) P E s := by
  unfold ksk_rest
  refine wpAny_bind (wpAny_rule (?_))
  rw [List.forIn_toArray]
  refine wpAny_bind (ksk_fold (fun i s' => Inv X ((D, seqObj "list" #[] e1) :: pins) σ (upd H kS (.lst (((as.take i).map g).map V.int))) s') (as.map Value.ref) 0 s I (fun j x s' hx I1 => ?_) fun s' I1 => ?_)
  · rw [Nat.zero_add] at I1 ⊢
    rw [List.getElem?_map] at hx
    obtain ⟨a, ha, rfl⟩ := Option.map_eq_some_iff.mp hx
    have hj : j < as.length := (List.getElem?_eq_some_iff.mp ha).1
    refine wpAny_bind (wpAny_attempt (wpAny_mono (KF _ _ s' a (List.mem_of_getElem? ha) (same_upd hk0) I1) (fun v s2 hv => ?_) fun _ _ z => z.elim))
    obtain ⟨⟨t, rfl⟩, I2⟩ := hv
    obtain ⟨hz, its, n, rv, hob⟩ := (show ObjOk X.prog X.w _ s2.heap kS (.lst (((as.take j).map g).map V.int)) from I2.hok _ _ upd_same)
    have hl := rv.length
    rw [List.length_map, List.length_map, List.length_take] at hl
    dsimp only
    refine wpAny_bind (listUpdate_at hob rfl (?_) (by rw [List.size_toArray, sizeLine_eq]; omega) (by show (its.toArray.push _).size ≤ _; rw [Array.size_push, List.size_toArray, sizeLine_eq]; omega))
    refine wpAny_pure ⟨rfl, ?_⟩
    have I3 := I2.lset (f := (·.push (Value.int (g a) t))) (its' := its ++ [.int (g a) t]) (ys := ((as.take (j + 1)).map g).map V.int) (t' := s2.toks) (l := kS) upd_same hob (by simp) (by
      rw [List.take_add_one, ha, Option.toList_some, List.map_append, List.map_append]
      exact rv.append (.cons ⟨t, rfl⟩ .nil)) (by rw [List.length_map, List.length_map, List.length_take, sizeLine_eq]; omega)
    rw [upd_upd] at I3
    exact I3
  · rw [Nat.zero_add, List.length_map, List.take_length] at I1
    obtain ⟨hz, its, n, rv, hob⟩ := (show ObjOk X.prog X.w _ s'.heap kS (.lst ((as.map g).map V.int)) from I1.hok _ _ upd_same)
    refine wpAny_bind (listItems_at hob rfl (?_))
    exact end_key I1 hD np h2 h64 hkD hk0 hob rv.ints q
/-- THE RULE -/
theorem sort_key {l f : Addr} {Q : VK} (I : Inv X pins σ H s) (hl : H l = some (.lst (as.map V.ref))) (h2 : 2 ≤ as.length) (h64 : as.length < 64) (KF : KeyFn X σ H f as g)
    (q : ∀ (H' : Hp) (D : Addr) (as' : List Addr), Same H H' → H' D = some (.lst (as'.map V.ref)) → as'.Perm as → (as'.Pairwise fun a b => g a ≤ g b) → Q (.ref D) H') :
    wpAny (model X.prog X.w) X.A (call (.builtin "sorted") [.ref l] [(Str.ofString "key", .ref f)]) (EP X pins σ Q) X.xe s := by
  obtain ⟨hz, its, n, rv, hob⟩ := (show ObjOk X.prog X.w H s.heap l (.lst (as.map V.ref)) from I.hok _ _ hl)
  obtain rfl := refs_vals rv
  have hvl : (as.map Value.ref).length = as.length := List.length_map ..
  refine (call_function_entry_kw kind_sorted plain_sorted entry_sorted (ksk_s1 _ _) (?_))
  unfold Builtin.«sorted»
  refine wpAny_bind (m := checkCount "sorted" 1 1 _) (wpAny_pure (wpAny_bind (collect_list ⟨_, hob, rfl, _, rfl⟩ (?_) (by rw [hvl, sizeLine_eq]; omega))))
  generalize hh1 : (s.heap.push (seqObj "list" #[] 0)).update s.heap.objs.size (Obj.mapSeq (· ++ (as.map Value.ref).toArray)) = h1
  have z1 : h1.objs.size = s.heap.objs.size + 1 := by rw [← hh1, Heap.size_update, size_push']
  have k1 : ∀ b o, s.heap.get? b = some o → h1.get? b = some o := fun b o e => by
    have hlt : b < s.heap.objs.size := Heap.lt_size e
    rw [← hh1, Heap.get?_update_ne _ _ _ _ (Nat.ne_of_lt hlt)]
    exact Heap.get?_push_of_some _ e
  refine wpAny_bind (wpAny_newList (?_) (by rw [hvl, sizeLine_eq]; omega))
  have ho2 : (h1.push (seqObj "list" (as.map Value.ref).toArray 0)).get? h1.objs.size = some (seqObj "list" (as.map Value.ref).toArray 0) := Heap.get?_push_size _ rfl
  refine wpAny_bind (wpAny_holding (wpAny_call_entry_kw slot_list_sort ⟨_, ho2, rfl⟩ entry_list_sort (?_) (ksk_l1 _ _)))
  rw [ksk_t1]
  unfold ksk_tree
  refine wpAny_bind (listItems_at ho2 rfl (wpAny_bind (listUpdate_at ho2 rfl (?_) (by rw [List.size_toArray, hvl, sizeLine_eq]; omega) (Nat.zero_le _))))
  generalize hh2 : (h1.push (seqObj "list" (as.map Value.ref).toArray 0)).update h1.objs.size (Obj.mapSeq fun _ => (#[] : Array Value)) = h3
  obtain ⟨e1, ho3⟩ : ∃ e1, h3.get? h1.objs.size = some (seqObj "list" #[] e1) := ⟨_, by rw [← hh2]; exact get?_update_seq ho2 fun _ => #[]⟩
  have z3 : h3.objs.size = h1.objs.size + 1 := by rw [← hh2, Heap.size_update, size_push']
  have k3 : ∀ b o, s.heap.get? b = some o → h3.get? b = some o := fun b o e => by
    have h := k1 b o e
    have hlt : b < h1.objs.size := Heap.lt_size h
    rw [← hh2, Heap.get?_update_ne _ _ _ _ (Nat.ne_of_lt hlt)]
    exact Heap.get?_push_of_some _ h
  refine wpAny_bind (seqEpoch_at ho3 rfl (?_))
  refine wpAny_bind (wpAny_newTuple (?_) (by show (as.map Value.ref).length ≤ _; rw [hvl, sizeLine_eq]; omega))
  refine wpAny_bind (wpAny_newList (?_) (Nat.zero_le _))
  refine wpAny_holding (?_)
  have hsz : ∀ o : Obj, (h3.push o).objs.size = h3.objs.size + 1 := fun o => size_push' ..
  have nD : H h1.objs.size = none := I.hok.fresh (by rw [z1]; exact Nat.le_succ _)
  have I4 : Inv X pins σ H { s with heap := h3.push (seqObj "tuple" (as.map Value.ref).toArray 0) } := I.kept (t' := s.toks) fun b o e => Heap.get?_push_of_some _ (k3 b o e)
  have pnD : ∀ p ∈ X.pn ++ pins, p.1 ≠ h1.objs.size := fun p hp => by
    have := Heap.lt_size (I.pin p hp).1
    rw [z1]
    exact Nat.ne_of_lt (Nat.lt_succ_of_lt this)
  have hL := I.lt
  have I5 : Inv X ((h1.objs.size, seqObj "list" #[] e1) :: pins) σ H { s with heap := h3.push (seqObj "tuple" (as.map Value.ref).toArray 0) } := I4.pins_of fun p hp => by
    rcases List.mem_cons.mp hp with rfl | hp
    · exact ⟨Heap.get?_push_of_some _ ho3, nD, Nat.ne_of_gt (by rw [z1]; exact Nat.lt_succ_of_lt hL), I.nofs (by rw [z1]; exact Nat.le_succ _), fun v z => by cases z⟩
    · exact I4.pin p (List.mem_append_right _ hp)
  have I6 := I5.lnew (its := []) (ys := []) (t' := s.toks) .nil (Nat.zero_le _)
  have nk : H (h3.push (seqObj "tuple" (as.map Value.ref).toArray 0)).objs.size = none := I4.hok.fresh (Nat.le_refl _)
  refine rest_key (s := { s with heap := (h3.push (seqObj "tuple" (as.map Value.ref).toArray 0)).push (seqObj "list" #[] 0) }) (kS := (h3.push (seqObj "tuple" (as.map Value.ref).toArray 0)).objs.size) (D := h1.objs.size) KF I6 (Nat.le_trans I.sz (by rw [z1]; exact Nat.le_succ _)) pnD h2 h64 (by rw [hsz, z3]; exact Nat.ne_of_gt (Nat.lt_succ_of_lt (Nat.lt_succ_self _))) nk fun H' as' s' sm hH pm so I7 => ⟨_, rfl, ?_⟩
  exact wpAny_pure ⟨_, rfl, .ref h1.objs.size, H', I7, rfl, q H' _ as' sm hH pm so⟩
end
end L2
namespace L2
open PySem PySem.Spec PyProof.Rows
/-! ### a lambda: how it is made, how it runs -/
/-- what stands below: the code that holds the table, the builtins' module -/
structure LamB (mg : Str → Option Value) (base : Heap) (c T : Addr) : Prop where
  cd : PySem.W.CodeHd base c T
  bm : ∃ bm ob, mg "__builtins__" = some (.ref bm) ∧ bm ≠ builtinsNs ∧ base.get? bm = some ob ∧ ob.cls = .type "module" ∧ ob.dict = some builtinsNs ∧ ob.data = .plain
def cdO (c : Addr) (qual : Str) : HO := .ext fun h => h.CodeRec (.ref c) qual
def fnO (f : Addr) (o : Obj) : HO := .ext fun h => h.get? f = some o
/-- the table: nothing yet, or the lambda's own code -/
def TabE (H : Hp) (T : Addr) : Prop := H T = some (.tbl #[])
def TabF (H : Hp) (T : Addr) (pos : Pos) (qual : Str) (c' : Addr) : Prop := H T = some (.tbl #[rawInt pos.line, rawInt pos.col, .ref c']) ∧ H c' = some (cdO c' qual)
def TabS (H : Hp) (T : Addr) (pos : Pos) (qual : Str) : Prop := TabE H T ∨ ∃ c', TabF H T pos qual c'
/-- all but the table -/
def SameB (T : Addr) (H H' : Hp) : Prop := ∀ b o, b ≠ T → H b = some o → H' b = some o
theorem Same.but {T : Addr} {H H' : Hp} (h : Same H H') : SameB T H H' := fun b o _ e => h b o e
theorem SameB.trans {T : Addr} {H H1 H2 : Hp} (a : SameB T H H1) (b : SameB T H1 H2) : SameB T H H2 := fun c o n e => b c o n (a c o n e)
theorem TabS.same {H H' : Hp} {T : Addr} {pos : Pos} {qual : Str} (h : TabS H T pos qual) (s : Same H H') : TabS H' T pos qual := by
  rcases h with h | ⟨c', h1, h2⟩
  · exact .inl (s _ _ h)
  · exact .inr ⟨c', s _ _ h1, s _ _ h2⟩
theorem TabS.tbl {H : Hp} {T : Addr} {pos : Pos} {qual : Str} (h : TabS H T pos qual) : ∃ ps, H T = some (.tbl ps) := by
  rcases h with h | ⟨c', h1, h2⟩
  · exact ⟨_, h⟩
  · exact ⟨_, h1⟩
section
variable {X : Cx} {pins : List (Addr × Obj)} {σ : St} {H : Hp} {s : Shared}
/-- the table has one more entry, the code and the function are laid -/
theorem Inv.lam {T c' f : Addr} {ps ps' : Array Value} {qual : Str} {fo : Obj} {h' : Heap} {tk : Nat} (I : Inv X pins σ H s) (hT : H T = some (.tbl ps)) (hps : ∃ more, ps' = ps ++ more) (k : ∀ b o, b ≠ T → s.heap.get? b = some o → h'.get? b = some o) (hT' : h'.get? T = some { cls := .none, data := .fields ps' })
    (hc : s.heap.objs.size ≤ c') (hf : s.heap.objs.size ≤ f) (hcf : c' ≠ f) (hcd : h'.CodeRec (.ref c') qual) (hfo : h'.get? f = some fo) :
    Inv X pins σ (upd (upd (upd H T (.tbl ps')) c' (cdO c' qual)) f (fnO f fo)) { s with heap := h', toks := tk } := by
  have nc : H c' = none := I.hok.fresh hc
  have nf : H f = none := I.hok.fresh hf
  have hTl : T < s.heap.objs.size := I.hok.lt hT
  have Tc : T ≠ c' := Nat.ne_of_lt (Nat.lt_of_lt_of_le hTl hc)
  have Tf : T ≠ f := Nat.ne_of_lt (Nat.lt_of_lt_of_le hTl hf)
  have look : ∀ b o, H b = some o → b ≠ T → upd (upd (upd H T (.tbl ps')) c' (cdO c' qual)) f (fnO f fo) b = some o := fun b o e hb => by
    rw [upd_ne (ne_of_none e nf), upd_ne (ne_of_none e nc), upd_ne hb]
    exact e
  have atT : upd (upd (upd H T (.tbl ps')) c' (cdO c' qual)) f (fnO f fo) T = some (.tbl ps') := by rw [upd_ne Tf, upd_ne Tc, upd_same]
  refine I.un (t' := tk) ⟨fun b o e n _ _ => k b o (fun z => by rw [z, hT] at n; cases n) e, fun b o e n _ _ => ⟨o.slots, k b o (fun z => by rw [z, hT] at n; cases n) e⟩, fun b o e n _ => ?_, fun b o e _ => ?_, fun b xs e => look b _ e (fun z => by rw [z, hT] at e; cases e), fun b o u e => look b _ e (fun z => by rw [z, hT] at e; cases e), fun b qs e => ?_⟩ fun b o e => ?_
  · have hl := Heap.lt_size e
    rw [upd_ne (Nat.ne_of_lt (Nat.lt_of_lt_of_le hl hf)), upd_ne (Nat.ne_of_lt (Nat.lt_of_lt_of_le hl hc)), upd_ne (fun z => by rw [z, hT] at n; cases n)]
    exact n
  · by_cases hb : b = T
    · exact ⟨_, by rw [hb]; exact hT'⟩
    · exact ⟨o, k b o hb e⟩
  · by_cases hb : b = T
    · subst hb
      rw [hT] at e
      cases e
      obtain ⟨more, hm⟩ := hps
      exact ⟨more, by rw [atT, hm]⟩
    · exact ⟨#[], by rw [look b _ e hb]; simp⟩
  · by_cases h1 : b = f
    · subst h1
      rw [upd_same] at e
      cases e
      exact ⟨hfo, ⟨fo, hfo⟩, fun h1 h2 p q => q _ p⟩
    · by_cases h2 : b = c'
      · subst h2
        rw [upd_ne h1, upd_same] at e
        cases e
        obtain ⟨c, oc, vs, t, ec, g, r⟩ := hcd
        cases ec
        refine ⟨⟨_, oc, vs, t, rfl, g, r⟩, ⟨oc, g⟩, fun h1 h2 p q => ?_⟩
        obtain ⟨c, oc1, vs1, t1, ec1, g1, r1⟩ := p
        cases ec1
        exact ⟨_, oc1, vs1, t1, rfl, q _ g1, r1⟩
      · by_cases h3 : b = T
        · subst h3
          rw [atT] at e
          cases e
          exact hT'
        · rw [upd_ne h1, upd_ne h2, upd_ne h3] at e
          refine (I.hok b o e).stay (fun c u hc2 q => k c u (fun z => ?_) q) (fun c q => look c _ q fun z => ?_) fun c xs q => look c _ q fun z => ?_
          · subst z
            rcases hc2 with z | z
            · exact h3 z.symm
            · rw [hT] at z
              cases z
          · rw [z, hT] at q
            cases q
          · rw [z, hT] at q
            cases q
variable {params : Arguments} {body : Expr} {scope : Scope} {pos : Pos} {c T : Addr} {qual : Str}
def tLam (X : Cx) (T : Addr) (params : Arguments) (body : Expr) (scope : Scope) (pos : Pos) (qual : Str) : TE := fun _ H Q => TabS H T pos qual ∧ ∀ (H' : Hp) (f c' : Addr) (ctv : Value), SameB T H H' → TabF H' T pos qual c' →
  H' f = some (fnO f (PySem.W.kla_obj "<lambda>" qual params body scope (cloFrom X.env.cells scope.names []) ((X.mg "__name__").getD .none) c' ctv)) → Q (.ref f) H'
theorem pe_lam (hdef : defaultsOf params X.env = ([], [])) (hcode : X.env.code = .ref c) (LB : LamB X.mg X.base c T) (hq : X.env.qual ++ "<lambda>" = qual) (hfr : ∀ y ∈ scope.names, y.2 = .free → ∃ c, X.env.cells.lookup y.1 = some c) :
    PE X (.Lambda params body scope pos) (tLam X T params body scope pos qual) := by
  intro pins s σ H Q I ⟨ts, q⟩
  refine PySem.W.kla_eval hdef ?_
  rw [hq]
  have hcl := closure_ok hfr
  have hg := I.mod.glob.keeps I.bk
  obtain ⟨ps0, hT0⟩ := ts.tbl
  have hTo : s.heap.get? T = some { cls := .none, data := .fields ps0 } := I.hok _ _ hT0
  have hgT : mainGlobals ≠ T := fun z => by
    obtain ⟨o, es, ep, e, hd, _⟩ := hg
    rw [z, hTo] at e
    cases e
    cases hd
  obtain ⟨bm, ob, b1, b2, b3, b4, b5, b6⟩ := LB.bm
  have b3' := I.bk _ _ b3
  have hbT : bm ≠ T := fun z => by
    rw [z, hTo] at b3'
    cases b3'
    cases b4
  have hbG : bm ≠ mainGlobals := fun z => by
    obtain ⟨o, es, ep, e, hd, _⟩ := hg
    rw [z, e] at b3'
    cases b3'
    rw [hd] at b6
    cases b6
  have hB : s.heap.BuiltinsAt X.mg T := ⟨bm, ob, b1, b2, hbG, hbT, b3', b4, b5, b6⟩
  rcases ts with ts | ⟨c1, ts1, ts2⟩
  · have hT : H T = some (.tbl #[]) := ts
    have hTo : s.heap.get? T = some (PySem.W.tabObj #[]) := I.hok _ _ hT
    refine PySem.W.kla_makeFunction (mg := X.mg) hcl I.ok.glob hg hcode (LB.cd.keeps I.bk) hTo trivial rfl hgT hB fun c' ctv h' tk hx hge hlt hrec htb => ?_
    have e0 : (#[] : Array Value) ++ #[rawInt pos.line, rawInt pos.col, Value.ref c'] = #[rawInt pos.line, rawInt pos.col, Value.ref c'] := by simp
    rw [e0] at htb
    have hsz : s.heap.objs.size ≤ h'.objs.size := Nat.le_of_lt (Nat.lt_of_le_of_lt hge hlt)
    have J := I.lam (h' := h'.push (PySem.W.kla_obj "<lambda>" qual params body scope (cloFrom X.env.cells scope.names []) ((X.mg "__name__").getD .none) c' ctv)) (tk := tk) (c' := c') (f := h'.objs.size) (qual := qual) hT ⟨_, e0.symm⟩ (fun b o hb e => Heap.get?_push_of_some _ (hx b o hb e)) (Heap.get?_push_of_some _ htb) hge hsz (Nat.ne_of_lt hlt) (hrec.push _) (Heap.get?_push_size _ rfl)
    have nc : H c' = none := I.hok.fresh hge
    have nf : H h'.objs.size = none := I.hok.fresh hsz
    have hTl : T < s.heap.objs.size := I.hok.lt hT
    refine ⟨.ref h'.objs.size, _, J, rfl, q _ _ c' ctv (fun b o hb e => ?_) ⟨?_, ?_⟩ upd_same⟩
    · rw [upd_ne (ne_of_none e nf), upd_ne (ne_of_none e nc), upd_ne hb]
      exact e
    · rw [upd_ne (Nat.ne_of_lt (Nat.lt_of_lt_of_le hTl hsz)), upd_ne (Nat.ne_of_lt (Nat.lt_of_lt_of_le hTl hge)), upd_same]
    · rw [upd_ne (Nat.ne_of_lt hlt), upd_same]
  · have hTo : s.heap.get? T = some (PySem.W.tabObj #[rawInt pos.line, rawInt pos.col, .ref c1]) := I.hok _ _ ts1
    have hit : codeAmong pos (#[rawInt pos.line, rawInt pos.col, Value.ref c1] : Array Value).toList = some (.ref c1) := codeAmong_snoc [] trivial rfl
    refine PySem.W.kla_makeFunctionHit (mg := X.mg) hcl I.ok.glob hg hcode (LB.cd.keeps I.bk) hTo trivial hit hB fun ctv h' tk hk hsz => ?_
    have nf : H h'.objs.size = none := I.hok.fresh hsz
    have J := I.laid (t' := tk) (a := h'.objs.size) (o := fnO h'.objs.size (PySem.W.kla_obj "<lambda>" qual params body scope (cloFrom X.env.cells scope.names []) ((X.mg "__name__").getD .none) c1 ctv)) (h' := h'.push (PySem.W.kla_obj "<lambda>" qual params body scope (cloFrom X.env.cells scope.names []) ((X.mg "__name__").getD .none) c1 ctv)) (fun b u e => Heap.get?_push_of_some _ (hk b u e)) hsz
      ⟨Heap.get?_push_size _ rfl, ⟨_, Heap.get?_push_size _ rfl⟩, fun h1 h2 p q => q _ p⟩
    refine ⟨.ref h'.objs.size, _, J, rfl, q _ _ c1 ctv (fun b o _ e => ?_) ⟨?_, ?_⟩ upd_same⟩
    · rw [upd_ne (ne_of_none e nf)]
      exact e
    · rw [upd_ne (ne_of_none ts1 nf)]
      exact ts1
    · rw [upd_ne (ne_of_none ts2 nf)]
      exact ts2
/-- the context of a lambda's body -/
def lamCx (X : Cx) (scope : Scope) (qual : Str) (f c' : Addr) (s : Shared) (H : Hp) (N : List Str) : Cx where
  prog := X.prog
  w := X.w
  K := X.K
  mg := X.mg
  base := X.base
  A := X.A.in1.in1.deeper (PySem.W.envX qual scope s.heap.objs.size f (.ref c') (cloFrom X.env.cells scope.names []))
  N := N
  s_0 := s
  H_0 := H
  env := PySem.W.envX qual scope s.heap.objs.size f (.ref c') (cloFrom X.env.cells scope.names [])
  outer := X.stack
  stack := PySem.W.envX qual scope s.heap.objs.size f (.ref c') (cloFrom X.env.cells scope.names []) :: X.stack
  ex := []
  fn := fun _ => false
  calm := true
  pn := []
  xe := fun e s' => wpAny (model X.prog X.w) (X.A.in1.in1.deeper (PySem.W.envX qual scope s.heap.objs.size f (.ref c') (cloFrom X.env.cells scope.names []))) (leaving (PySem.W.envX qual scope s.heap.objs.size f (.ref c') (cloFrom X.env.cells scope.names [])) e) (fun _ _ => False) (fun _ _ => False) s'
abbrev xN : Str := Str.ofString "x"
abbrev formN : Str := Str.ofString "form"
theorem key_lam {as : List Addr} {g : Addr → Int} {f c' fa cf : Addr} {ctv : Value} (hcalm : X.calm = true) (hdep : X.A.depth < recursionLimit) (hsc : scope.kind = .function) (hco : scope.isCoroutine = false) (hgen : scope.isGenerator = false) (hnc : ∀ x ∈ scope.names, x.2 ≠ .cell)
    (hx : scope.names.lookup xN = some .local) (hform : scope.names.lookup formN = some .free) (honly : ∀ x, (scope.names.lookup x = some .cell ∨ scope.names.lookup x = some .free) → x = formN) (hclo : cloFrom X.env.cells scope.names [] = [(formN, cf)]) (hkf : X.env.kindOf formN = some .cell) (hcf : X.env.cells.lookup formN = some cf)
    (hN : X.N[0]? = some formN) (hvis : Vis X.env.scope formN) (hσ : σ[0]? = some (some (.ref fa))) (hbind : ∀ v, bindArgs (PySem.W.kla_fn "<lambda>" qual params body scope (cloFrom X.env.cells scope.names []) ((X.mg "__name__").getD .none) (.ref c') ctv) ⟨[v], []⟩ = pure [(xN, v)])
    (hf : H f = some (fnO f (PySem.W.kla_obj "<lambda>" qual params body scope (cloFrom X.env.cells scope.names []) ((X.mg "__name__").getD .none) c' ctv))) (hc : H c' = some (cdO c' qual))
    (hbody : ∀ (s' : Shared) (H' : Hp) (a : Addr), a ∈ as → Same H H' → ∃ t : TE, PE (lamCx X scope qual f c' s' H' [xN, formN]) body t ∧ t [some (.ref a), some (.ref fa)] H' (fun v H'' => v = .int (g a) ∧ H'' = H')) : KeyFn X σ H f as g := by
  intro pins H' s' a ha sm I
  obtain ⟨hfo, _⟩ := (show ObjOk X.prog X.w H' s'.heap f (fnO f _) from I.hok _ _ (sm _ _ hf))
  obtain ⟨hcd, _⟩ := (show ObjOk X.prog X.w H' s'.heap c' (cdO c' qual) from I.hok _ _ (sm _ _ hc))
  obtain ⟨m0, hn0, hl0⟩ := id I.loc
  obtain ⟨u, ru, lk⟩ := hl0 0 formN (.ref fa) hN hσ hvis
  obtain rfl : u = Value.ref fa := ru
  have hcell : s'.heap.IsCell cf (some (.ref fa)) := by
    rcases lk with ⟨z, _⟩ | ⟨_, c2, e2, z⟩
    · rw [hkf] at z
      cases z
    · rw [hcf] at e2
      cases e2
      exact z
  obtain ⟨t, ht, hq⟩ := hbody s' H' a ha sm
  have hh : X.A.handled = none := I.ok.hd hcalm
  refine wpAny_call (codeAny_mono (R := CR CX0 X.stack X.prog X.w H' s' (fun v H'' => v = .int (g a) ∧ H'' = H') E0) (PySem.W.kla_callFunE (A := X.A.in1.in1) hdep hfo rfl hco hgen rfl hcd ?_) fun r s2 hr => ?_)
  · rw [hbind]
    refine wpAny_pure (wpAny_newFunctionEnv hnc (fun y hy => ?_) (fun h₁ hns hsb => ⟨I.nolimit.keeps ?_, ?_⟩) hsc)
    · rw [List.mem_singleton.mp hy]
      exact hx
    · exact fun b o e => hsb.extBut b o (Nat.ne_of_lt (Heap.lt_size e)) (Heap.get?_push_of_some _ e)
    · have hk : ∀ b o, s'.heap.get? b = some o → h₁.get? b = some o := fun b o e => hsb.extBut b o (Nat.ne_of_lt (Heap.lt_size e)) (Heap.get?_push_of_some _ e)
      show codeAny _ _ (.expr body (PySem.W.envX qual scope s'.heap.objs.size f (.ref c') (cloFrom X.env.cells scope.names []))) _ _
      have noA : ∀ b : Addr, b ∉ (lamCx X scope qual f c' s' H' [xN, formN]).ex := fun b z => absurd (show b ∈ ([] : List Addr) from z) (by simp)
      have lkc : ∀ (y : Str) (c : Addr), (cloFrom X.env.cells scope.names []).lookup y = some c → y = formN ∧ c = cf := fun y c e => by
        rw [hclo, List.lookup_cons] at e
        cases hb : y == formN with
        | true =>
          rw [hb] at e
          cases e
          exact ⟨eq_of_beq hb, rfl⟩
        | false =>
          rw [hb] at e
          cases e
      have lkf : (cloFrom X.env.cells scope.names []).lookup formN = some cf := by
        rw [hclo]
        rfl
      have cellH : ∃ v, s'.heap.IsCell cf v := ⟨_, hcell⟩
      have J : Inv (lamCx X scope qual f c' s' H' [xN, formN]) [] [some (.ref a), some (.ref fa)] H' { s' with heap := h₁, toks := s'.toks + [(xN, Value.ref a)].length } := by
        refine ⟨⟨I.ok.mod, hsc, rfl, rfl, Nat.le_refl _, fun y z c e1 e2 => (lkc y c e1).1.trans (lkc z c e2).1.symm, fun y hy => ⟨cf, by rw [honly y hy]; exact lkf⟩, fun y c z => Bool.noConfusion (show false = true from z), fun _ => hh, Around.frames_deeper (show X.A.in1.in1.frames = some X.stack from I.ok.frames), .inr ⟨rfl, rfl⟩, fun b z => absurd z (noA b), I.bs, Nat.le_trans I.ok.bsz I.sz, fun b _ _ => noA b, fun b z => absurd z (noA b), I.stack, I.stkFree⟩,
          rfl, I.bare, Un.kept hk, ⟨_, hns, fun i y v e1 e2 e3 => ?_⟩, fun y c e => ?_, I.hok.fresh (Nat.le_refl _), fun y c e => ?_, fun p hp => absurd (show p ∈ ([] : List (Addr × Obj)) from hp) (by simp), I.hok.kept hk, rfl⟩
        · match i, e1, e2 with
          | 0, e1, e2 =>
            obtain rfl : xN = y := Option.some.inj e1
            obtain rfl : V.ref a = v := Option.some.inj (Option.some.inj e2)
            exact ⟨.ref a, rfl, .inl ⟨hx, rfl⟩⟩
          | 1, e1, e2 =>
            obtain rfl : formN = y := Option.some.inj e1
            obtain rfl : V.ref fa = v := Option.some.inj (Option.some.inj e2)
            obtain ⟨oc, ho, hd⟩ := hcell
            exact ⟨.ref fa, rfl, .inr ⟨.inr hform, cf, lkf, oc, hk _ _ ho, hd⟩⟩
          | i + 2, e1, _ => simp [lamCx] at e1
        · obtain ⟨_, rfl⟩ := lkc y c e
          obtain ⟨oc, ho, hd⟩ := hcell
          exact ⟨_, oc, hk _ _ ho, hd⟩
        · obtain ⟨_, rfl⟩ := lkc y c e
          exact I.freeC formN _ hcf
      refine PySem.W.kla_codeExpr (wpAny_mono (ht [] _ _ H' _ J hq) (fun v s2 ⟨v', H2, J2, rv, q2⟩ => ?_) fun e s2 z => z)
      exact ⟨v', H2, J2.os, J2.bare, J2.base, J2.hok, rv, q2⟩
  · cases r with
    | error e => exact False.elim hr
    | ok fl =>
      cases fl with
      | next => exact False.elim hr
      | brk => exact False.elim hr
      | cont => exact False.elim hr
      | ret u =>
        obtain ⟨v, H2, I2, rv, e1, e2⟩ := I.after hr
        subst e1 e2
        exact ⟨rv, I2⟩
/-- sorted(xs, key=f) -/
def tSortK (X : Cx) (t tk : TA) : TE := fun σ H Q => t σ H fun vs H1 => tk σ H1 fun zs H2 => ∃ (l f : Addr) (as : List Addr) (g : Addr → Int), vs = [.ref l] ∧ zs = [.ref f] ∧ H2 l = some (.lst (as.map V.ref)) ∧ 2 ≤ as.length ∧ as.length < 64 ∧ KeyFn X σ H2 f as g ∧
  ∀ (H' : Hp) (D : Addr) (as' : List Addr), Same H2 H' → H' D = some (.lst (as'.map V.ref)) → as'.Perm as → (as'.Pairwise fun a b => g a ≤ g b) → Q (.ref D) H'
theorem pe_sortk {x : Str} {p : Pos} {e : Expr} {es : List Expr} {kws : List Keyword} {t tk : TA} (hg : Gl X x) (hm : X.mg x = none) (hv : bootBuiltins x = some (.builtin "sorted")) (ha : PA X (e :: es) t) (hk : PK X kws tk) (hn : x ≠ "__name__" := by decide) (hdb : (x == ("__debug__" : Str)) = false := by decide)
    (he : backTo pos (starEach (e :: es) X.env) = (false, eval e X.env) :: backTo pos (starEach es X.env) := by rfl) (hpl : (backTo pos (starEach (e :: es) X.env)).any (·.1) = false := by rfl) (hall : (backToKw pos (keywordEach kws X.env)).all (·.1.isSome) = true := by rfl) (hkw : (backToKw pos (keywordEach kws X.env)).any (·.1.isNone) = false := by rfl)
    (hks : (backToKw pos (keywordEach kws X.env)).filterMap (·.1) = [Str.ofString "key"] := by rfl) : PE X (.Call (.Name x p) (e :: es) kws pos) (tSortK X t tk) := by
  intro pins s σ H Q I h
  refine wpAny_Call_Name_kw (ld_blt I hg hm hv ?_ hn hdb)
  refine callWith_kw (thn (ha pos pins s σ H _ I h) fun us s1 ⟨vs, H1, I1, r1, q1⟩ => thn (hk pos pins s1 σ H1 _ I1 q1) fun ws s2 ⟨zs, H2, I2, rz, q2⟩ => ?_) he hpl hall hkw
  obtain ⟨l, f, as, g, rfl, rfl, hl, h2, h64, KF, q⟩ := q2
  rw [hks, Vals.ref1 r1, Vals.ref1 rz]
  exact sort_key I2 hl h2 h64 KF q
end
end L2
namespace L2
open PySem PySem.Spec PyProof.Rows
section
variable {X : Cx}
/-! ### sorted, however many whole numbers -/
def rSortedA (K : PySem.W.Frag) : List V → Hp → VK → Prop := fun vs H Q => ∃ (a : Addr) (ns : List Int), vs = [V.ref a] ∧ SqL K H a (ns.map V.int) ∧ ns.length ≤ sizeLine ∧
  ∀ (ns' : List Int) (p : Addr), ns'.Perm ns → ns'.Pairwise (· ≤ ·) → H p = none → Q (.ref p) (upd H p (.lst (ns'.map V.int)))
theorem cr_sortedA : CallR X (.builtin "sorted") (rSortedA X.K) := by
  intro pins s σ H vs us Q I r h
  obtain ⟨a, ns, rfl, hs, h64, q⟩ := h
  obtain ⟨its, rv, hl, _⟩ := I.list hs
  rw [Vals.ref1 r]
  have hi := rv.ints
  refine PyProof.Rows.sorted_intsAny hl.isList hi (by rw [hi.length]; exact h64) fun out ns' h1 h2 h3 => ?_
  obtain ⟨ep, he'⟩ := PyProof.Rows.sortedAll_at s.heap its out
  have hlen : (ns'.map V.int).length ≤ sizeLine := by rw [List.length_map, h2.length_eq]; exact h64
  exact ⟨.ref _, upd H (s.heap.objs.size + 1) (.lst (ns'.map V.int)), I.laid (t' := s.toks) (fun _ _ => PyProof.Rows.sortedAll_old) (Nat.le_succ _) ⟨hlen, out.toList, ep, vals_of_ints h1, he'⟩, rfl, q ns' _ h2 h3 (I.hok.fresh (Nat.le_succ _))⟩
end
/-! ### over a dict's keys, the dict left as it is -/
theorem for_keys {d : Addr} {o : Obj} {kvs : List (Key × V)} {g : TG} {tb : TS} {D : Ends} {σ : St} {H : Hp} (Pv : Nat → St → Hp → Prop) (h0 : Pv 0 σ H) (hl : ∀ i σ H, i ≤ kvs.length → Pv i σ H → H d = some (.frz o (.dK kvs)))
    (hs : ∀ i k v σ H, kvs[i]? = some (k, v) → Pv i σ H → g (kV k) σ H fun σ2 H2 => tb { D with nx := Pv (i + 1), ct := Pv (i + 1), bk := D.nx } σ2 H2) (hd : ∀ σ H, Pv kvs.length σ H → D.nx σ H) :
    ∃ W : Nat → Nat → St → Hp → Prop, (∃ m, W 0 m σ H) ∧ ∀ i m σ H, W i m σ H →
      ((Itk d o kvs).stop i H ∧ D.nx σ H) ∨ ((Itk d o kvs).go i H ∧ ∃ N : St → Hp → Prop, (∀ σ' H', N σ' H' → ∃ m', m' < m ∧ W (i + 1) m' σ' H') ∧ ∀ x H', (Itk d o kvs).yld i H x H' → g x σ H' fun σ2 H2 => tb { D with nx := N, ct := N, bk := D.nx } σ2 H2) := by
  refine ⟨fun i m σ H => m = kvs.length - i ∧ i ≤ kvs.length ∧ Pv i σ H, ⟨kvs.length, by simp, Nat.zero_le _, h0⟩, ?_⟩
  rintro i m σ H ⟨rfl, hi, p⟩
  have q := hl i σ H hi p
  by_cases hlt : i < kvs.length
  · refine .inr ⟨⟨q, hlt⟩, Pv (i + 1), fun σ' H' p' => ⟨kvs.length - (i + 1), by omega, rfl, hlt, p'⟩, fun x H' y => ?_⟩
    obtain ⟨rfl, k, v, e, rfl⟩ := y
    exact hs i k v σ _ e p
  · have e : i = kvs.length := by omega
    subst e
    exact .inl ⟨⟨q, Nat.le_refl _⟩, hd σ H p⟩
end L2
namespace L2
open PySem PySem.Spec PyProof.Rows
open PySem.W (WData Codec OpenSpec Well WellAll ReadsW)
/-! ### a row's def that writes into a code table -/
mutual
theorem Dw.more {K : PySem.W.Frag} {H H' : Hp} (s : Same H H') : ∀ (d : WData) (v : V), Dw K H v d → Dw K H' v d
  | _, _, .non => .non
  | _, _, .bl b => .bl b
  | _, _, .int i => .int i
  | _, _, .str x => .str x
  | _, _, .byt b => .byt b
  | _, _, .lst h1 h2 => .lst (s.seq h1) (DwAll.more s _ _ h2)
  | _, _, .tup h1 h2 => .tup (by
      rcases h1 with (h | ⟨o, h⟩) | h
      · exact .inl (.inl (s _ _ h))
      · exact .inl (.inr ⟨o, s _ _ h⟩)
      · exact .inr h) (DwAll.more s _ _ h2)
theorem DwAll.more {K : PySem.W.Frag} {H H' : Hp} (s : Same H H') : ∀ (ds : List WData) (vs : List V), DwAll K H vs ds → DwAll K H' vs ds
  | _, _, .nil => .nil
  | _, _, .cons h1 h2 => .cons (Dw.more s _ _ h1) (DwAll.more s _ _ h2)
end
theorem spec_callT {P : Program} {w : World} {K : PySem.W.Frag} {mg mb : Str → Option Value} {CX : CXT} {k : Nat} {fa c T : Addr} {fd : FuncData} {ps : List Str} {sp : Sp} {s₁ : Shared} {vals : List Value} {ds : List WData} {R : PySem.W.WRecords} {cl : Str → Option Addr} {d0 : WData}
    (KX : K.In s₁.heap) (hns : s₁.heap.Ns mainGlobals mg) (hb : s₁.heap.Ns builtinsNs mb) (hbb : ∀ x : Str, x ≠ "__name__" → mb x = bootBuiltins x) (hlim : s₁.heap.NoLimit) (hg : s₁.gens = #[])
    (hcd : PySem.W.CodeHd s₁.heap c T) (hT : s₁.heap.get? T = some (PySem.W.tabObj #[])) (hnt : PySem.W.noTabs K = true)
    (hbm : ∃ bm ob, mg "__builtins__" = some (.ref bm) ∧ bm ≠ builtinsNs ∧ s₁.heap.get? bm = some ob ∧ ob.cls = .type "module" ∧ ob.dict = some builtinsNs ∧ ob.data = .plain)
    (hwl : WellAll w.params s₁.heap vals ds) (hpl : plWs ds = true) (hwt : ∀ d ∈ ds, d.weight ≤ 1048576) (hr : Room k callerA)
    (F : ∀ base : Heap, K.In base → base.Ns mainGlobals mg → LamB mg base c T → FnOk P w K mg base CX k fa fd ps sp) (hbind : ∀ (s : Shared) (us : List Value), us.length = ps.length → BindsTo s fd ⟨us, []⟩ (ps.zip us)) (hlen : ds.length = ps.length)
    (hsp : ∀ (H : Hp) (xs : List V), TabE H T → DwAll K H xs ds → sp xs H (fun v H' => Dw K H' v d0) fun _ _ _ => False)
    (hCX : ∀ H e s', CX [] H s₁ (fun _ _ _ => False) e s' → False) :
    codeAny (model P w) callerA (.call (.ref fa) ⟨vals, []⟩) (fun r s' => ∃ u as, r = .ok (.ret u) ∧ ReadsW R cl s'.heap u d0 as ∧ OldK s₁.heap s'.heap ∧ s'.os = s₁.os ∧ AllBare s'.gens) s₁ := by
  obtain ⟨A, ho, ar⟩ := area_all ds vals hwl hpl hwt
  have hO0 : OnlyF (argH K s₁.heap A) := argH_only ar
  have hok0 : HOk P w (argH K s₁.heap A) s₁.heap := argH_ok ar
  have hS0 := dw_all KX ar ds vals hwl hpl ho
  have hV := vals_toV ho
  have hK0 : ∀ b u, argH K s₁.heap A b = some u → K.lookup b = none := fun b u q => (argH_is ar q).1
  have noS : ∀ {b : Addr} {o : Obj}, s₁.heap.get? b = some o → (∀ vs : List Value, ∀ ep, o.data ≠ .seq vs.toArray ep) → argH K s₁.heap A b = none := fun {b o} e d => by
    cases q : argH K s₁.heap A b with
    | none => rfl
    | some u =>
      obtain ⟨_, vs, _, _, ⟨e2, _⟩ | ⟨e2, _⟩⟩ := argH_is ar q
      · rw [e2] at e
        cases e
        exact absurd rfl (d vs _)
      · rw [e2] at e
        cases e
        exact absurd rfl (d vs _)
  generalize argH K s₁.heap A = H0 at hO0 hok0 hS0 hK0 noS
  have nT : H0 T = none := noS hT (fun vs ep z => by cases z)
  have KT : K.lookup T = none := by
    cases q : K.lookup T with
    | none => rfl
    | some o =>
      have e := KX T o q
      rw [hT] at e
      obtain rfl := Option.some.inj e
      have h2 := List.all_eq_true.mp hnt (T, _) (PySem.W.mem_of_lookupK q)
      exact absurd (show false = true from h2) Bool.false_ne_true
  have sH : Same H0 (upd H0 T (.tbl #[])) := fun b o e => by
    rw [upd_ne (ne_of_none e nT)]
    exact e
  have hTE : upd H0 T (.tbl #[]) T = some (.tbl #[]) := upd_same
  have hS := DwAll.more sH _ _ hS0
  have hK : ∀ b u, upd H0 T (.tbl #[]) b = some u → K.lookup b = none := fun b u q => by
    by_cases e : b = T
    · rw [e]
      exact KT
    · rw [upd_ne e] at q
      exact hK0 b u q
  have hok : HOk P w (upd H0 T (.tbl #[])) s₁.heap := fun b u q => by
    by_cases e : b = T
    · subst e
      rw [upd_same] at q
      cases q
      exact hT
    · rw [upd_ne e] at q
      exact (hok0 b u q).stay (fun c v _ z => z) (fun c z => sH _ _ z) fun c xs z => sH _ _ z
  have noA : ∀ {b : Addr} {o : Obj}, s₁.heap.get? b = some o → b ≠ T → (∀ vs : List Value, ∀ ep, o.data ≠ .seq vs.toArray ep) → upd H0 T (.tbl #[]) b = none := fun {b o} e hb d => by
    rw [upd_ne hb]
    exact noS e d
  have only : ∀ b, upd H0 T (.tbl #[]) b = none ∨ b = T ∨ ∃ o u, upd H0 T (.tbl #[]) b = some (.frz o u) := fun b => by
    by_cases e : b = T
    · exact .inr (.inl e)
    · rw [upd_ne e]
      rcases hO0 b with z | z
      · exact .inl z
      · exact .inr (.inr z)
  generalize upd H0 T (.tbl #[]) = H at hTE hok hS hK noA only
  have base_of : ∀ {b : Addr} {o : Obj}, s₁.heap.get? b = some o → H b = none → (hidT s₁.heap H).get? b = some o := fun e n => hidT_get e n
  have nsK : ∀ {b : Addr} {m : Str → Option Value}, s₁.heap.Ns b m → (hidT s₁.heap H).Ns b m := fun {b m} ⟨o, es, ep, e, d, r⟩ => ⟨o, es, ep, base_of e (noA e (fun z => by
      rw [z, hT] at e
      cases e
      cases d) (fun vs ep z => by rw [d] at z; cases z)), d, r⟩
  have nK : ∀ b o, K.lookup b = some o → H b = none := fun b o e => by
    cases q : H b with
    | none => rfl
    | some u =>
      rw [hK b u q] at e
      cases e
  have hKb : K.In (hidT s₁.heap H) := fun b o e => base_of (KX b o e) (nK b o e)
  have LB : LamB mg (hidT s₁.heap H) c T := by
    constructor
    · obtain ⟨o, vs, file, tf, flags, tg, inF, text, tt, e1, r1, r2, r3, r4, r5, r6, r7, r8, hne⟩ := hcd
      exact ⟨o, vs, file, tf, flags, tg, inF, text, tt, base_of e1 (noA e1 hne fun us ep z => by rw [r2] at z; cases z), r1, r2, r3, r4, r5, r6, r7, r8, hne⟩
    · obtain ⟨bm, ob, b1, b2, b3, b4, b5, b6⟩ := hbm
      exact ⟨bm, ob, b1, b2, base_of b3 (noA b3 (fun z => by
        rw [z, hT] at b3
        cases b3
        cases b4) fun us ep z => by rw [b6] at z; cases z), b4, b5, b6⟩
  have hM : Mod K mg (hidT s₁.heap H) := ⟨hKb, nsK hns, ⟨mb, nsK hb, hbb⟩, let ⟨mc, h1, h2⟩ := hlim; ⟨mc, nsK h1, h2⟩⟩
  have e0 : Env0 P w K mg (hidT s₁.heap H) callerA [] s₁ H := ⟨rfl, hM, fun b o e => of_hidT e, Nat.le_of_eq (hidT_size _ _), trivial, fun b hb => absurd (show b ∈ ([] : List Addr) from hb) (by simp), hok, .of_eq hg⟩
  have hl : vals.length = ps.length := by rw [wellAll_len hwl]; exact hlen
  refine codeAny_mono ((F _ hKb (nsK hns) LB).run callerA [] s₁ H ⟨vals, []⟩ vals (vals.map toV) _ _ hr e0 (hbind s₁ vals hl) hV (hsp H _ hTE hS)) fun r s' x => ?_
  cases r with
  | error e => exact (hCX H e s' x).elim
  | ok fl =>
    cases fl with
    | next => exact False.elim x
    | brk => exact False.elim x
    | cont => exact False.elim x
    | ret u =>
      obtain ⟨v, H', os, bare, un, hok', r', q⟩ := x
      have kept : ∀ b o, b ≠ T → s₁.heap.get? b = some o → s'.heap.get? b = some o := fun b o hb e => by
        cases q2 : H b with
        | none => exact un.keep b o e q2 (by intro z; exact absurd (show b ∈ ([] : List Addr) from z) (by simp)) (by simp)
        | some u2 =>
          rcases only b with z | z | ⟨ob, u3, z⟩
          · rw [q2] at z
            cases z
          · exact absurd z hb
          · have z2 := un.frzs b ob _ z
            obtain ⟨e1, _⟩ := hok b _ z
            obtain ⟨e2, _⟩ := hok' b _ z2
            rw [e] at e1
            cases e1
            exact e2
      obtain ⟨more, hT2⟩ := un.tbls T #[] hTE
      have hT3 : s'.heap.get? T = some { cls := .none, data := .fields (#[] ++ more) } := hok' T _ hT2
      have KX' : K.In s'.heap := fun b o e => kept b o (fun z => by
        rw [z, KT] at e
        cases e) (KX b o e)
      obtain ⟨as, hrd⟩ := Dw.reads (R := R) (cl := cl) hok' KX' d0 v u q r'
      refine ⟨u, as, rfl, hrd, ⟨fun b o e => ?_, fun b o e => ?_⟩, os, bare⟩
      · by_cases hb : b = T
        · subst hb
          rw [hT] at e
          obtain rfl := Option.some.inj e
          exact .inr (.inl ⟨(hcd.tab hT).isCodeTable, rfl, #[], more, rfl, hT3⟩)
        · exact .inl (kept b o hb e)
      · by_cases hb : b = T
        · exact ⟨_, by rw [hb]; exact hT3⟩
        · exact ⟨o, kept b o hb e⟩
theorem walk_specT {r : OpenSpec} {k : Nat} {q : Program} {loose : List Str} {XP : (Str → Option Value) → Heap → Prop} {YP : World → Heap → Prop} {d d' : DefRec} {K : Params → PySem.W.Frag} {CX : CXT} {ps : List Str} {x : Str} {c T : Addr} {sp : PySem.W.Frag → Addr → Sp}
    (hwell : r.wellSaid = true) (_hdf : d.params.defaults = []) (hlen : r.args.length = ps.length) (hr : Room k callerA)
    (hY : ∀ (w : World) (h : Heap), YP w h → (K w.params).In h)
    (hrec : (recsOf q).find? (fun e => e.name == x) = some d') (hct : ∀ pr, PySem.W.tabIn (K pr) x = some (c, T)) (hnt : ∀ pr, PySem.W.noTabs (K pr) = true)
    (F : ∀ (w : World) (mg : Str → Option Value) (fa : Addr) (h : Heap), YP w h → (K w.params).In h → h.Ns mainGlobals mg → mg d.name = some (.ref fa) →
      ∃ fd : FuncData, (∀ (s : Shared) (us : List Value), us.length = ps.length → BindsTo s fd ⟨us, []⟩ (ps.zip us)) ∧
        ∀ base : Heap, (K w.params).In base → base.Ns mainGlobals mg → LamB mg base c T → FnOk r.prog w (K w.params) mg base CX k fa fd ps (sp (K w.params) T))
    (hsp : ∀ (K : PySem.W.Frag) (H : Hp) (xs : List V) (a : Codec.denoteAll r.args), TabE H T → Codec.withinAll r.args a = true → Codec.app r.args r.asked a = true → DwAll K H xs (Codec.encAll r.args a) →
      sp K T xs H (fun v H' => Dw K H' v (r.ret.enc (Codec.app r.args r.f a))) fun _ _ _ => False)
    (hCX : ∀ (H : Hp) (s : Shared) (e : Value) (s' : Shared), CX [] H s (fun _ _ _ => False) e s' → False) :
    PySem.W.WalkOS q loose XP YP r d [] (fun f vs => PySem.call f vs) := by
  intro w s_0 s₁ mg mb G Y fa o pm cd doc dV kV ho hd hcd hD hmg hg args vals as hpre hlay hrd hwl hlo
  obtain ⟨a, e1, e2⟩ := PySem.W.os_pre_some hpre
  obtain ⟨e3, hwi⟩ := Codec.encAll_of_decAll r.args args a e1
  subst e3
  have KX := hY w _ Y
  obtain ⟨fd, hb, hF⟩ := F w mg fa _ Y KX G.T.g hmg
  obtain ⟨t1, t2⟩ := PySem.W.tab_of G.T KX hrec (hct w.params)
  refine PySem.W.enter_call (codeAny_mono (spec_callT (R := []) (cl := classAt s_0.heap) (d0 := r.ret.enc (Codec.app r.args r.f a)) KX G.T.g G.T.b G.T.builtins G.T.nolimit hg t1 t2 (hnt w.params) G.T.bmain hwl (pl_encAll _ _) (layable_weight hlay) hr hF hb (by rw [encAll_len]; exact hlen)
    (fun H xs hO hS => hsp (K w.params) H xs a hO hwi e2 hS) fun H e s' => hCX H s₁ e s') fun r' s' hq => ?_)
  obtain ⟨u, as', rfl, h1, h2, h3, h4⟩ := hq
  exact ⟨.inl ⟨u, _, as', rfl, fun _ => rfl, h1, (OpenSpec.post_iff hwell hwi _ _).mpr rfl, fun z => Bool.noConfusion (show false = true from z)⟩, h2, h3, h4⟩
end L2

section
set_option Elab.async false
namespace My
/-! ### coefficients; division by a polynomial whose first coefficient is 1, as functions -/
def cf (p : List Int) (i : Nat) : Int := p.getD i 0
/-- q moved up by t -/
def sh (q : Nat → Int) (t : Nat) : Nat → Int := fun j => if t ≤ j then q (j - t) else 0
/-- what stands at n + t made nothing by q -/
def el (q : Nat → Int) (n t : Nat) (f : Nat → Int) : Nat → Int := fun j => f j - f (n + t) * sh q t j
/-- i turns, from the top down -/
def run (q : Nat → Int) (n m : Nat) : Nat → (Nat → Int) → Nat → Int
  | 0, f => f
  | i + 1, f => el q n (m - 1 - i) (run q n m i f)
def qt (q : Nat → Int) (n m : Nat) (f : Nat → Int) (t : Nat) : Int := run q n m (m - 1 - t) f (n + t)
def rd (q : Nat → Int) (n m : Nat) (f : Nat → Int) : Nat → Int := run q n m m f
theorem run_lin (q : Nat → Int) (n m : Nat) (f g : Nat → Int) (a : Int) : ∀ i, run q n m i (fun j => f j - a * g j) = fun j => run q n m i f j - a * run q n m i g j
  | 0 => rfl
  | i + 1 => by
    funext j
    show run q n m i (fun j => f j - a * g j) j - run q n m i (fun j => f j - a * g j) (n + (m - 1 - i)) * sh q (m - 1 - i) j = (run q n m i f j - run q n m i f (n + (m - 1 - i)) * sh q (m - 1 - i) j) - a * (run q n m i g j - run q n m i g (n + (m - 1 - i)) * sh q (m - 1 - i) j)
    rw [run_lin q n m f g a i]
    simp only [Int.sub_mul, Int.mul_sub, Int.mul_assoc]
    omega
theorem run_low (q : Nat → Int) (n m : Nat) {f : Nat → Int} (h : ∀ j, n ≤ j → f j = 0) : ∀ i, run q n m i f = f
  | 0 => rfl
  | i + 1 => by
    funext j
    show run q n m i f j - run q n m i f (n + (m - 1 - i)) * sh q (m - 1 - i) j = f j
    rw [run_low q n m h i, h (n + (m - 1 - i)) (Nat.le_add_right _ _), Int.zero_mul, Int.sub_zero]
section
variable {q : Nat → Int} {n : Nat} (h1 : q n = 1) (h0 : ∀ j, n < j → q j = 0)
include h0
theorem run_sh_lt {m t : Nat} : ∀ i, i ≤ m - 1 - t → run q n m i (sh q t) = sh q t
  | 0, _ => rfl
  | i + 1, hi => by
    funext j
    show run q n m i (sh q t) j - run q n m i (sh q t) (n + (m - 1 - i)) * sh q (m - 1 - i) j = sh q t j
    rw [run_sh_lt i (by omega)]
    have e : sh q t (n + (m - 1 - i)) = 0 := by
      unfold sh
      rw [if_pos (by omega)]
      exact h0 _ (by omega)
    rw [e, Int.zero_mul, Int.sub_zero]
include h1
theorem run_sh_ge {m t : Nat} (ht : t < m) : ∀ i, m - 1 - t < i → run q n m i (sh q t) = fun _ => 0
  | 0, h => absurd h (Nat.not_lt_zero _)
  | i + 1, hi => by
    funext j
    show run q n m i (sh q t) j - run q n m i (sh q t) (n + (m - 1 - i)) * sh q (m - 1 - i) j = 0
    by_cases hh : m - 1 - t < i
    · rw [run_sh_ge ht i hh, Int.zero_mul]
      exact Int.sub_zero 0
    · have ei : m - 1 - i = t := by omega
      rw [run_sh_lt h0 i (by omega), ei]
      have e : sh q t (n + t) = 1 := by
        unfold sh
        rw [if_pos (by omega), Nat.add_sub_cancel]
        exact h1
      rw [e, Int.one_mul, Int.sub_self]
/-- one step of any division leaves the rest as it is -/
theorem rd_step {m t : Nat} (ht : t < m) (f : Nat → Int) (a : Int) : rd q n m (fun j => f j - a * sh q t j) = rd q n m f := by
  unfold rd
  rw [run_lin, run_sh_ge h1 h0 ht m (by omega)]
  funext j
  show run q n m m f j - a * 0 = _
  rw [Int.mul_zero, Int.sub_zero]
theorem qt_step {m t : Nat} (ht : t < m) (f : Nat → Int) (a : Int) {u : Nat} (hu : u < m) : qt q n m (fun j => f j - a * sh q t j) u = qt q n m f u - (if u = t then a else 0) := by
  unfold qt
  rw [run_lin]
  show run q n m (m - 1 - u) f (n + u) - a * run q n m (m - 1 - u) (sh q t) (n + u) = _
  by_cases e : u = t
  · subst e
    rw [if_pos rfl, run_sh_lt h0 _ (by omega)]
    have e2 : sh q u (n + u) = 1 := by
      unfold sh
      rw [if_pos (by omega), Nat.add_sub_cancel]
      exact h1
    rw [e2, Int.mul_one]
  · rw [if_neg e, Int.sub_zero]
    by_cases hlt : u < t
    · rw [run_sh_ge h1 h0 ht _ (by omega)]
      show _ - a * 0 = _
      rw [Int.mul_zero, Int.sub_zero]
    · rw [run_sh_lt h0 _ (by omega)]
      have e2 : sh q t (n + u) = 0 := by
        unfold sh
        rw [if_pos (by omega)]
        exact h0 _ (by omega)
      rw [e2, Int.mul_zero, Int.sub_zero]
end
theorem rd_low (q : Nat → Int) (n m : Nat) {f : Nat → Int} (h : ∀ j, n ≤ j → f j = 0) : rd q n m f = f := run_low q n m h m
theorem qt_low (q : Nat → Int) (n m : Nat) {f : Nat → Int} (h : ∀ j, n ≤ j → f j = 0) (t : Nat) : qt q n m f t = 0 := by
  unfold qt
  rw [run_low q n m h]
  exact h _ (Nat.le_add_right _ _)
theorem run_front (q : Nat → Int) (n m : Nat) (f : Nat → Int) : ∀ i, run q n (m + 1) (i + 1) f = run q n m i (el q n m f)
  | 0 => by
    show el q n (m + 1 - 1 - 0) f = el q n m f
    rfl
  | i + 1 => by
    show el q n (m + 1 - 1 - (i + 1)) (run q n (m + 1) (i + 1) f) = el q n (m - 1 - i) (run q n m i (el q n m f))
    rw [run_front q n m f i]
    have e : m + 1 - 1 - (i + 1) = m - 1 - i := by omega
    rw [e]
/-! ### lists -/
theorem cf_ge {p : List Int} {i : Nat} (h : p.length ≤ i) : cf p i = 0 := by
  unfold cf
  rw [List.getD_eq_getElem?_getD, List.getElem?_eq_none h]
  rfl
theorem cf_get {p : List Int} {i : Nat} (h : i < p.length) : cf p i = p[i] := by
  unfold cf
  rw [List.getD_eq_getElem?_getD, List.getElem?_eq_getElem h]
  rfl
theorem cf_get? {p : List Int} {i : Nat} (h : i < p.length) : p[i]? = some (cf p i) := by
  rw [cf_get h, List.getElem?_eq_getElem h]
theorem cf_ext {p r : List Int} (hl : p.length = r.length) (h : ∀ i, i < p.length → cf p i = cf r i) : p = r := by
  refine List.ext_getElem hl fun i h1 h2 => ?_
  have := h i h1
  rw [cf_get h1, cf_get h2] at this
  exact this
theorem cf_map_range (g : Nat → Int) (m i : Nat) : cf ((List.range m).map g) i = if i < m then g i else 0 := by
  by_cases h : i < m
  · rw [if_pos h, cf_get (by simpa using h)]
    simp
  · rw [if_neg h, cf_ge (by simpa using h)]
theorem cf_snoc (p : List Int) (a : Int) (i : Nat) : cf (p ++ [a]) i = if i < p.length then cf p i else if i = p.length then a else 0 := by
  by_cases h : i < p.length
  · rw [if_pos h, cf_get h, cf_get (by simp; omega), List.getElem_append_left h]
  · rw [if_neg h]
    by_cases e : i = p.length
    · subst e
      rw [if_pos rfl, cf_get (by simp)]
      simp
    · rw [if_neg e, cf_ge (by simp; omega)]
/-! ### without noughts at the end -/
theorem trimmed_snoc (p : List Int) (a : Int) : Cy.trimmed (p ++ [a]) = if a = 0 then Cy.trimmed p else p ++ [a] := by
  unfold Cy.trimmed
  rw [List.reverse_append]
  show (List.dropWhile _ (a :: p.reverse)).reverse = _
  rw [List.dropWhile_cons]
  by_cases h : a = 0
  · rw [if_pos h, if_pos (by simpa using h)]
  · rw [if_neg h, if_neg (by simpa using h)]
    simp
theorem snoc_cases (p : List Int) : p = [] ∨ ∃ r a, p = r ++ [a] := by
  cases h : p.reverse with
  | nil =>
    left
    simpa using h
  | cons a r =>
    right
    refine ⟨r.reverse, a, ?_⟩
    have := congrArg List.reverse h
    simpa using this
theorem trimmed_all : ∀ (k : Nat) (p : List Int), p.length = k → (∀ i, cf (Cy.trimmed p) i = cf p i) ∧ (Cy.trimmed p).length ≤ p.length ∧ (Cy.trimmed p = [] ∨ cf p ((Cy.trimmed p).length - 1) ≠ 0 ∧ Cy.trimmed p ≠ [])
  | 0, p, h => by
    have e : p = [] := List.eq_nil_of_length_eq_zero h
    subst e
    exact ⟨fun i => rfl, Nat.le_refl _, .inl rfl⟩
  | k + 1, p, h => by
    rcases snoc_cases p with e | ⟨r, a, e⟩
    · subst e
      simp at h
    · subst e
      have hr : r.length = k := by simpa using h
      obtain ⟨i1, i2, i3⟩ := trimmed_all k r hr
      rw [trimmed_snoc]
      by_cases ha : a = 0
      · rw [if_pos ha]
        refine ⟨fun i => ?_, by simp; omega, ?_⟩
        · rw [i1 i, cf_snoc]
          by_cases hi : i < r.length
          · rw [if_pos hi]
          · rw [if_neg hi, cf_ge (by omega)]
            by_cases e : i = r.length
            · rw [if_pos e, ha]
            · rw [if_neg e]
        · rcases i3 with i3 | ⟨i3, i4⟩
          · exact .inl i3
          · refine .inr ⟨?_, i4⟩
            have hpos : 0 < (Cy.trimmed r).length := List.length_pos_iff.mpr i4
            rw [cf_snoc, if_pos (by omega)]
            exact i3
      · rw [if_neg ha]
        refine ⟨fun i => rfl, Nat.le_refl _, .inr ⟨?_, by simp⟩⟩
        rw [cf_snoc]
        simp
        exact ha
theorem trimmed_cf (p : List Int) (i : Nat) : cf (Cy.trimmed p) i = cf p i := (trimmed_all _ p rfl).1 i
theorem trimmed_le (p : List Int) : (Cy.trimmed p).length ≤ p.length := (trimmed_all _ p rfl).2.1
theorem trimmed_last {p : List Int} (h : 0 < (Cy.trimmed p).length) : cf p ((Cy.trimmed p).length - 1) ≠ 0 := by
  rcases (trimmed_all _ p rfl).2.2 with e | ⟨e, _⟩
  · rw [e] at h
    simp at h
  · exact e
theorem trimmed_short {p : List Int} {k : Nat} (h : ∀ j, k ≤ j → cf p j = 0) : (Cy.trimmed p).length ≤ k := by
  by_cases hh : (Cy.trimmed p).length ≤ k
  · exact hh
  · exact absurd (h _ (by omega)) (trimmed_last (p := p) (by omega))
/-- lists with the same coefficients, the one ending with no nought -/
theorem trimmed_is {p l : List Int} (h : ∀ i, cf p i = cf l i) (hl : l = [] ∨ cf l (l.length - 1) ≠ 0) : Cy.trimmed p = l := by
  have h1 : (Cy.trimmed p).length ≤ l.length := trimmed_short fun j hj => by rw [h j]; exact cf_ge hj
  have h2 : l.length ≤ (Cy.trimmed p).length := by
    rcases hl with e | e
    · subst e
      exact Nat.zero_le _
    · by_cases hh : l.length ≤ (Cy.trimmed p).length
      · exact hh
      · exfalso
        apply e
        rw [← h, ← trimmed_cf]
        exact cf_ge (by omega)
  refine cf_ext (by omega) fun i _ => ?_
  rw [trimmed_cf, h]
/-! ### the specification's division -/
theorem less_cf (p r : List Int) (i : Nat) : cf (Cy.lessPoly p r) i = cf p i - cf r i := by
  unfold Cy.lessPoly
  rw [cf_map_range]
  by_cases h : i < max p.length r.length
  · rw [if_pos h]
    rfl
  · rw [if_neg h, cf_ge (p := p) (by omega), cf_ge (p := r) (by omega)]
    rfl
theorem less_len (p r : List Int) : (Cy.lessPoly p r).length = max p.length r.length := by
  unfold Cy.lessPoly
  simp
theorem cf_rep_append (k : Nat) (r : List Int) (i : Nat) : cf (List.replicate k 0 ++ r) i = sh (cf r) k i := by
  unfold sh cf
  rw [List.getD_eq_getElem?_getD]
  by_cases h : k ≤ i
  · rw [if_pos h, List.getElem?_append_right (by simpa using h)]
    simp [List.getD_eq_getElem?_getD]
  · rw [if_neg h, List.getElem?_append_left (by simpa using Nat.lt_of_not_le h)]
    simp [Nat.lt_of_not_le h]
theorem cf_map_mul (a : Int) (r : List Int) (i : Nat) : cf (r.map fun b => a * b) i = a * cf r i := by
  by_cases h : i < r.length
  · rw [cf_get (by simpa using h), cf_get h]
    simp
  · rw [cf_ge (by simpa using Nat.le_of_not_lt h), cf_ge (by omega), Int.mul_zero]
theorem getLastD_cf (p : List Int) : p.getLastD 0 = cf p (p.length - 1) := by
  rcases snoc_cases p with e | ⟨r, a, e⟩
  · subst e
    rfl
  · subst e
    rw [cf_snoc]
    simp
theorem divide_ok {q : List Int} {n : Nat} (hq : q.length = n + 1) (h1 : cf q n = 1) (m : Nat) : ∀ (f : Nat) (p k : List Int), p.length ≤ n + m → (Cy.trimmed p).length ≤ n + f →
    (∀ j, n ≤ j → cf (Cy.divideFrom q f p k).2 j = 0) ∧ (∀ j, cf (Cy.divideFrom q f p k).2 j = rd (cf q) n m (cf p) j) ∧ (∀ t, cf (Cy.divideFrom q f p k).1 t = cf k t + if t < m then qt (cf q) n m (cf p) t else 0) := by
  have h0 : ∀ j, n < j → cf q j = 0 := fun j hj => cf_ge (by omega)
  have base : ∀ p k : List Int, (Cy.trimmed p).length ≤ n → (∀ j, n ≤ j → cf p j = 0) ∧ (∀ j, cf p j = rd (cf q) n m (cf p) j) ∧ (∀ t, cf k t = cf k t + if t < m then qt (cf q) n m (cf p) t else 0) := by
    intro p k h
    have hz : ∀ j, n ≤ j → cf p j = 0 := fun j hj => by rw [← trimmed_cf]; exact cf_ge (by omega)
    refine ⟨hz, fun j => by rw [rd_low _ _ _ hz], fun t => ?_⟩
    by_cases ht : t < m
    · rw [if_pos ht, qt_low _ _ _ hz, Int.add_zero]
    · rw [if_neg ht, Int.add_zero]
  intro f
  induction f with
  | zero =>
    intro p k _ h
    exact base p k h
  | succ f ih =>
    intro p k hp hf
    unfold Cy.divideFrom
    by_cases hc : (Cy.trimmed p).length < q.length
    · rw [if_pos hc]
      exact base p k (by omega)
    · rw [if_neg hc]
      dsimp only
      have hN : ∃ N, (Cy.trimmed p).length = n + N + 1 := ⟨(Cy.trimmed p).length - (n + 1), by omega⟩
      obtain ⟨N, eN⟩ := hN
      have e1 : (Cy.trimmed p).length - q.length = N := by omega
      have e2 : (Cy.trimmed p).getLastD 0 = cf p (n + N) := by
        rw [getLastD_cf, trimmed_cf, eN]
        rfl
      have hle := trimmed_le p
      rw [e1, e2]
      generalize ha : cf p (n + N) = a
      have ep : ∀ j, cf (Cy.lessPoly p (List.replicate N 0 ++ q.map fun b => a * b)) j = cf p j - a * sh (cf q) N j := by
        intro j
        rw [less_cf, cf_rep_append]
        unfold sh
        by_cases h : N ≤ j
        · rw [if_pos h, if_pos h, cf_map_mul]
        · rw [if_neg h, if_neg h, Int.mul_zero]
      have epf : cf (Cy.lessPoly p (List.replicate N 0 ++ q.map fun b => a * b)) = fun j => cf p j - a * sh (cf q) N j := funext ep
      have el' : (Cy.lessPoly p (List.replicate N 0 ++ q.map fun b => a * b)).length ≤ n + m := by
        rw [less_len]
        simp
        omega
      have es : (Cy.trimmed (Cy.lessPoly p (List.replicate N 0 ++ q.map fun b => a * b))).length ≤ n + f := by
        refine Nat.le_trans (trimmed_short (k := n + N) fun j hj => ?_) (by omega)
        rw [ep]
        by_cases e : j = n + N
        · subst e
          rw [ha]
          have : sh (cf q) N (n + N) = 1 := by
            unfold sh
            rw [if_pos (by omega), Nat.add_sub_cancel]
            exact h1
          rw [this, Int.mul_one, Int.sub_self]
        · have e5 : cf p j = 0 := by
            rw [← trimmed_cf]
            exact cf_ge (by omega)
          have e6 : sh (cf q) N j = 0 := by
            unfold sh
            rw [if_pos (by omega)]
            exact h0 _ (by omega)
          rw [e5, e6, Int.mul_zero]
          rfl
      have ht : N < m := by omega
      obtain ⟨r1, r2, r3⟩ := ih _ (Cy.lessPoly k (List.replicate N 0 ++ [-a])) el' es
      refine ⟨r1, fun j => ?_, fun t => ?_⟩
      · rw [r2, epf, rd_step h1 h0 ht]
      · rw [r3, less_cf, cf_rep_append, epf]
        have e7 : sh (cf [-a]) N t = if t = N then -a else 0 := by
          unfold sh
          by_cases h : N ≤ t
          · rw [if_pos h]
            by_cases e : t = N
            · subst e
              rw [if_pos rfl, Nat.sub_self]
              rfl
            · rw [if_neg e]
              exact cf_ge (by simp; omega)
          · rw [if_neg h, if_neg (by omega)]
        rw [e7]
        by_cases htm : t < m
        · rw [if_pos htm, if_pos htm, qt_step h1 h0 ht _ _ htm]
          by_cases e : t = N
          · rw [if_pos e, if_pos e]
            omega
          · rw [if_neg e, if_neg e]
            omega
        · rw [if_neg htm, if_neg htm, if_neg (by omega)]
          omega
/-- **the quotient's list** -/
def ql (q p : List Int) (n m : Nat) : List Int := (List.range m).map fun t => qt (cf q) n m (cf p) t
theorem ql_len (q p : List Int) (n m : Nat) : (ql q p n m).length = m := by simp [ql]
theorem ql_top (q p : List Int) (n m : Nat) : cf (ql q p n (m + 1)) m = cf p (n + m) := by
  unfold ql
  rw [cf_map_range, if_pos (by omega)]
  unfold qt
  have e : m + 1 - 1 - m = 0 := by omega
  rw [e]
  rfl
theorem divide_q {q p : List Int} {n m : Nat} (hq : q.length = n + 1) (h1 : cf q n = 1) (hp : p.length = n + (m + 1)) (hp1 : cf p (n + m) = 1) : Cy.trimmed (Cy.divide p q).1 = ql q p n (m + 1) := by
  have hd := divide_ok hq h1 (m + 1) (p.length + 1) p [] (by omega) (by have := trimmed_le p; omega)
  refine trimmed_is (fun i => ?_) (.inr ?_)
  · show cf (Cy.divideFrom q (p.length + 1) p []).1 i = _
    rw [hd.2.2 i]
    unfold ql
    rw [cf_map_range]
    have : cf [] i = 0 := cf_ge (Nat.zero_le _)
    rw [this, Int.zero_add]
  · rw [ql_len]
    show cf _ m ≠ 0
    rw [ql_top, hp1]
    decide
theorem divide_r {q p : List Int} {n m : Nat} (hq : q.length = n + 1) (h1 : cf q n = 1) (hp : p.length ≤ n + m) (i : Nat) : cf (Cy.divide p q).2 i = rd (cf q) n m (cf p) i :=
  (divide_ok hq h1 m (p.length + 1) p [] hp (by have := trimmed_le p; omega)).2.1 i
/-! ### the quotient, reckoned fast -/
def subMul (a : Int) : List Int → List Int → List Int
  | [], _ => []
  | x :: w, [] => x :: w
  | x :: w, y :: q => (x - a * y) :: subMul a w q
def synth (q : List Int) : Nat → List Int → List Int
  | 0, _ => []
  | _ + 1, [] => []
  | m + 1, a :: w => a :: synth q m (subMul a w q)
def qs (p q : List Int) : List Int := (synth q.reverse.tail (p.length - (q.length - 1)) p.reverse).reverse
theorem subMul_len (a : Int) : ∀ w q : List Int, (subMul a w q).length = w.length
  | [], _ => rfl
  | x :: w, [] => rfl
  | x :: w, y :: q => by
    show (subMul a w q).length + 1 = w.length + 1
    rw [subMul_len a w q]
theorem subMul_cf (a : Int) : ∀ (w q : List Int) (j : Nat), j < w.length → cf (subMul a w q) j = cf w j - a * cf q j
  | [], _, j, h => absurd h (Nat.not_lt_zero _)
  | x :: w, [], j, h => by
    have e : cf ([] : List Int) j = 0 := cf_ge (Nat.zero_le _)
    rw [e, Int.mul_zero, Int.sub_zero]
    rfl
  | x :: w, y :: q, 0, h => rfl
  | x :: w, y :: q, j + 1, h => subMul_cf a w q j (Nat.lt_of_succ_lt_succ h)
theorem synth_ok {q : Nat → Int} {n : Nat} {qr : List Int} (hl : qr.length = n) (hr : ∀ j, j < n → cf qr j = q (n - 1 - j)) : ∀ (m : Nat) (w : List Int) (F : Nat → Int), w.length = n + m → (∀ j, j < n + m → cf w j = F (n + m - 1 - j)) → synth qr m w = (List.range m).map fun i => run q n m i F (n + m - 1 - i)
  | 0, w, F, _, _ => rfl
  | m + 1, [], F, h, _ => by simp at h
  | m + 1, a :: w, F, h, hF => by
    have ha : a = F (n + m) := by
      have := hF 0 (by omega)
      have e : n + (m + 1) - 1 - 0 = n + m := by omega
      rw [e] at this
      exact this
    have hw : w.length = n + m := by
      have : w.length + 1 = n + (m + 1) := h
      omega
    show a :: synth qr m (subMul a w qr) = _
    rw [synth_ok hl hr m (subMul a w qr) (el q n m F) (by rw [subMul_len]; exact hw) ?_]
    · rw [List.range_succ_eq_map, List.map_cons, List.map_map]
      have e0 : run q n (m + 1) 0 F (n + (m + 1) - 1 - 0) = a := by
        rw [ha]
        show F _ = _
        congr 1
      rw [e0]
      congr 1
      refine List.map_congr_left fun i hi => ?_
      have hi' : i < m := List.mem_range.mp hi
      show _ = run q n (m + 1) (i + 1) F (n + (m + 1) - 1 - (i + 1))
      rw [run_front]
      congr 1
      omega
    · intro j hj
      rw [subMul_cf a w qr j (by omega)]
      have e1 : cf w j = F (n + m - 1 - j) := by
        have := hF (j + 1) (by omega)
        have e : n + (m + 1) - 1 - (j + 1) = n + m - 1 - j := by omega
        rw [e] at this
        exact this
      unfold el
      rw [e1, ha]
      congr 1
      congr 1
      unfold sh
      by_cases hjn : j < n
      · rw [hr j hjn, if_pos (by omega)]
        congr 1
        omega
      · rw [if_neg (by omega)]
        exact cf_ge (by omega)
theorem cf_rev (p : List Int) {j : Nat} (h : j < p.length) : cf p.reverse j = cf p (p.length - 1 - j) := by
  rw [cf_get (by simpa using h), cf_get (by omega), List.getElem_reverse]
theorem cf_tail (p : List Int) (j : Nat) : cf p.tail j = cf p (j + 1) := by
  cases p with
  | nil => rfl
  | cons a p => rfl
theorem qs_is {q p : List Int} {n m : Nat} (hq : q.length = n + 1) (hp : p.length = n + m) : qs p q = ql q p n m := by
  unfold qs
  have e : p.length - (q.length - 1) = m := by omega
  rw [e, synth_ok (q := cf q) (n := n) (by simp; omega) (fun j hj => ?_) m p.reverse (cf p) (by simpa using hp) (fun j hj => ?_)]
  · unfold ql
    refine cf_ext (by simp) fun i hi => ?_
    have hi' : i < m := by simpa using hi
    rw [cf_rev _ (by simpa using hi')]
    simp only [List.length_map, List.length_range]
    rw [cf_map_range, cf_map_range, if_pos (by omega), if_pos hi']
    unfold qt
    congr 1
    omega
  · rw [cf_tail, cf_rev _ (by omega)]
    congr 1
    omega
  · rw [cf_rev _ (by omega)]
    congr 1
    omega
end My

set_option Elab.async false
set_option maxRecDepth 100000
namespace My
/-! ### the polynomials' table, and what the kernel reckons of it -/
def tabs : List (Nat × Nat) := [
  (0, 0),
  (2, 16),
  (2, 18),
  (3, 93),
  (3, 88),
  (5, 2343),
  (3, 83),
  (7, 58593),
  (5, 2188),
  (7, 54813),
  (5, 2083),
  (11, 36621093),
  (5, 2163),
  (13, 915527343),
  (7, 52083),
  (9, 1291683),
  (9, 1367188),
  (17, 572204589843),
  (7, 54563),
  (19, 14305114746093),
  (9, 1352163),
  (13, 807241683),
  (11, 32552083),
  (23, 8940696716308593),
  (9, 1366563),
  (21, 333816538089063),
  (13, 813802083),
  (19, 13351442382813),
  (13, 845102163),
  (29, 139698386192321777343),
  (9, 1441443),
  (31, 3492459654808044433593),
  (17, 534057617188),
  (21, 315327799741683),
  (17, 508626302083),
  (25, 196711201986979683),
  (13, 854476563),
  (37, 54569682106375694274902343),
  (19, 12715657552083),
  (25, 197079873893491683),
  (17, 533813866563),
  (41, 34106051316484808921813964843),
  (13, 900991443),
  (43, 852651282912120223045349121093),
  (21, 330118032602163),
  (25, 208139449831054563),
  (23, 7947285970052083),
  (47, 532907051820075139403343200683593),
  (17, 534057226563),
  (43, 795810774471611261373901445313),
  (21, 333755502926563),
  (33, 76984325724287955991683),
  (25, 206323770376352163),
  (53, 8326672684688674053177237510681152343),
  (19, 13351438476563),
  (41, 30015654359299039108041979683),
  (25, 208521041626366563),
  (37, 48115203577665205924741683),
  (29, 124176343282063802083),
  (59, 130104260698260532080894336104393005371093),
  (17, 540150960963),
  (61, 3252606517456513302022358402609825134277343),
  (31, 3104408582051595052083),
  (37, 50815295368436813112304563),
  (33, 81490725278854370117188),
  (49, 11724864928203944366773478354479683),
  (21, 351951233491443),
  (67, 50821976835258020344099350040778517723083496093),
  (33, 80595222803262563852163),
  (45, 18795001397525231107588737241683),
  (25, 220513389584473443),
  (71, 31763735522036262715062093775486573576927185058593),
  (25, 208616256469726563),
  (73, 794093388050906567876552344387164339423179626464843),
  (37, 48506384094556172688802083),
  (41, 31829404179304742843627926563),
  (37, 50372014252039102407602163),
  (61, 2862302631470653907476494747861837572929683),
  (25, 219969522327241443),
  (79, 12407709188295415123071130381049442803487181663513183593),
  (33, 81490665674362182226563),
  (55, 194289029309402394581586122512817382813),
  (41, 30316490059097607930501302083),
  (83, 7754818242684634451919456488155901752179488539695739746093),
  (25, 210996475463460963),
  (65, 1789072406902865465476255367239329025229479683),
  (43, 757912251477440198262532552083),
  (57, 4588623388067683281998841031905143491683),
  (41, 31817785892695093307251366563),
  (89, 121169035041947413311241507627435964877804508432745933532714843),
  (25, 209093063108398563),
  (73, 698804350055678336203188322658931461667985229179683),
  (45, 19676568067202774377969595102163),
  (61, 2867889617542302051245670525297041862241683),
  (47, 473695157173400123914082845052083),
  (73, 698856408946218591396996439139077871580001791979683),
  (33, 81490725278701782226563),
  (97, 47331654313260708324703713916967173780392386106541380286216735839843),
  (43, 795804953705518960958862226563),
  (61, 3028827629592226912906866520170211549804563),
  (41, 31832313630730009078969726563),
  (101, 29582283945787942702939821198104483612745241316588362678885459899902343),
  (33, 85925594681748889741443),
  (103, 739557098644698567573495529952612090318631032914709066972136497497558593),
  (49, 12428822614334020823145065063866563),
  (49, 13285683071443306592608451779707843),
  (53, 7401486830834376936157544453938802083),
  (107, 462223186652936604733434706220382556449144395571693166857585310935974121093),
  (37, 50931703299280166625976563),
  (109, 11555579666323415118335867655509563911228609889292329171439632773399353027343),
  (41, 33647812399727202193979473443),
  (73, 700168363657788586729863359763722626432295768491683),
  (49, 12434488780878018528223190307226563),
  (113, 7222237291452134448959917284693477444517881180807705732149770483374595642089843),
  (37, 53703496676114854358491443),
  (89, 106637025290864520413989616838913965135983506840085861166979683),
  (57, 4803849625781927338371483179239126352163),
  (73, 739459870505914773658901154703002422574996706054563),
  (59, 115648231731787139627461632092793782552083),
  (97, 41651985044307752196723881297618999993277052107583491083883666679683),
  (33, 81527978086318725586563)]
def unrow : Nat → Nat → List Int
  | 0, _ => []
  | k + 1, x => (((x % 5 : Nat) : Int) - 2) :: unrow k (x / 5)
def tb (d : Nat) : List Int := unrow (tabs.getD d (0, 0)).1 (tabs.getD d (0, 0)).2
/-- X^e - 1 -/
def xm (e : Nat) : List Int := (-1) :: (List.replicate (e - 1) 0 ++ [1])
/-- the divisors; the smaller ones -/
def dv (d : Nat) : List Nat := (List.range (d + 1)).filter fun e => decide (1 ≤ e) && decide (d % e = 0)
def pd (d : Nat) : List Nat := (List.range d).filter fun e => decide (1 ≤ e) && decide (d % e = 0)
def go : List Nat → List Int → Option (List Int)
  | [], p => some p
  | x :: r, p => if (tb x).length ≤ p.length then go r (qs p (tb x)) else none
def chk1 (e : Nat) : Bool := decide (go (pd e) (xm e) = some (tb e)) && (decide ((tb e).getLastD 0 = 1) && ((tb e).all (fun c => decide (-2 ≤ c) && decide (c ≤ 2)) && (decide (2 ≤ (tb e).length) && decide ((tb e).length ≤ 121))))
def chk2 (d : Nat) : Bool := (List.range (dv d).length).all fun i => decide (((dv d).take i).filter (fun x => decide ((dv d).getD i 0 % x = 0)) = pd ((dv d).getD i 0))
theorem all2 : ((List.range 120).all fun i => chk2 (i + 1)) = true := by decide +kernel
theorem all1 : ((List.range 120).all fun i => chk1 (i + 1)) = true := by decide +kernel
end My

set_option Elab.async false
set_option maxRecDepth 100000
namespace My
/-! ### the specification's polynomials are the table's -/
def Mon (p : List Int) : Prop := ∃ k, p.length = k + 1 ∧ cf p k = 1
structure TbOk (e n : Nat) : Prop where
  len : (tb e).length = n + 1
  lo : 1 ≤ n
  hi : n ≤ 120
  one : cf (tb e) n = 1
  bd : ∀ c, c ∈ tb e → -2 ≤ c ∧ c ≤ 2
  go : My.go (pd e) (xm e) = some (tb e)
theorem tb_ok {e : Nat} (h1 : 1 ≤ e) (h2 : e ≤ 120) : ∃ n, TbOk e n := by
  have h := List.all_eq_true.mp all1 (e - 1) (List.mem_range.mpr (by omega))
  have e1 : e - 1 + 1 = e := by omega
  rw [e1] at h
  unfold chk1 at h
  simp only [Bool.and_eq_true, decide_eq_true_eq] at h
  obtain ⟨a, b, c, d, f⟩ := h
  refine ⟨(tb e).length - 1, by omega, by omega, by omega, ?_, fun x hx => ?_, a⟩
  · rw [← getLastD_cf]
    exact b
  · have := List.all_eq_true.mp c x hx
    simp only [Bool.and_eq_true, decide_eq_true_eq] at this
    exact this
theorem step_ok {p : List Int} (hp : Mon p) {x : Nat} (h1 : 1 ≤ x) (h2 : x ≤ 120) (hl : (tb x).length ≤ p.length) : Cy.trimmed (Cy.divide p (tb x)).1 = qs p (tb x) ∧ Mon (qs p (tb x)) := by
  obtain ⟨n, T⟩ := tb_ok h1 h2
  obtain ⟨k, ek, e1⟩ := hp
  have hlen := T.len
  have hm : ∃ m, k = n + m := ⟨k - n, by omega⟩
  obtain ⟨m, rfl⟩ := hm
  rw [qs_is T.len (n := n) (m := m + 1) (by omega)]
  refine ⟨divide_q T.len T.one (by omega) e1, m, ql_len _ _ _ _, ?_⟩
  rw [ql_top]
  exact e1
theorem go_all : ∀ (xs : List Nat) (p r : List Int), My.go xs p = some r → Mon p → (∀ x, x ∈ xs → 1 ≤ x ∧ x ≤ 120) →
    xs.foldl (fun p x => Cy.trimmed (Cy.divide p (tb x)).1) p = r ∧ xs.foldl (fun p x => qs p (tb x)) p = r ∧ ∀ (i x : Nat), xs[i]? = some x → Mon ((xs.take i).foldl (fun p x => qs p (tb x)) p) ∧ (tb x).length ≤ ((xs.take i).foldl (fun p x => qs p (tb x)) p).length
  | [], p, r, h, _, _ => by
    have e : p = r := Option.some.inj h
    subst e
    exact ⟨rfl, rfl, fun i x hx => by simp at hx⟩
  | x :: xs, p, r, h, hp, hx => by
    unfold My.go at h
    by_cases hl : (tb x).length ≤ p.length
    · rw [if_pos hl] at h
      obtain ⟨h1, h2⟩ := hx x (List.mem_cons_self ..)
      obtain ⟨s1, s2⟩ := step_ok hp h1 h2 hl
      obtain ⟨r1, r2, r3⟩ := go_all xs _ r h s2 (fun y hy => hx y (List.mem_cons_of_mem _ hy))
      refine ⟨?_, r2, fun i y hy => ?_⟩
      · rw [List.foldl_cons, s1]
        exact r1
      · match i, hy with
        | 0, hy =>
          have e : x = y := Option.some.inj hy
          subst e
          exact ⟨hp, hl⟩
        | i + 1, hy => exact r3 i y hy
    · rw [if_neg hl] at h
      cases h
theorem xm_mon {e : Nat} (h : 1 ≤ e) : Mon (xm e) := by
  refine ⟨e, by simp [xm]; omega, ?_⟩
  unfold xm
  obtain ⟨k, rfl⟩ : ∃ k, e = k + 1 := ⟨e - 1, by omega⟩
  show cf (List.replicate (k + 1 - 1) 0 ++ [1]) k = 1
  rw [cf_snoc]
  simp
theorem pd_mem {e x : Nat} (h : x ∈ pd e) : 1 ≤ x ∧ x < e ∧ e % x = 0 := by
  unfold pd at h
  rw [List.mem_filter, List.mem_range] at h
  simp only [Bool.and_eq_true, decide_eq_true_eq] at h
  omega
theorem dv_mem {e x : Nat} (h : x ∈ dv e) : 1 ≤ x ∧ x ≤ e ∧ e % x = 0 := by
  unfold dv at h
  rw [List.mem_filter, List.mem_range] at h
  simp only [Bool.and_eq_true, decide_eq_true_eq] at h
  omega
theorem dv_pd {e : Nat} (h : 1 ≤ e) : dv e = pd e ++ [e] := by
  unfold dv pd
  rw [List.range_succ, List.filter_append, List.filter_cons, if_pos (by simp [Nat.mod_self]; omega), List.filter_nil]
theorem dv_take {d i k : Nat} (h1 : 1 ≤ d) (h2 : d ≤ 120) (hk : (dv d)[i]? = some k) : ((dv d).take i).filter (fun x => decide (k % x = 0)) = pd k := by
  have h := List.all_eq_true.mp all2 (d - 1) (List.mem_range.mpr (by omega))
  have e1 : d - 1 + 1 = d := by omega
  rw [e1] at h
  unfold chk2 at h
  have hi : i < (dv d).length := (List.getElem?_eq_some_iff.mp hk).1
  have h := List.all_eq_true.mp h i (List.mem_range.mpr hi)
  rw [decide_eq_true_eq] at h
  have ek : (dv d).getD i 0 = k := by
    rw [List.getD_eq_getElem?_getD, hk]
    rfl
  rw [ek] at h
  exact h
theorem fold_if (k : Nat) : ∀ (l : List Nat) (p0 : List Int), (l.map fun e => (e, tb e)).foldl (fun (p : List Int) (x : Nat × List Int) => if k % x.1 = 0 then Cy.trimmed (Cy.divide p x.2).1 else p) p0 = (l.filter fun x => decide (k % x = 0)).foldl (fun p x => Cy.trimmed (Cy.divide p (tb x)).1) p0
  | [], p0 => rfl
  | x :: l, p0 => by
    rw [List.map_cons, List.foldl_cons, List.filter_cons]
    by_cases h : k % x = 0
    · rw [if_pos h, if_pos (by simpa using h), List.foldl_cons]
      exact fold_if k l _
    · rw [if_neg h, if_neg (by simpa using h)]
      exact fold_if k l _
theorem take_snoc {α : Type} : ∀ {l : List α} {i : Nat} {x : α}, l[i]? = some x → l.take (i + 1) = l.take i ++ [x]
  | [], i, x, h => by simp at h
  | a :: l, 0, x, h => by
    have e : a = x := Option.some.inj h
    subst e
    rfl
  | a :: l, i + 1, x, h => by
    have ih := take_snoc (l := l) (i := i) (x := x) h
    show a :: l.take (i + 1) = a :: l.take i ++ [x]
    rw [ih]
    rfl
theorem table_part {d : Nat} (h1 : 1 ≤ d) (h2 : d ≤ 120) : ∀ i, i ≤ (dv d).length → ((dv d).take i).foldl (fun (l : List (Nat × List Int)) (e : Nat) => l ++ [(e, l.foldl (fun (p : List Int) (x : Nat × List Int) => if e % x.1 = 0 then Cy.trimmed (Cy.divide p x.2).1 else p) (xm e))]) [] = ((dv d).take i).map fun e => (e, tb e)
  | 0, _ => by simp
  | i + 1, hi => by
    have hk : ∃ k, (dv d)[i]? = some k := ⟨_, List.getElem?_eq_getElem (by omega)⟩
    obtain ⟨k, hk⟩ := hk
    rw [take_snoc hk, List.foldl_append, table_part h1 h2 i (by omega), List.map_append, List.foldl_cons, List.foldl_nil]
    congr 1
    show [(k, _)] = [(k, tb k)]
    rw [fold_if, dv_take h1 h2 hk]
    have mk := dv_mem (List.mem_of_getElem? hk)
    obtain ⟨n, T⟩ := tb_ok mk.1 (by omega)
    rw [(go_all _ _ _ T.go (xm_mon mk.1) (fun x hx => by have := pd_mem hx; omega)).1]
theorem cyclo_tb {d : Nat} (h1 : 1 ≤ d) (h2 : d ≤ 120) : Cy.cyclo d = tb d := by
  have h := table_part h1 h2 (dv d).length (Nat.le_refl _)
  rw [List.take_length] at h
  unfold Cy.cyclo
  have e : Cy.cycloTable d = (dv d).map fun e => (e, tb e) := h
  rw [e, dv_pd h1, List.map_append]
  simp
/-- the inner loop's list, behind i divisors -/
def part (k i : Nat) : List Int := ((pd k).take i).foldl (fun p x => qs p (tb x)) (xm k)
theorem part_step {k i j : Nat} (h1 : 1 ≤ k) (h2 : k ≤ 120) (hj : (pd k)[i]? = some j) : part k (i + 1) = qs (part k i) (tb j) ∧ Mon (part k i) ∧ (tb j).length ≤ (part k i).length := by
  obtain ⟨n, T⟩ := tb_ok h1 h2
  have g := go_all _ _ _ T.go (xm_mon h1) (fun x hx => by have := pd_mem hx; omega)
  refine ⟨?_, g.2.2 i j hj⟩
  unfold part
  rw [take_snoc hj, List.foldl_append]
  rfl
theorem part_end {k : Nat} (h1 : 1 ≤ k) (h2 : k ≤ 120) : part k (pd k).length = tb k := by
  obtain ⟨n, T⟩ := tb_ok h1 h2
  have g := go_all _ _ _ T.go (xm_mon h1) (fun x hx => by have := pd_mem hx; omega)
  unfold part
  rw [List.take_length]
  exact g.2.1
theorem synth_len (q : List Int) : ∀ (m : Nat) (w : List Int), (synth q m w).length ≤ m
  | 0, _ => Nat.le_refl _
  | m + 1, [] => Nat.zero_le _
  | m + 1, a :: w => Nat.succ_le_succ (synth_len q m (subMul a w q))
theorem qs_len (p q : List Int) : (qs p q).length ≤ p.length := by
  unfold qs
  rw [List.length_reverse]
  exact Nat.le_trans (synth_len _ _ _) (Nat.sub_le _ _)
theorem fold_len : ∀ (xs : List Nat) (p : List Int), (xs.foldl (fun p x => qs p (tb x)) p).length ≤ p.length
  | [], _ => Nat.le_refl _
  | x :: xs, p => Nat.le_trans (fold_len xs (qs p (tb x))) (qs_len _ _)
theorem part_len {k i : Nat} (h1 : 1 ≤ k) : (part k i).length ≤ k + 1 := by
  refine Nat.le_trans (fold_len _ _) ?_
  simp [xm]
  omega
end My

set_option Elab.async false
namespace Sm
open Cy CyG My
/-! ### rows in fours and thirteens -/
theorem getD_drop (l : List Int) (k i : Nat) (z : Int) : (l.drop k).getD i z = l.getD (k + i) z := by
  rw [List.getD_eq_getElem?_getD, List.getD_eq_getElem?_getD, List.getElem?_drop]
theorem take4 {l : List Int} (h : 4 ≤ l.length) : l.take 4 = [l.getD 0 0, l.getD 1 0, l.getD 2 0, l.getD 3 0] := by
  match l, h with
  | a :: b :: c :: d :: r, _ => rfl
theorem fours_is : ∀ (n : Nat) (l : List Int) (k : Nat), l.length = 4 * k → 4 * k ≤ n → fours n l = (List.range k).map fun i => [l.getD (4 * i) 0, l.getD (4 * i + 1) 0, l.getD (4 * i + 2) 0, l.getD (4 * i + 3) 0]
  | 0, l, k, h, hn => by
    have e : k = 0 := by omega
    subst e
    rfl
  | n + 1, l, k, h, hn => by
    unfold fours
    cases k with
    | zero =>
      have e : l = [] := List.eq_nil_of_length_eq_zero (by omega)
      subst e
      rfl
    | succ k =>
      rw [if_neg (by
        intro q
        rw [List.isEmpty_iff] at q
        subst q
        simp at h), fours_is n (l.drop 4) k (by rw [List.length_drop]; omega) (by omega), List.range_succ_eq_map, List.map_cons, List.map_map, take4 (by omega)]
      congr 1
      refine List.map_congr_left fun i _ => ?_
      show [(l.drop 4).getD (4 * i) 0, (l.drop 4).getD (4 * i + 1) 0, (l.drop 4).getD (4 * i + 2) 0, (l.drop 4).getD (4 * i + 3) 0] = [l.getD (4 * (i + 1)) 0, l.getD (4 * (i + 1) + 1) 0, l.getD (4 * (i + 1) + 2) 0, l.getD (4 * (i + 1) + 3) 0]
      rw [getD_drop, getD_drop, getD_drop, getD_drop]
      have e0 : 4 + 4 * i = 4 * (i + 1) := by omega
      have e1 : 4 + (4 * i + 1) = 4 * (i + 1) + 1 := by omega
      have e2 : 4 + (4 * i + 2) = 4 * (i + 1) + 2 := by omega
      have e3 : 4 + (4 * i + 3) = 4 * (i + 1) + 3 := by omega
      rw [e0, e1, e2, e3]
theorem points_is {c p : List Int} {k : Nat} (h : p.length = 4 * k + 1) : (crystalIn c p).p = (List.range k).map fun i => [p.getD (4 * i + 1) 0, p.getD (4 * i + 2) 0, p.getD (4 * i + 3) 0, p.getD (4 * i + 4) 0] := by
  show fours p.length (p.drop 1) = _
  rw [fours_is p.length (p.drop 1) k (by rw [List.length_drop]; omega) (by omega)]
  refine List.map_congr_left fun i _ => ?_
  rw [getD_drop, getD_drop, getD_drop, getD_drop]
  have e0 : 1 + 4 * i = 4 * i + 1 := by omega
  have e1 : 1 + (4 * i + 1) = 4 * i + 2 := by omega
  have e2 : 1 + (4 * i + 2) = 4 * i + 3 := by omega
  have e3 : 1 + (4 * i + 3) = 4 * i + 4 := by omega
  rw [e0, e1, e2, e3]
/-! ### coefficients of sums -/
theorem cf_addAt {P : List Int} {i : Nat} (a : Int) (hi : i < P.length) (t : Nat) : cf (addAt P i a) t = cf P t + if i = t then a else 0 := by
  unfold addAt cf
  rw [List.getD_eq_getElem?_getD (l := P.set _ _), List.getElem?_set]
  by_cases e : i = t
  · subst e
    rw [if_pos rfl, if_pos hi, if_pos rfl]
    rfl
  · rw [if_neg e, if_neg e, Int.add_zero, List.getD_eq_getElem?_getD]
theorem addAt_len (P : List Int) (i : Nat) (a : Int) : (addAt P i a).length = P.length := by
  unfold addAt
  rw [List.length_set]
/-- a sum over a list -/
def sm {α : Type} (l : List α) (f : α → Int) : Int := (l.map f).sum
theorem sm_nil {α : Type} (f : α → Int) : sm [] f = 0 := rfl
theorem sm_cons {α : Type} (a : α) (l : List α) (f : α → Int) : sm (a :: l) f = f a + sm l f := by
  unfold sm
  rw [List.map_cons, List.sum_cons]
theorem sm_append {α : Type} (f : α → Int) : ∀ l l' : List α, sm (l ++ l') f = sm l f + sm l' f
  | [], l' => by rw [List.nil_append, sm_nil, Int.zero_add]
  | a :: l, l' => by rw [List.cons_append, sm_cons, sm_append f l l', sm_cons, Int.add_assoc]
theorem fold_add {α : Type} (e : α → Nat) (a : α → Int) : ∀ (l : List α) (P : List Int), (∀ x, x ∈ l → e x < P.length) → (l.foldl (fun P x => addAt P (e x) (a x)) P).length = P.length ∧ ∀ t, cf (l.foldl (fun P x => addAt P (e x) (a x)) P) t = cf P t + sm l fun x => if e x = t then a x else 0
  | [], P, _ => ⟨rfl, fun t => by rw [sm_nil, Int.add_zero]; rfl⟩
  | x :: l, P, h => by
    obtain ⟨h1, h2⟩ := fold_add e a l (addAt P (e x) (a x)) fun y hy => by
      rw [addAt_len]
      exact h y (List.mem_cons_of_mem _ hy)
    rw [List.foldl_cons]
    refine ⟨by rw [h1, addAt_len], fun t => ?_⟩
    rw [h2, cf_addAt _ (h x (List.mem_cons_self ..)), sm_cons, Int.add_assoc]
/-- the one row, by the table -/
theorem row_is {d n m : Nat} (T : TbOk d n) (h1 : 1 ≤ d) (h2 : d ≤ 120) {p : List Int} (hp : p.length ≤ n + m) : rowOf d p = (List.range n).map fun i => rd (cf (tb d)) n m (cf p) i := by
  unfold rowOf
  dsimp only
  rw [cyclo_tb h1 h2]
  have e : (tb d).length - 1 = n := by
    rw [T.len]
    omega
  rw [e]
  refine List.map_congr_left fun i _ => ?_
  exact divide_r T.len T.one hp i
end Sm

set_option Elab.async false
namespace Sm
open Cy CyG My
/-! ### a description's sums by places -/
/-- the place of point i's power, its weight -/
def ph (p h : List Int) (i : Nat) : Nat := ((at_ h 0 * p.getD (4 * i + 2) 0 + at_ h 1 * p.getD (4 * i + 3) 0 + at_ h 2 * p.getD (4 * i + 4) 0) % p.headD 0).toNat
def wt (p f : List Int) (i : Nat) : Int := f.getD (p.getD (4 * i + 1) 0 - 1).toNat 0
theorem ph_lt {p h : List Int} {d : Nat} (hd : p.headD 0 = (d : Int)) (h1 : 1 ≤ d) (i : Nat) : ph p h i < d := by
  unfold ph
  rw [hd]
  have a := Int.emod_nonneg (at_ h 0 * p.getD (4 * i + 2) 0 + at_ h 1 * p.getD (4 * i + 3) 0 + at_ h 2 * p.getD (4 * i + 4) 0) (show (d : Int) ≠ 0 by omega)
  have b := Int.emod_lt_of_pos (at_ h 0 * p.getD (4 * i + 2) 0 + at_ h 1 * p.getD (4 * i + 3) 0 + at_ h 2 * p.getD (4 * i + 4) 0) (show (0 : Int) < (d : Int) by omega)
  omega
theorem powers_is {c p f h : List Int} {k d : Nat} (hk : p.length = 4 * k + 1) (hd : p.headD 0 = (d : Int)) : (crystalIn c p).powers f h = (List.range k).foldl (fun P i => addAt P (ph p h i) (wt p f i)) (List.replicate d 0) := by
  unfold Crystal.powers
  rw [points_is hk, List.foldl_map]
  have e : (crystalIn c p).d.toNat = d := by
    show (p.headD 0).toNat = d
    omega
  rw [e]
  rfl
theorem powers_ok {c p f h : List Int} {k d : Nat} (hk : p.length = 4 * k + 1) (hd : p.headD 0 = (d : Int)) (h1 : 1 ≤ d) : ((crystalIn c p).powers f h).length = d ∧ ∀ t, cf ((crystalIn c p).powers f h) t = sm (List.range k) fun i => if ph p h i = t then wt p f i else 0 := by
  rw [powers_is hk hd]
  obtain ⟨a, b⟩ := fold_add (ph p h) (wt p f) (List.range k) (List.replicate d 0) fun x _ => by
    rw [List.length_replicate]
    exact ph_lt hd h1 x
  refine ⟨by rw [a, List.length_replicate], fun t => ?_⟩
  rw [b]
  have e : cf (List.replicate d 0) t = 0 := by
    unfold cf
    rw [List.getD_eq_getElem?_getD, List.getElem?_replicate]
    split <;> rfl
  rw [e, Int.zero_add]
/-- the strength's powers -/
def st (d : Nat) (P : List Int) : List Int := (List.range d).foldl (fun (r : List Int) (i : Nat) => (List.range d).foldl (fun (r : List Int) (j : Nat) => addAt r ((i + d - j) % d) (P.getD i 0 * P.getD j 0)) r) (List.replicate d 0)
theorem cf_rep0 (d t : Nat) : cf (List.replicate d 0) t = 0 := by
  unfold cf
  rw [List.getD_eq_getElem?_getD, List.getElem?_replicate]
  split <;> rfl
theorem fold2 {d : Nat} (h1 : 1 ≤ d) (P : List Int) : ∀ (l : List Nat) (r : List Int), r.length = d → ((l.foldl (fun (r : List Int) (i : Nat) => (List.range d).foldl (fun (r : List Int) (j : Nat) => addAt r ((i + d - j) % d) (P.getD i 0 * P.getD j 0)) r) r)).length = d ∧ ∀ t, cf (l.foldl (fun (r : List Int) (i : Nat) => (List.range d).foldl (fun (r : List Int) (j : Nat) => addAt r ((i + d - j) % d) (P.getD i 0 * P.getD j 0)) r) r) t = cf r t + sm l fun i => sm (List.range d) fun j => if (i + d - j) % d = t then cf P i * cf P j else 0
  | [], r, hr => ⟨hr, fun t => by rw [sm_nil, Int.add_zero]; rfl⟩
  | i :: l, r, hr => by
    obtain ⟨a, b⟩ := fold_add (fun j => (i + d - j) % d) (fun j => P.getD i 0 * P.getD j 0) (List.range d) r fun x _ => by
      rw [hr]
      exact Nat.mod_lt _ h1
    rw [List.foldl_cons]
    obtain ⟨c, e⟩ := fold2 h1 P l _ (a.trans hr)
    refine ⟨c, fun t => ?_⟩
    rw [e, b, sm_cons, Int.add_assoc]
    rfl
theorem st_ok {d : Nat} (h1 : 1 ≤ d) (P : List Int) : (st d P).length = d ∧ ∀ t, cf (st d P) t = sm (List.range d) fun i => sm (List.range d) fun j => if (i + d - j) % d = t then cf P i * cf P j else 0 := by
  obtain ⟨a, b⟩ := fold2 h1 P (List.range d) (List.replicate d 0) List.length_replicate
  refine ⟨a, fun t => ?_⟩
  unfold st
  rw [b, cf_rep0, Int.zero_add]
theorem strength_is {c p f h : List Int} {d : Nat} (hd : p.headD 0 = (d : Int)) : (crystalIn c p).strength f h = rowOf d (st d ((crystalIn c p).powers f h)) := by
  unfold Crystal.strength
  dsimp only
  have e : (crystalIn c p).d.toNat = d := by
    show (p.headD 0).toNat = d
    omega
  rw [e]
  rfl
theorem sum_is {c p f h : List Int} {d : Nat} (hd : p.headD 0 = (d : Int)) : (crystalIn c p).sum f h = rowOf d ((crystalIn c p).powers f h) := by
  unfold Crystal.sum
  have e : (crystalIn c p).d.toNat = d := by
    show (p.headD 0).toNat = d
    omega
  rw [e]
/-! ### what is asked -/
structure Form (c p f h : List Int) : Prop where
  c7 : c.length = 7
  p1 : p.length % 4 = 1
  cin : ∀ a, a ∈ c → -1048576 < a ∧ a < 1048576
  s0 : 0 < c.getD 6 0
  f255 : f.length ≤ 255
  fin : ∀ a, a ∈ f → -1048576 < a ∧ a < 1048576
  h3 : h.length = 3
  hin : ∀ a, a ∈ h → -1048576 < a ∧ a < 1048576
theorem inside_iff {b : Int} {l : List Int} : inside b l = true ↔ ∀ a, a ∈ l → -b < a ∧ a < b := by
  unfold inside
  rw [List.all_eq_true]
  simp only [Bool.and_eq_true, decide_eq_true_eq]
theorem form_iff {c p f h : List Int} : (shaped c p && (okCell c && (okWeights f && okIndex h))) = true ↔ Form c p f h := by
  unfold shaped okCell okWeights okIndex
  simp only [Bool.and_eq_true, decide_eq_true_eq, inside_iff]
  constructor
  · rintro ⟨⟨a, b⟩, ⟨_, d, e⟩, ⟨f, g⟩, h, i⟩
    exact ⟨a, b, d, e, f, g, h, i⟩
  · rintro ⟨a, b, d, e, f, g, h, i⟩
    exact ⟨⟨a, b⟩, ⟨a, d, e⟩, ⟨f, g⟩, h, i⟩
structure Descr (c p : List Int) (k d : Nat) : Prop where
  cell : rightMat (crystalIn c p).cell.mat = true
  d1 : 1 ≤ d
  d2 : d ≤ 120
  k1 : 1 ≤ k
  k2 : k ≤ 64
  kind : ∀ i, i < k → 1 ≤ p.getD (4 * i + 1) 0 ∧ p.getD (4 * i + 1) 0 ≤ 255
  spot : ∀ i, i < k → (0 ≤ p.getD (4 * i + 2) 0 ∧ p.getD (4 * i + 2) 0 < d) ∧ (0 ≤ p.getD (4 * i + 3) 0 ∧ p.getD (4 * i + 3) 0 < d) ∧ (0 ≤ p.getD (4 * i + 4) 0 ∧ p.getD (4 * i + 4) 0 < d)
  apart : ((List.range k).map fun i => [p.getD (4 * i + 2) 0, p.getD (4 * i + 3) 0, p.getD (4 * i + 4) 0]).Nodup
theorem descr_iff {c p : List Int} {k : Nat} (hk : p.length = 4 * k + 1) : right (crystalIn c p) = true ↔ ∃ d : Nat, p.headD 0 = (d : Int) ∧ Descr c p k d := by
  unfold right
  rw [points_is hk]
  simp only [Bool.and_eq_true, decide_eq_true_eq, List.length_map, List.length_range, List.map_map, List.all_map, List.all_eq_true, List.mem_range]
  constructor
  · rintro ⟨a, b1, b2, c1, c2, hp, hn⟩
    have b1' : 1 ≤ p.headD 0 := b1
    have b2' : p.headD 0 ≤ 120 := b2
    refine ⟨(p.headD 0).toNat, by omega, a, by omega, by omega, c1, c2, fun i hi => ?_, fun i hi => ?_, hn⟩
    · have := hp i hi
      simp only [Function.comp, Bool.and_eq_true] at this
      exact ⟨of_decide_eq_true this.1, of_decide_eq_true this.2.1⟩
    · have := hp i hi
      simp only [Function.comp, spot, List.drop_succ_cons, List.drop_zero, List.all_cons, List.all_nil, Bool.and_eq_true, decide_eq_true_eq] at this
      obtain ⟨_, _, h1, h2, h3, _⟩ := this
      have e : (crystalIn c p).d = p.headD 0 := rfl
      rw [e] at h1 h2 h3
      omega
  · rintro ⟨d, hd, D⟩
    refine ⟨D.cell, ?_, ?_, D.k1, D.k2, fun i hi => ?_, D.apart⟩
    · show (1 : Int) ≤ p.headD 0
      have := D.d1
      omega
    · show p.headD 0 ≤ (120 : Int)
      have := D.d2
      omega
    · have h1 := D.kind i hi
      have h2 := D.spot i hi
      have e : (crystalIn c p).d = p.headD 0 := rfl
      simp only [Function.comp, spot, kindOf, List.drop_succ_cons, List.drop_zero, List.all_cons, List.all_nil, Bool.and_eq_true, decide_eq_true_eq, e, hd]
      exact ⟨decide_eq_true h1.1, decide_eq_true h1.2, h2.1, h2.2.1, h2.2.2, trivial⟩
end Sm

set_option Elab.async false
namespace Sm
open Cy CyG My
/-! ### what the program asks, as truth values -/
def smallB (l : List Int) : Bool := l.all fun x => decide (-1048575 ≤ x) && decide (x ≤ 1048575)
def cellB (c : List Int) : Bool := decide (c.length = 7) && (smallB c && decide (1 ≤ c.getD 6 0))
def rowB (p : List Int) : Bool := decide (p.length % 4 = 1)
def wtsB (f : List Int) : Bool := decide (f.length ≤ 255) && smallB f
def idxB (h : List Int) : Bool := decide (h.length = 3) && smallB h
theorem small_in (l : List Int) : smallB l = inside 1048576 l := by
  unfold smallB inside
  congr 1
  funext x
  have h1 : decide (-1048575 ≤ x) = decide (-1048576 < x) := decide_eq_decide.mpr (by omega)
  have h2 : decide (x ≤ 1048575) = decide (x < 1048576) := decide_eq_decide.mpr (by omega)
  rw [h1, h2]
theorem cell_ok (c : List Int) : cellB c = okCell c := by
  unfold cellB okCell
  rw [small_in]
  have h : decide (1 ≤ c.getD 6 0) = decide (0 < c.getD 6 0) := decide_eq_decide.mpr (by omega)
  rw [h]
  rfl
theorem wts_ok (f : List Int) : wtsB f = okWeights f := by
  unfold wtsB okWeights
  rw [small_in]
  rfl
theorem idx_ok (h : List Int) : idxB h = okIndex h := by
  unfold idxB okIndex
  rw [small_in]
  rfl
theorem small_bd {l : List Int} (h : smallB l = true) : ∀ a, a ∈ l → -1048576 < a ∧ a < 1048576 := by
  rw [small_in, inside_iff] at h
  exact h
/-- the determinant as the program reckons it -/
def dtr (c : List Int) : Int := c.getD 0 0 * (c.getD 1 0 * c.getD 2 0 - c.getD 3 0 * c.getD 3 0) - c.getD 5 0 * (c.getD 5 0 * c.getD 2 0 - c.getD 4 0 * c.getD 3 0) + c.getD 4 0 * (c.getD 5 0 * c.getD 3 0 - c.getD 4 0 * c.getD 1 0)
def rgtB (c : List Int) : Bool := decide (0 < c.getD 0 0) && (decide (c.getD 5 0 * c.getD 5 0 < c.getD 0 0 * c.getD 1 0) && decide (0 < dtr c))
theorem take6 (c : List Int) {i : Nat} (h : i < 6) : (c.take 6).getD i 0 = c.getD i 0 := by
  rw [List.getD_eq_getElem?_getD, List.getD_eq_getElem?_getD, List.getElem?_take, if_pos h]
theorem mat_is (c p : List Int) : (crystalIn c p).cell.mat = [c.getD 0 0, c.getD 5 0, c.getD 4 0, c.getD 5 0, c.getD 1 0, c.getD 3 0, c.getD 4 0, c.getD 3 0, c.getD 2 0] := by
  show [(c.take 6).getD 0 0, (c.take 6).getD 5 0, (c.take 6).getD 4 0, (c.take 6).getD 5 0, (c.take 6).getD 1 0, (c.take 6).getD 3 0, (c.take 6).getD 4 0, (c.take 6).getD 3 0, (c.take 6).getD 2 0] = _
  rw [take6 c (by decide), take6 c (by decide), take6 c (by decide), take6 c (by decide), take6 c (by decide), take6 c (by decide)]
theorem det9 (a b c d e f : Int) : det [a, b, c, b, d, e, c, e, f] = a * (d * f - e * e) - b * (b * f - c * e) + c * (b * e - c * d) := by
  show a * (d * f - e * e) + b * (e * c - b * f) + c * (b * e - d * c) = _
  grind
theorem right_is (c p : List Int) : rightMat (crystalIn c p).cell.mat = rgtB c := by
  rw [mat_is]
  unfold rightMat rgtB
  rw [det9]
  have h1 : decide (0 < cofactor [c.getD 0 0, c.getD 5 0, c.getD 4 0, c.getD 5 0, c.getD 1 0, c.getD 3 0, c.getD 4 0, c.getD 3 0, c.getD 2 0] 2 2) = decide (c.getD 5 0 * c.getD 5 0 < c.getD 0 0 * c.getD 1 0) := by
    show decide (0 < c.getD 0 0 * c.getD 1 0 - c.getD 5 0 * c.getD 5 0) = _
    exact decide_eq_decide.mpr (by omega)
  rw [h1]
  rfl
/-! ### points -/
def pt (p : List Int) (i : Nat) : List Int := [p.getD (4 * i + 1) 0, p.getD (4 * i + 2) 0, p.getD (4 * i + 3) 0, p.getD (4 * i + 4) 0]
def ky (p : List Int) (i : Nat) : List Int := [p.getD (4 * i + 2) 0, p.getD (4 * i + 3) 0, p.getD (4 * i + 4) 0]
def withinB (l : List Int) (a b : Int) : Bool := l.all fun x => decide (a ≤ x) && decide (x ≤ b)
def ptB (q : List Int) (d : Int) : Bool := (decide (1 ≤ q.getD 0 0) && decide (q.getD 0 0 ≤ 255)) && withinB (q.drop 1) 0 (d - 1)
def orderB (d : Int) : Bool := decide (1 ≤ d) && decide (d ≤ 120)
def descB (c p : List Int) : Bool :=
  if (rgtB c && (orderB (p.headD 0) && (decide (1 ≤ p.length / 4) && decide (p.length / 4 ≤ 64)))) = true then
    ((List.range (p.length / 4)).all fun i => ptB (pt p i) (p.headD 0)) && decide (((List.range (p.length / 4)).map (ky p)).Nodup) else false
theorem desc_ok {c p : List Int} {k : Nat} (hk : p.length = 4 * k + 1) : descB c p = right (crystalIn c p) := by
  unfold descB right
  rw [points_is hk, right_is]
  have e : p.length / 4 = k := by omega
  have ed : (crystalIn c p).d = p.headD 0 := rfl
  rw [e, ed, List.length_map, List.length_range]
  have h1 : (((List.range k).map fun i => [p.getD (4 * i + 1) 0, p.getD (4 * i + 2) 0, p.getD (4 * i + 3) 0, p.getD (4 * i + 4) 0]).map spot) = (List.range k).map (ky p) := by
    rw [List.map_map]
    rfl
  rw [h1, List.all_map]
  have h2 : (((fun (q : List Int) => decide (1 ≤ kindOf q) && (decide (kindOf q ≤ 255) && (spot q).all fun (a : Int) => decide (0 ≤ a) && decide (a < p.headD 0))) ∘ fun i => [p.getD (4 * i + 1) 0, p.getD (4 * i + 2) 0, p.getD (4 * i + 3) 0, p.getD (4 * i + 4) 0])) = fun i => ptB (pt p i) (p.headD 0) := by
    funext i
    have hw : withinB ((pt p i).drop 1) 0 (p.headD 0 - 1) = (spot (pt p i)).all fun (a : Int) => decide (0 ≤ a) && decide (a < p.headD 0) := by
      unfold withinB spot
      congr 1
      funext a
      have : decide (a ≤ p.headD 0 - 1) = decide (a < p.headD 0) := decide_eq_decide.mpr (by omega)
      rw [this]
    show (decide (1 ≤ kindOf (pt p i)) && (decide (kindOf (pt p i) ≤ 255) && (spot (pt p i)).all fun (a : Int) => decide (0 ≤ a) && decide (a < p.headD 0))) = _
    unfold ptB
    rw [hw, Bool.and_assoc]
    rfl
  rw [h2]
  have hd : orderB (p.headD 0) = (decide (1 ≤ p.headD 0) && decide (p.headD 0 ≤ DEGREE)) := rfl
  have hp : decide (k ≤ 64) = decide (k ≤ POINTS) := rfl
  rw [hd, hp]
  cases rgtB c <;> cases decide (1 ≤ p.headD 0) <;> cases decide (p.headD 0 ≤ DEGREE) <;> cases decide (1 ≤ k) <;> cases decide (k ≤ POINTS) <;> simp
/-! ### refusals -/
def refB (c p f : List Int) (hs : List (List Int)) : Int := if (cellB c && (rowB p && wtsB f)) = true then (if hs.all idxB = true then (if descB c p = true then 0 else -2) else -1) else -1
structure Good (c p f : List Int) (hs : List (List Int)) (k d : Nat) : Prop where
  cell : c.length = 7
  cin : ∀ a, a ∈ c → -1048576 < a ∧ a < 1048576
  plen : p.length = 4 * k + 1
  wlen : f.length ≤ 255
  win : ∀ a, a ∈ f → -1048576 < a ∧ a < 1048576
  hok : ∀ h, h ∈ hs → h.length = 3 ∧ ∀ a, a ∈ h → -1048576 < a ∧ a < 1048576
  hd : p.headD 0 = (d : Int)
  ds : Descr c p k d
theorem ref_cases (c p f : List Int) (hs : List (List Int)) : (refB c p f hs = -1 ∧ ¬ (cellB c = true ∧ rowB p = true ∧ wtsB f = true ∧ hs.all idxB = true)) ∨ (refB c p f hs = -2 ∧ (cellB c = true ∧ rowB p = true ∧ wtsB f = true ∧ hs.all idxB = true) ∧ right (crystalIn c p) = false) ∨
    (refB c p f hs = 0 ∧ (cellB c = true ∧ rowB p = true ∧ wtsB f = true ∧ hs.all idxB = true) ∧ right (crystalIn c p) = true ∧ ∃ k d, Good c p f hs k d) := by
  unfold refB
  by_cases h1 : (cellB c && (rowB p && wtsB f)) = true
  · rw [if_pos h1]
    simp only [Bool.and_eq_true] at h1
    obtain ⟨a1, a2, a3⟩ := h1
    by_cases h2 : hs.all idxB = true
    · rw [if_pos h2]
      have a2' : p.length % 4 = 1 := of_decide_eq_true a2
      have hk : p.length = 4 * (p.length / 4) + 1 := by omega
      rw [desc_ok hk]
      by_cases h3 : right (crystalIn c p) = true
      · rw [if_pos h3]
        obtain ⟨d, hd, D⟩ := (descr_iff hk).mp h3
        right; right
        refine ⟨rfl, ⟨a1, a2, a3, h2⟩, h3, p.length / 4, d, ?_⟩
        unfold cellB at a1
        unfold wtsB at a3
        simp only [Bool.and_eq_true, decide_eq_true_eq] at a1 a3
        refine ⟨a1.1, small_bd a1.2.1, hk, a3.1, small_bd a3.2, fun h hh => ?_, hd, D⟩
        have := List.all_eq_true.mp h2 h hh
        unfold idxB at this
        simp only [Bool.and_eq_true, decide_eq_true_eq] at this
        exact ⟨this.1, small_bd this.2⟩
      · rw [if_neg h3]
        right; left
        exact ⟨rfl, ⟨a1, a2, a3, h2⟩, by simpa using h3⟩
    · rw [if_neg h2]
      left
      exact ⟨rfl, fun q => h2 q.2.2.2⟩
  · rw [if_neg h1]
    left
    refine ⟨rfl, fun q => h1 ?_⟩
    rw [q.1, q.2.1, q.2.2.1]
    rfl
theorem of_is {c p f h : List Int} {hs : List (List Int)} (g : Crystal → Answer) (hh : hs.all idxB = true → okIndex h = true) (hh2 : okIndex h = true → hs.all idxB = true) :
    of_ c p f h g = if refB c p f hs = -1 then .refused 1 else if refB c p f hs = -2 then .refused 2 else g (crystalIn c p) := by
  unfold of_
  have hf : (shaped c p && (okCell c && (okWeights f && okIndex h))) = true ↔ (cellB c = true ∧ rowB p = true ∧ wtsB f = true ∧ hs.all idxB = true) := by
    rw [cell_ok, wts_ok]
    unfold shaped rowB
    simp only [Bool.and_eq_true, decide_eq_true_eq]
    constructor
    · rintro ⟨⟨a, b⟩, c, d, e⟩
      exact ⟨c, b, d, hh2 e⟩
    · rintro ⟨a, b, c, d⟩
      refine ⟨⟨?_, b⟩, a, c, hh d⟩
      unfold okCell at a
      simp only [Bool.and_eq_true, decide_eq_true_eq] at a
      exact a.1
  rcases ref_cases c p f hs with ⟨e, q⟩ | ⟨e, q, r⟩ | ⟨e, q, r, _⟩
  · rw [e, if_pos rfl, if_pos]
    rw [← hf] at q
    simpa using q
  · rw [e, if_neg (by rw [hf.mpr q]; decide), if_pos r]
    rfl
  · rw [e, if_neg (by rw [hf.mpr q]; decide), if_neg (by rw [r]; decide)]
    rfl
theorem all_one (h : List Int) : [h].all idxB = okIndex h := by
  rw [List.all_cons, List.all_nil, Bool.and_true, idx_ok]
theorem summed_is (c p f h : List Int) : PyWqambr.summed c p f h = if refB c p f [h] < 0 then [refB c p f [h]] else 0 :: (crystalIn c p).sum f h := by
  show CyGNeutral.shown (of_ c p f h fun x => .told (x.sum f h)) = _
  rw [of_is (hs := [h]) _ (fun q => by rw [← all_one]; exact q) (fun q => by rw [all_one]; exact q)]
  rcases ref_cases c p f [h] with ⟨e, q⟩ | ⟨e, q, r⟩ | ⟨e, q, r, _⟩ <;> rw [e] <;> rfl
theorem power_is (c p f h : List Int) : PyWqambr.power c p f h = if refB c p f [h] < 0 then [refB c p f [h]] else 0 :: (crystalIn c p).strength f h := by
  show CyGNeutral.shown (of_ c p f h fun x => .told (x.strength f h)) = _
  rw [of_is (hs := [h]) _ (fun q => by rw [← all_one]; exact q) (fun q => by rw [all_one]; exact q)]
  rcases ref_cases c p f [h] with ⟨e, q⟩ | ⟨e, q, r⟩ | ⟨e, q, r, _⟩ <;> rw [e] <;> rfl
theorem any_all (l : List Int) : (if l.all (fun a => decide (a = 0)) = true then (1 : Int) else 0) = if (l.any fun a => a != 0) = true then 0 else 1 := by
  have : (l.any fun a => a != 0) = !(l.all fun a => decide (a = 0)) := by
    rw [List.any_eq_not_all_not]
    congr 1
    congr 1
    funext a
    by_cases h : a = 0 <;> simp [h]
  rw [this]
  cases l.all fun a => decide (a = 0) <;> rfl
theorem zero_is (c p f h : List Int) : PyWqambr.zero c p f h = if refB c p f [h] < 0 then [refB c p f [h]] else [0, if (((crystalIn c p).sum f h).any fun a => a != 0) = true then 0 else 1] := by
  show CyGNeutral.shown (of_ c p f h fun x => .told [if (x.sum f h).all (fun (a : Int) => decide (a = 0)) = true then 1 else 0]) = _
  rw [of_is (hs := [h]) _ (fun q => by rw [← all_one]; exact q) (fun q => by rw [all_one]; exact q)]
  rcases ref_cases c p f [h] with ⟨e, q⟩ | ⟨e, q, r⟩ | ⟨e, q, r, _⟩ <;> rw [e]
  · rfl
  · rfl
  · rw [← any_all]
    rfl
theorem equal_is (c p f h k : List Int) : PyWqambr.equal c p f h k = if refB c p f [h, k] < 0 then [refB c p f [h, k]] else [0, if (crystalIn c p).strength f h = (crystalIn c p).strength f k then 1 else 0] := by
  show CyGNeutral.shown (if okIndex k = false then .refused 1 else of_ c p f h fun x => .told [if x.strength f h = x.strength f k then 1 else 0]) = _
  have e2 : [h, k].all idxB = (okIndex h && okIndex k) := by
    rw [List.all_cons, all_one, idx_ok]
  by_cases hk : okIndex k = true
  · rw [if_neg (by rw [hk]; decide), of_is (hs := [h, k]) _ (fun q => by rw [e2, Bool.and_eq_true] at q; exact q.1) (fun q => by rw [e2, q, hk]; rfl)]
    rcases ref_cases c p f [h, k] with ⟨e, q⟩ | ⟨e, q, r⟩ | ⟨e, q, r, _⟩ <;> rw [e] <;> rfl
  · have hk' : okIndex k = false := by simpa using hk
    rw [if_pos hk']
    have : ¬ [h, k].all idxB = true := by
      rw [e2, hk', Bool.and_false]
      decide
    rcases ref_cases c p f [h, k] with ⟨e, q⟩ | ⟨e, q, r⟩ | ⟨e, q, r, _⟩
    · rw [e]
      rfl
    · exact absurd q.2.2.2 this
    · exact absurd q.2.2.2 this
/-! ### powers are not large -/
theorem sm_abs {α : Type} (f : α → Int) (B : Int) (hB : 0 ≤ B) : ∀ l : List α, (∀ x, x ∈ l → -B ≤ f x ∧ f x ≤ B) → -(B * l.length) ≤ sm l f ∧ sm l f ≤ B * l.length
  | [], _ => by
    rw [sm_nil]
    simp
  | a :: l, h => by
    rw [sm_cons, List.length_cons]
    obtain ⟨i1, i2⟩ := sm_abs f B hB l fun x hx => h x (List.mem_cons_of_mem _ hx)
    obtain ⟨h1, h2⟩ := h a (List.mem_cons_self ..)
    have : B * ((l.length + 1 : Nat) : Int) = B * (l.length : Int) + B := by
      rw [Int.natCast_add, Int.mul_add]
      omega
    rw [this]
    omega
theorem wt_bd {p f : List Int} (h : ∀ a, a ∈ f → -1048576 < a ∧ a < 1048576) (i : Nat) : -1048576 ≤ wt p f i ∧ wt p f i ≤ 1048576 := by
  unfold wt
  rw [List.getD_eq_getElem?_getD]
  cases e : f[(p.getD (4 * i + 1) 0 - 1).toNat]? with
  | none =>
    show -1048576 ≤ (0 : Int) ∧ (0 : Int) ≤ 1048576
    omega
  | some a =>
    have := h a (List.mem_of_getElem? e)
    show -1048576 ≤ a ∧ a ≤ 1048576
    omega
theorem powers_bd {c p f h : List Int} {hs : List (List Int)} {k d : Nat} (G : Good c p f hs k d) (t : Nat) : -(2 ^ 64) < cf ((crystalIn c p).powers f h) t ∧ cf ((crystalIn c p).powers f h) t < 2 ^ 64 := by
  rw [(powers_ok G.plen G.hd G.ds.d1).2]
  obtain ⟨a, b⟩ := sm_abs (fun i => if ph p h i = t then wt p f i else 0) 1048576 (by decide) (List.range k) fun i _ => by
    show -1048576 ≤ (if ph p h i = t then wt p f i else 0) ∧ (if ph p h i = t then wt p f i else 0) ≤ 1048576
    split
    · exact wt_bd G.win i
    · omega
  rw [List.length_range] at a b
  have hk := G.ds.k2
  have e : (2 : Int) ^ 64 = 18446744073709551616 := by decide
  rw [e]
  omega
theorem row_len {d n : Nat} (T : TbOk d n) (h1 : 1 ≤ d) (h2 : d ≤ 120) (p : List Int) : (rowOf d p).length = n := by
  unfold rowOf
  dsimp only
  rw [cyclo_tb h1 h2, List.length_map, List.length_range, T.len]
  omega
theorem tb_le {d n : Nat} (T : TbOk d n) (h1 : 1 ≤ d) (h2 : d ≤ 120) : n ≤ d := by
  have := part_len (k := d) (i := (pd d).length) h1
  rw [part_end h1 h2, T.len] at this
  omega
end Sm

set_option Elab.async false
namespace Ln
/-! ### forms of three variables: a b c on the diagonal, d = 12, e = 02, f = 01 -/
def nf (a b c d e f x y z : Int) : Int := x * (a * x + f * y + e * z) + y * (f * x + b * y + d * z) + z * (e * x + d * y + c * z)
def dt (a b c d e f : Int) : Int := a * (b * c - d * d) + f * (d * e - f * c) + e * (f * d - b * e)
/-- above 0 but at 0 0 0 -/
def Ps (a b c d e f : Int) : Prop := ∀ x y z : Int, ¬ (x = 0 ∧ y = 0 ∧ z = 0) → 0 < nf a b c d e f x y z
theorem sq_nonneg (x : Int) : 0 ≤ x * x := by
  rcases Int.le_total 0 x with h | h
  · exact Int.mul_nonneg h h
  · have := Int.mul_nonneg (Int.neg_nonneg_of_nonpos h) (Int.neg_nonneg_of_nonpos h)
    rwa [Int.neg_mul_neg] at this
theorem sq_pos {x : Int} (h : x ≠ 0) : 0 < x * x := by
  rcases Int.lt_trichotomy x 0 with h1 | h1 | h1
  · have := Int.mul_pos (Int.neg_pos_of_neg h1) (Int.neg_pos_of_neg h1)
    rwa [Int.neg_mul_neg] at this
  · exact absurd h1 h
  · exact Int.mul_pos h1 h1
theorem pos_of_mul {a b : Int} (ha : 0 < a) (h : 0 < a * b) : 0 < b := by
  rcases Int.lt_or_le 0 b with h1 | h1
  · exact h1
  · have := Int.mul_nonpos_of_nonneg_of_nonpos (Int.le_of_lt ha) h1
    omega
theorem nonneg_of_mul {a b : Int} (ha : 0 < a) (h : 0 ≤ a * b) : 0 ≤ b := by
  rcases Int.lt_or_le b 0 with h1 | h1
  · have := Int.mul_neg_of_pos_of_neg ha h1
    omega
  · exact h1
section
variable {a b c d e f : Int}
theorem id1 (x y z : Int) : a * nf a b c d e f x y z = (a * x + f * y + e * z) * (a * x + f * y + e * z) + ((a * b - f * f) * (y * y) + (a * c - e * e) * (z * z) + 2 * (a * d - e * f) * (y * z)) := by
  unfold nf
  grind
theorem id2 (y z : Int) : (a * b - f * f) * ((a * b - f * f) * (y * y) + (a * c - e * e) * (z * z) + 2 * (a * d - e * f) * (y * z)) = ((a * b - f * f) * y + (a * d - e * f) * z) * ((a * b - f * f) * y + (a * d - e * f) * z) + a * dt a b c d e f * (z * z) := by
  unfold dt
  grind
/-- by the leading minors -/
theorem ps_of (ha : 0 < a) (hc : 0 < a * b - f * f) (hd : 0 < dt a b c d e f) : Ps a b c d e f := by
  intro x y z h
  refine pos_of_mul ha ?_
  rw [id1]
  have q1 := sq_nonneg (a * x + f * y + e * z)
  generalize hQ : (a * b - f * f) * (y * y) + (a * c - e * e) * (z * z) + 2 * (a * d - e * f) * (y * z) = Q
  have i2 := id2 (a := a) (b := b) (c := c) (d := d) (e := e) (f := f) y z
  rw [hQ] at i2
  have q2 := sq_nonneg ((a * b - f * f) * y + (a * d - e * f) * z)
  have had := Int.mul_pos ha hd
  by_cases hz : z = 0
  · subst hz
    by_cases hy : y = 0
    · subst hy
      have hx : x ≠ 0 := fun q => h ⟨q, rfl, rfl⟩
      have : Q = 0 := by
        rw [← hQ]
        simp
      rw [this]
      have e1 : a * x + f * 0 + e * 0 = a * x := by simp
      rw [e1]
      have := sq_pos (x := a * x) (Int.mul_ne_zero (by omega) hx)
      omega
    · have : Q = (a * b - f * f) * (y * y) := by
        rw [← hQ]
        simp
      have := Int.mul_pos hc (sq_pos hy)
      omega
  · have q3 := Int.mul_pos had (sq_pos hz)
    have : 0 < (a * b - f * f) * Q := by
      rw [i2]
      omega
    have := pos_of_mul hc this
    omega
end
/-! ### what being above 0 says -/
section
variable {a b c d e f : Int} (P : Ps a b c d e f)
include P
theorem ps_a : 0 < a := by
  have := P 1 0 0 (by simp)
  unfold nf at this
  simpa using this
theorem ps_b : 0 < b := by
  have := P 0 1 0 (by simp)
  unfold nf at this
  simpa using this
theorem ps_c : 0 < c := by
  have := P 0 0 1 (by simp)
  unfold nf at this
  simpa using this
theorem ps_cc : 0 < a * b - f * f := by
  have ha := ps_a P
  have := P (-f) a 0 (by omega)
  have e1 : nf a b c d e f (-f) a 0 = a * (a * b - f * f) := by
    unfold nf
    grind
  rw [e1] at this
  exact pos_of_mul ha this
theorem ps_cb : 0 < a * c - e * e := by
  have ha := ps_a P
  have := P (-e) 0 a (by omega)
  have e1 : nf a b c d e f (-e) 0 a = a * (a * c - e * e) := by
    unfold nf
    grind
  rw [e1] at this
  exact pos_of_mul ha this
theorem ps_ca : 0 < b * c - d * d := by
  have ha := ps_b P
  have := P 0 (-d) b (by omega)
  have e1 : nf a b c d e f 0 (-d) b = b * (b * c - d * d) := by
    unfold nf
    grind
  rw [e1] at this
  exact pos_of_mul ha this
theorem ps_dt : 0 < dt a b c d e f := by
  have hc := ps_cc P
  have := P (f * d - b * e) (f * e - a * d) (a * b - f * f) (by omega)
  have e1 : nf a b c d e f (f * d - b * e) (f * e - a * d) (a * b - f * f) = (a * b - f * f) * dt a b c d e f := by
    unfold nf dt
    grind
  rw [e1] at this
  exact pos_of_mul hc this
theorem ps_nn (x y z : Int) : 0 ≤ nf a b c d e f x y z := by
  by_cases h : x = 0 ∧ y = 0 ∧ z = 0
  · obtain ⟨rfl, rfl, rfl⟩ := h
    unfold nf
    simp
  · exact Int.le_of_lt (P x y z h)
/-- each number's square is bounded by the length -/
theorem bd_z (x y z : Int) : dt a b c d e f * (z * z) ≤ (a * b - f * f) * nf a b c d e f x y z := by
  have ha := ps_a P
  have hc := ps_cc P
  have i1 := id1 (a := a) (b := b) (c := c) (d := d) (e := e) (f := f) x y z
  have i2 := id2 (a := a) (b := b) (c := c) (d := d) (e := e) (f := f) y z
  have q1 := sq_nonneg (a * x + f * y + e * z)
  have q2 := sq_nonneg ((a * b - f * f) * y + (a * d - e * f) * z)
  generalize (a * b - f * f) * (y * y) + (a * c - e * e) * (z * z) + 2 * (a * d - e * f) * (y * z) = Q at i1 i2
  generalize nf a b c d e f x y z = N at i1 ⊢
  generalize hC : a * b - f * f = C at *
  generalize dt a b c d e f = D at *
  have q3 : 0 ≤ a * (C * N - D * (z * z)) := by
    have e1 : a * (C * N - D * (z * z)) = C * (a * N) - a * D * (z * z) := by grind
    rw [e1, i1]
    have e2 := Int.mul_nonneg (Int.le_of_lt hc) q1
    have e3 : C * ((a * x + f * y + e * z) * (a * x + f * y + e * z) + Q) = C * ((a * x + f * y + e * z) * (a * x + f * y + e * z)) + C * Q := Int.mul_add _ _ _
    rw [e3, i2]
    omega
  have := nonneg_of_mul ha q3
  omega
end
theorem nf_swap (a b c d e f x y z : Int) : nf c b a f e d z y x = nf a b c d e f x y z := by
  unfold nf
  grind
theorem nf_swap2 (a b c d e f x y z : Int) : nf a c b d f e x z y = nf a b c d e f x y z := by
  unfold nf
  grind
section
variable {a b c d e f : Int} (P : Ps a b c d e f)
include P
theorem bd_x (x y z : Int) : dt a b c d e f * (x * x) ≤ (b * c - d * d) * nf a b c d e f x y z := by
  have P' : Ps c b a f e d := fun x y z h => by
    rw [nf_swap]
    exact P z y x (by omega)
  have := bd_z P' z y x
  rw [nf_swap] at this
  have e1 : dt c b a f e d = dt a b c d e f := by
    unfold dt
    grind
  have e2 : c * b - d * d = b * c - d * d := by grind
  rw [e1, e2] at this
  exact this
theorem bd_y (x y z : Int) : dt a b c d e f * (y * y) ≤ (a * c - e * e) * nf a b c d e f x y z := by
  have P' : Ps a c b d f e := fun x y z h => by
    rw [nf_swap2]
    exact P x z y (by omega)
  have := bd_z P' x z y
  rw [nf_swap2] at this
  have e1 : dt a c b d f e = dt a b c d e f := by
    unfold dt
    grind
  rw [e1] at this
  exact this
/-- sums of short ones are short -/
theorem three (x y z : Int) : nf a b c d e f x y z ≤ 3 * (a * (x * x) + b * (y * y) + c * (z * z)) := by
  have h1 := ps_nn P x (-y) 0
  have h2 := ps_nn P x 0 (-z)
  have h3 := ps_nn P 0 y (-z)
  unfold nf at *
  grind
end
end Ln

set_option Elab.async false
namespace Ln
open Cy
/-! ### matrices by their entries -/
theorem entry_matOf (g : Nat → Nat → Int) {i j : Nat} (hi : i < 3) (hj : j < 3) : entry (matOf g) i j = g i j := by
  match i, j, hi, hj with
  | 0, 0, _, _ => rfl
  | 0, 1, _, _ => rfl
  | 0, 2, _, _ => rfl
  | 1, 0, _, _ => rfl
  | 1, 1, _, _ => rfl
  | 1, 2, _, _ => rfl
  | 2, 0, _, _ => rfl
  | 2, 1, _, _ => rfl
  | 2, 2, _, _ => rfl
  | _ + 3, _, h, _ => omega
  | _, _ + 3, _, h => omega
structure Sym (m : Mat) : Prop where
  h01 : entry m 1 0 = entry m 0 1
  h02 : entry m 2 0 = entry m 0 2
  h12 : entry m 2 1 = entry m 1 2
theorem norm_nf {m : Mat} (S : Sym m) (x : Col) : norm m x = nf (entry m 0 0) (entry m 1 1) (entry m 2 2) (entry m 1 2) (entry m 0 2) (entry m 0 1) (at_ x 0) (at_ x 1) (at_ x 2) := by
  show at_ x 0 * (entry m 0 0 * at_ x 0 + entry m 0 1 * at_ x 1 + entry m 0 2 * at_ x 2) + at_ x 1 * (entry m 1 0 * at_ x 0 + entry m 1 1 * at_ x 1 + entry m 1 2 * at_ x 2) + at_ x 2 * (entry m 2 0 * at_ x 0 + entry m 2 1 * at_ x 1 + entry m 2 2 * at_ x 2) = _
  rw [S.h01, S.h02, S.h12]
  rfl
theorem det_dt {m : Mat} (S : Sym m) : det m = dt (entry m 0 0) (entry m 1 1) (entry m 2 2) (entry m 1 2) (entry m 0 2) (entry m 0 1) := by
  show entry m 0 0 * (entry m 1 1 * entry m 2 2 - entry m 1 2 * entry m 2 1) + entry m 0 1 * (entry m 1 2 * entry m 2 0 - entry m 1 0 * entry m 2 2) + entry m 0 2 * (entry m 1 0 * entry m 2 1 - entry m 1 1 * entry m 2 0) = _
  rw [S.h01, S.h02, S.h12]
  unfold dt
  grind
theorem cof0 {m : Mat} (S : Sym m) : cofactor m 0 0 = entry m 1 1 * entry m 2 2 - entry m 1 2 * entry m 1 2 := by
  show entry m 1 1 * entry m 2 2 - entry m 1 2 * entry m 2 1 = _
  rw [S.h12]
theorem cof1 {m : Mat} (S : Sym m) : cofactor m 1 1 = entry m 0 0 * entry m 2 2 - entry m 0 2 * entry m 0 2 := by
  show entry m 2 2 * entry m 0 0 - entry m 2 0 * entry m 0 2 = _
  rw [S.h02]
  grind
theorem cof2 {m : Mat} (S : Sym m) : cofactor m 2 2 = entry m 0 0 * entry m 1 1 - entry m 0 1 * entry m 0 1 := by
  show entry m 0 0 * entry m 1 1 - entry m 0 1 * entry m 1 0 = _
  rw [S.h01]
/-- symmetric, and above 0 -/
structure Pd (m : Mat) : Prop where
  sym : Sym m
  ps : Ps (entry m 0 0) (entry m 1 1) (entry m 2 2) (entry m 1 2) (entry m 0 2) (entry m 0 1)
theorem Pd.pos {m : Mat} (P : Pd m) (x : Col) (h : ¬ (at_ x 0 = 0 ∧ at_ x 1 = 0 ∧ at_ x 2 = 0)) : 0 < norm m x := by
  rw [norm_nf P.sym]
  exact P.ps _ _ _ h
theorem pd_right {m : Mat} (S : Sym m) (h : rightMat m = true) : Pd m := by
  unfold rightMat at h
  simp only [Bool.and_eq_true, decide_eq_true_eq] at h
  rw [cof2 S, det_dt S] at h
  exact ⟨S, ps_of h.1 h.2.1 h.2.2⟩
theorem sym_cell (c : Cell) : Sym c.mat := ⟨rfl, rfl, rfl⟩
theorem sym_adj {m : Mat} (S : Sym m) : Sym (adj m) := by
  obtain ⟨h1, h2, h3⟩ := S
  refine ⟨?_, ?_, ?_⟩
  · show entry m 1 2 * entry m 2 0 - entry m 1 0 * entry m 2 2 = entry m 2 1 * entry m 0 2 - entry m 2 2 * entry m 0 1
    grind
  · show entry m 1 0 * entry m 2 1 - entry m 1 1 * entry m 2 0 = entry m 0 1 * entry m 1 2 - entry m 0 2 * entry m 1 1
    grind
  · show entry m 2 0 * entry m 0 1 - entry m 2 1 * entry m 0 0 = entry m 0 2 * entry m 1 0 - entry m 0 0 * entry m 1 2
    grind
/-- the adjugate's entries -/
theorem adj_e {m : Mat} (S : Sym m) : entry (adj m) 0 0 = entry m 1 1 * entry m 2 2 - entry m 1 2 * entry m 1 2 ∧ entry (adj m) 1 1 = entry m 0 0 * entry m 2 2 - entry m 0 2 * entry m 0 2 ∧ entry (adj m) 2 2 = entry m 0 0 * entry m 1 1 - entry m 0 1 * entry m 0 1 ∧
    entry (adj m) 1 2 = entry m 0 2 * entry m 0 1 - entry m 0 0 * entry m 1 2 ∧ entry (adj m) 0 2 = entry m 0 1 * entry m 1 2 - entry m 0 2 * entry m 1 1 ∧ entry (adj m) 0 1 = entry m 0 2 * entry m 1 2 - entry m 0 1 * entry m 2 2 := by
  obtain ⟨h1, h2, h3⟩ := S
  refine ⟨?_, ?_, ?_, ?_, ?_, ?_⟩
  · show entry m 1 1 * entry m 2 2 - entry m 1 2 * entry m 2 1 = _
    grind
  · show entry m 2 2 * entry m 0 0 - entry m 2 0 * entry m 0 2 = _
    grind
  · show entry m 0 0 * entry m 1 1 - entry m 0 1 * entry m 1 0 = _
    grind
  · show entry m 0 2 * entry m 1 0 - entry m 0 0 * entry m 1 2 = _
    grind
  · show entry m 0 1 * entry m 1 2 - entry m 0 2 * entry m 1 1 = _
    grind
  · show entry m 2 1 * entry m 0 2 - entry m 2 2 * entry m 0 1 = _
    grind
theorem ps_adj {a b c d e f : Int} (P : Ps a b c d e f) : Ps (b * c - d * d) (a * c - e * e) (a * b - f * f) (e * f - a * d) (f * d - e * b) (e * d - f * c) := by
  intro x y z h
  have hD := ps_dt P
  refine pos_of_mul hD ?_
  have e1 : dt a b c d e f * nf (b * c - d * d) (a * c - e * e) (a * b - f * f) (e * f - a * d) (f * d - e * b) (e * d - f * c) x y z = nf a b c d e f ((b * c - d * d) * x + (e * d - f * c) * y + (f * d - e * b) * z) ((e * d - f * c) * x + (a * c - e * e) * y + (e * f - a * d) * z) ((f * d - e * b) * x + (e * f - a * d) * y + (a * b - f * f) * z) := by
    unfold nf dt
    grind
  rw [e1]
  refine P _ _ _ fun q => h ?_
  obtain ⟨q1, q2, q3⟩ := q
  have r1 : dt a b c d e f * x = 0 := by
    have : dt a b c d e f * x = a * ((b * c - d * d) * x + (e * d - f * c) * y + (f * d - e * b) * z) + f * ((e * d - f * c) * x + (a * c - e * e) * y + (e * f - a * d) * z) + e * ((f * d - e * b) * x + (e * f - a * d) * y + (a * b - f * f) * z) := by
      unfold dt
      grind
    rw [this, q1, q2, q3]
    simp
  have r2 : dt a b c d e f * y = 0 := by
    have : dt a b c d e f * y = f * ((b * c - d * d) * x + (e * d - f * c) * y + (f * d - e * b) * z) + b * ((e * d - f * c) * x + (a * c - e * e) * y + (e * f - a * d) * z) + d * ((f * d - e * b) * x + (e * f - a * d) * y + (a * b - f * f) * z) := by
      unfold dt
      grind
    rw [this, q1, q2, q3]
    simp
  have r3 : dt a b c d e f * z = 0 := by
    have : dt a b c d e f * z = e * ((b * c - d * d) * x + (e * d - f * c) * y + (f * d - e * b) * z) + d * ((e * d - f * c) * x + (a * c - e * e) * y + (e * f - a * d) * z) + c * ((f * d - e * b) * x + (e * f - a * d) * y + (a * b - f * f) * z) := by
      unfold dt
      grind
    rw [this, q1, q2, q3]
    simp
  refine ⟨?_, ?_, ?_⟩
  · rcases Int.mul_eq_zero.mp r1 with z | z
    · omega
    · exact z
  · rcases Int.mul_eq_zero.mp r2 with z | z
    · omega
    · exact z
  · rcases Int.mul_eq_zero.mp r3 with z | z
    · omega
    · exact z
theorem pd_adj {m : Mat} (P : Pd m) : Pd (adj m) := by
  refine ⟨sym_adj P.sym, ?_⟩
  obtain ⟨e1, e2, e3, e4, e5, e6⟩ := adj_e P.sym
  rw [e1, e2, e3, e4, e5, e6]
  exact ps_adj P.ps
/-! ### by a change -/
theorem changed_norm (m p : Mat) (x : Col) : norm (changedMat m p) x = norm m (apply p x) := by
  show at_ x 0 * (entry (changedMat m p) 0 0 * at_ x 0 + entry (changedMat m p) 0 1 * at_ x 1 + entry (changedMat m p) 0 2 * at_ x 2) + at_ x 1 * (entry (changedMat m p) 1 0 * at_ x 0 + entry (changedMat m p) 1 1 * at_ x 1 + entry (changedMat m p) 1 2 * at_ x 2) + at_ x 2 * (entry (changedMat m p) 2 0 * at_ x 0 + entry (changedMat m p) 2 1 * at_ x 1 + entry (changedMat m p) 2 2 * at_ x 2) = _
  show _ = at_ (apply p x) 0 * (entry m 0 0 * at_ (apply p x) 0 + entry m 0 1 * at_ (apply p x) 1 + entry m 0 2 * at_ (apply p x) 2) + at_ (apply p x) 1 * (entry m 1 0 * at_ (apply p x) 0 + entry m 1 1 * at_ (apply p x) 1 + entry m 1 2 * at_ (apply p x) 2) + at_ (apply p x) 2 * (entry m 2 0 * at_ (apply p x) 0 + entry m 2 1 * at_ (apply p x) 1 + entry m 2 2 * at_ (apply p x) 2)
  have ch : ∀ i j, i < 3 → j < 3 → entry (changedMat m p) i j = entry p 0 i * (entry m 0 0 * entry p 0 j + entry m 0 1 * entry p 1 j + entry m 0 2 * entry p 2 j) + entry p 1 i * (entry m 1 0 * entry p 0 j + entry m 1 1 * entry p 1 j + entry m 1 2 * entry p 2 j) + entry p 2 i * (entry m 2 0 * entry p 0 j + entry m 2 1 * entry p 1 j + entry m 2 2 * entry p 2 j) := by
    intro i j hi hj
    unfold changedMat mul turned
    rw [entry_matOf _ hi hj, entry_matOf _ hi (by decide), entry_matOf _ hi (by decide), entry_matOf _ hi (by decide), entry_matOf _ (by decide) hj, entry_matOf _ (by decide) hj, entry_matOf _ (by decide) hj]
  rw [ch 0 0 (by decide) (by decide), ch 0 1 (by decide) (by decide), ch 0 2 (by decide) (by decide), ch 1 0 (by decide) (by decide), ch 1 1 (by decide) (by decide), ch 1 2 (by decide) (by decide), ch 2 0 (by decide) (by decide), ch 2 1 (by decide) (by decide), ch 2 2 (by decide) (by decide)]
  have a0 : at_ (apply p x) 0 = entry p 0 0 * at_ x 0 + entry p 0 1 * at_ x 1 + entry p 0 2 * at_ x 2 := rfl
  have a1 : at_ (apply p x) 1 = entry p 1 0 * at_ x 0 + entry p 1 1 * at_ x 1 + entry p 1 2 * at_ x 2 := rfl
  have a2 : at_ (apply p x) 2 = entry p 2 0 * at_ x 0 + entry p 2 1 * at_ x 1 + entry p 2 2 * at_ x 2 := rfl
  rw [a0, a1, a2]
  generalize entry p 0 0 = p0, entry p 0 1 = p1, entry p 0 2 = p2, entry p 1 0 = p3, entry p 1 1 = p4, entry p 1 2 = p5, entry p 2 0 = p6, entry p 2 1 = p7, entry p 2 2 = p8
  generalize entry m 0 0 = m0, entry m 0 1 = m1, entry m 0 2 = m2, entry m 1 0 = m3, entry m 1 1 = m4, entry m 1 2 = m5, entry m 2 0 = m6, entry m 2 1 = m7, entry m 2 2 = m8
  generalize at_ x 0 = x0, at_ x 1 = x1, at_ x 2 = x2
  grind
theorem sym_changed {m : Mat} (p : Mat) (S : Sym m) : Sym (changedMat m p) := by
  have ch : ∀ i j, i < 3 → j < 3 → entry (changedMat m p) i j = entry p 0 i * (entry m 0 0 * entry p 0 j + entry m 0 1 * entry p 1 j + entry m 0 2 * entry p 2 j) + entry p 1 i * (entry m 1 0 * entry p 0 j + entry m 1 1 * entry p 1 j + entry m 1 2 * entry p 2 j) + entry p 2 i * (entry m 2 0 * entry p 0 j + entry m 2 1 * entry p 1 j + entry m 2 2 * entry p 2 j) := by
    intro i j hi hj
    unfold changedMat mul turned
    rw [entry_matOf _ hi hj, entry_matOf _ hi (by decide), entry_matOf _ hi (by decide), entry_matOf _ hi (by decide), entry_matOf _ (by decide) hj, entry_matOf _ (by decide) hj, entry_matOf _ (by decide) hj]
  obtain ⟨h1, h2, h3⟩ := S
  refine ⟨?_, ?_, ?_⟩
  · rw [ch 1 0 (by decide) (by decide), ch 0 1 (by decide) (by decide), h1, h2, h3]
    grind
  · rw [ch 2 0 (by decide) (by decide), ch 0 2 (by decide) (by decide), h1, h2, h3]
    grind
  · rw [ch 2 1 (by decide) (by decide), ch 1 2 (by decide) (by decide), h1, h2, h3]
    grind
/-- way back -/
theorem back (p : Mat) (x : Col) : at_ (apply (adj p) (apply p x)) 0 = det p * at_ x 0 ∧ at_ (apply (adj p) (apply p x)) 1 = det p * at_ x 1 ∧ at_ (apply (adj p) (apply p x)) 2 = det p * at_ x 2 := by
  have a : ∀ i, i < 3 → at_ (apply (adj p) (apply p x)) i = cofactor p 0 i * (entry p 0 0 * at_ x 0 + entry p 0 1 * at_ x 1 + entry p 0 2 * at_ x 2) + cofactor p 1 i * (entry p 1 0 * at_ x 0 + entry p 1 1 * at_ x 1 + entry p 1 2 * at_ x 2) + cofactor p 2 i * (entry p 2 0 * at_ x 0 + entry p 2 1 * at_ x 1 + entry p 2 2 * at_ x 2) := by
    intro i hi
    match i, hi with
    | 0, _ => rfl
    | 1, _ => rfl
    | 2, _ => rfl
    | _ + 3, h => omega
  rw [a 0 (by decide), a 1 (by decide), a 2 (by decide)]
  unfold det cofactor
  simp only [Nat.reduceAdd, Nat.reduceMod]
  refine ⟨?_, ?_, ?_⟩ <;> grind
/-- the other way round -/
theorem forth (p : Mat) (x : Col) : at_ (apply p (apply (adj p) x)) 0 = det p * at_ x 0 ∧ at_ (apply p (apply (adj p) x)) 1 = det p * at_ x 1 ∧ at_ (apply p (apply (adj p) x)) 2 = det p * at_ x 2 := by
  have a : ∀ i, i < 3 → at_ (apply p (apply (adj p) x)) i = entry p i 0 * (cofactor p 0 0 * at_ x 0 + cofactor p 1 0 * at_ x 1 + cofactor p 2 0 * at_ x 2) + entry p i 1 * (cofactor p 0 1 * at_ x 0 + cofactor p 1 1 * at_ x 1 + cofactor p 2 1 * at_ x 2) + entry p i 2 * (cofactor p 0 2 * at_ x 0 + cofactor p 1 2 * at_ x 1 + cofactor p 2 2 * at_ x 2) := by
    intro i hi
    match i, hi with
    | 0, _ => rfl
    | 1, _ => rfl
    | 2, _ => rfl
    | _ + 3, h => omega
  rw [a 0 (by decide), a 1 (by decide), a 2 (by decide)]
  unfold det cofactor
  simp only [Nat.reduceAdd, Nat.reduceMod]
  refine ⟨?_, ?_, ?_⟩ <;> grind
theorem pd_changed {m p : Mat} (P : Pd m) (h : det p ≠ 0) : Pd (changedMat m p) := by
  refine ⟨sym_changed p P.sym, fun x y z hx => ?_⟩
  have e := norm_nf (sym_changed p P.sym) [x, y, z]
  have e2 : nf (entry (changedMat m p) 0 0) (entry (changedMat m p) 1 1) (entry (changedMat m p) 2 2) (entry (changedMat m p) 1 2) (entry (changedMat m p) 0 2) (entry (changedMat m p) 0 1) x y z = norm (changedMat m p) [x, y, z] := e.symm
  rw [e2, changed_norm]
  refine P.pos _ fun q => hx ?_
  obtain ⟨b0, b1, b2⟩ := back p [x, y, z]
  obtain ⟨q0, q1, q2⟩ := q
  have z0 : ∀ i, i < 3 → at_ (apply (adj p) (apply p [x, y, z])) i = 0 := by
    intro i hi
    have : ∀ i, i < 3 → at_ (apply (adj p) (apply p [x, y, z])) i = entry (adj p) i 0 * at_ (apply p [x, y, z]) 0 + entry (adj p) i 1 * at_ (apply p [x, y, z]) 1 + entry (adj p) i 2 * at_ (apply p [x, y, z]) 2 := by
      intro i hi
      match i, hi with
      | 0, _ => rfl
      | 1, _ => rfl
      | 2, _ => rfl
      | _ + 3, h => omega
    rw [this i hi, q0, q1, q2]
    simp
  rw [z0 0 (by decide)] at b0
  rw [z0 1 (by decide)] at b1
  rw [z0 2 (by decide)] at b2
  refine ⟨?_, ?_, ?_⟩
  · rcases Int.mul_eq_zero.mp b0.symm with e | e
    · exact absurd e h
    · exact e
  · rcases Int.mul_eq_zero.mp b1.symm with e | e
    · exact absurd e h
    · exact e
  · rcases Int.mul_eq_zero.mp b2.symm with e | e
    · exact absurd e h
    · exact e
end Ln

set_option Elab.async false
namespace Ln
open Cy
/-! ### the short change has a way back -/
/-- the determinant of three columns -/
def D3 (u v w : Col) : Int := at_ u 0 * (at_ v 1 * at_ w 2 - at_ w 1 * at_ v 2) + at_ v 0 * (at_ w 1 * at_ u 2 - at_ u 1 * at_ w 2) + at_ w 0 * (at_ u 1 * at_ v 2 - at_ v 1 * at_ u 2)
theorem det_cols (u v w : Col) : det (ofColumns u v w) = D3 u v w := by
  show at_ u 0 * (at_ v 1 * at_ w 2 - at_ w 1 * at_ v 2) + at_ v 0 * (at_ w 1 * at_ u 2 - at_ u 1 * at_ w 2) + at_ w 0 * (at_ u 1 * at_ v 2 - at_ v 1 * at_ u 2) = _
  rfl
structure Gd (u v w : Col) : Prop where
  lu : u.length = 3
  lv : v.length = 3
  lw : w.length = 3
  one : D3 u v w = 1 ∨ D3 u v w = -1
theorem Gd.swap {u v w : Col} (G : Gd u v w) : Gd v u w := ⟨G.lv, G.lu, G.lw, by
  have e : D3 v u w = - D3 u v w := by
    unfold D3
    grind
  rcases G.one with h | h <;> omega⟩
theorem Gd.rot {u v w : Col} (G : Gd u v w) : Gd u w v := ⟨G.lu, G.lw, G.lv, by
  have e : D3 u w v = - D3 u v w := by
    unfold D3
    grind
  rcases G.one with h | h <;> omega⟩
theorem less_len {u v : Col} (q : Int) (hu : u.length = 3) (hv : v.length = 3) : (less u v q).length = 3 := by
  unfold less
  rw [List.length_zipWith]
  omega
theorem at_less {u v : Col} (q : Int) (hu : u.length = 3) (hv : v.length = 3) {i : Nat} (hi : i < 3) : at_ (less u v q) i = at_ u i - q * at_ v i := by
  match u, v, hu, hv with
  | [a, b, c], [d, e, f], _, _ =>
    match i, hi with
    | 0, _ => rfl
    | 1, _ => rfl
    | 2, _ => rfl
    | _ + 3, h => omega
theorem Gd.lv' {u v w : Col} (G : Gd u v w) (q : Int) : Gd u (less v u q) w := ⟨G.lu, less_len q G.lv G.lu, G.lw, by
  have e : D3 u (less v u q) w = D3 u v w := by
    unfold D3
    rw [at_less q G.lv G.lu (by decide), at_less q G.lv G.lu (by decide), at_less q G.lv G.lu (by decide)]
    grind
  rw [e]
  exact G.one⟩
theorem Gd.lw' {u v w : Col} (G : Gd u v w) (q r : Int) : Gd u v (less (less w u q) v r) := ⟨G.lu, G.lv, less_len r (less_len q G.lw G.lu) G.lv, by
  have e : D3 u v (less (less w u q) v r) = D3 u v w := by
    unfold D3
    have l := less_len q G.lw G.lu
    rw [at_less r l G.lv (by decide), at_less r l G.lv (by decide), at_less r l G.lv (by decide), at_less q G.lw G.lu (by decide), at_less q G.lw G.lu (by decide), at_less q G.lw G.lu (by decide)]
    grind
  rw [e]
  exact G.one⟩
def Gt (x : Col × Col × Col) : Prop := Gd x.1 x.2.1 x.2.2
theorem gt_sort {m : Mat} {u v w : Col} (G : Gd u v w) : Gt (sort3 m u v w) := by
  unfold sort3
  dsimp only
  have G' : Gd (if byLength m u v = true then (u, v) else (v, u)).1 (if byLength m u v = true then (u, v) else (v, u)).2 w := by
    by_cases h : byLength m u v = true
    · rw [if_pos h]
      exact G
    · rw [if_neg h]
      exact G.swap
  generalize (if byLength m u v = true then (u, v) else (v, u)) = x at G'
  by_cases h1 : byLength m x.2 w = true
  · rw [if_pos h1]
    exact G'
  · rw [if_neg h1]
    by_cases h2 : byLength m x.1 w = true
    · rw [if_pos h2]
      exact G'.rot
    · rw [if_neg h2]
      exact G'.rot.swap
theorem shortest_mem (m : Mat) : ∀ (l : List Col) (c : Col), shortest m c l = c ∨ shortest m c l ∈ l
  | [], c => .inl rfl
  | x :: l, c => by
    show shortest m (if norm m x < norm m c then x else c) l = c ∨ _
    by_cases h : norm m x < norm m c
    · have e : shortest m c (x :: l) = shortest m x l := by
        show shortest m (if norm m x < norm m c then x else c) l = _
        rw [if_pos h]
      rw [if_pos h, e]
      rcases shortest_mem m l x with q | q
      · exact .inr (by rw [q]; exact List.mem_cons_self ..)
      · exact .inr (List.mem_cons_of_mem _ q)
    · have e : shortest m c (x :: l) = shortest m c l := by
        show shortest m (if norm m x < norm m c then x else c) l = _
        rw [if_neg h]
      rw [if_neg h, e]
      rcases shortest_mem m l c with q | q
      · exact .inl q
      · exact .inr (List.mem_cons_of_mem _ q)
theorem gt_round {m : Mat} {x : Col × Col × Col} (G : Gt x) : Gt (roundOnce m x) := by
  unfold roundOnce
  dsimp only
  have G1 : Gt (sort3 m x.1 x.2.1 x.2.2) := gt_sort G
  generalize sort3 m x.1 x.2.1 x.2.2 = y at G1
  have G2 := Gd.lv' G1 (nearest (dot m y.2.1 y.1) (norm m y.1))
  generalize less y.2.1 y.1 (nearest (dot m y.2.1 y.1) (norm m y.1)) = v at G2
  refine gt_sort ?_
  rcases shortest_mem m (near3.flatMap fun (i : Int) => near3.map fun (j : Int) => less (less y.2.2 y.1 (nearest (dot m y.2.2 y.1 * norm m v - dot m y.2.2 v * dot m y.1 v) (norm m y.1 * norm m v - dot m y.1 v * dot m y.1 v) + i)) v (nearest (dot m y.2.2 v * norm m y.1 - dot m y.2.2 y.1 * dot m y.1 v) (norm m y.1 * norm m v - dot m y.1 v * dot m y.1 v) + j)) y.2.2 with q | q
  · rw [q]
    exact G2
  · obtain ⟨i, _, hi⟩ := List.mem_flatMap.mp q
    obtain ⟨j, _, hj⟩ := List.mem_map.mp hi
    rw [← hj]
    exact Gd.lw' G2 _ _
theorem gt_rounds {m : Mat} : ∀ (f : Nat) (x : Col × Col × Col), Gt x → Gt (roundsFrom m f x)
  | 0, x, G => G
  | f + 1, x, G => by
    unfold roundsFrom
    dsimp only
    split
    · exact gt_rounds f _ (gt_round G)
    · exact G
theorem short_det (m : Mat) : det (shortBase m) = 1 ∨ det (shortBase m) = -1 := by
  unfold shortBase
  dsimp only
  rw [det_cols]
  exact (gt_rounds (m := m) _ _ (gt_sort ⟨rfl, rfl, rfl, .inl rfl⟩)).one
/-! ### the whole root -/
theorem root_from : ∀ (f n low high : Nat), low * low ≤ n → n < high * high → high - low ≤ 2 ^ f → rootFrom f n low high * rootFrom f n low high ≤ n ∧ n < (rootFrom f n low high + 1) * (rootFrom f n low high + 1)
  | 0, n, low, high, h1, h2, h3 => by
    refine ⟨h1, Nat.lt_of_lt_of_le h2 ?_⟩
    have : high ≤ low + 1 := by
      have : 2 ^ 0 = 1 := rfl
      omega
    exact Nat.mul_le_mul this this
  | f + 1, n, low, high, h1, h2, h3 => by
    unfold rootFrom
    by_cases h : high ≤ low + 1
    · rw [if_pos h]
      exact ⟨h1, Nat.lt_of_lt_of_le h2 (Nat.mul_le_mul h h)⟩
    · rw [if_neg h]
      have hp : 2 ^ (f + 1) = 2 * 2 ^ f := by rw [Nat.pow_succ, Nat.mul_comm]
      by_cases hm : (low + high) / 2 * ((low + high) / 2) ≤ n
      · rw [if_pos hm]
        exact root_from f n _ high hm h2 (by omega)
      · rw [if_neg hm]
        exact root_from f n low _ h1 (by omega) (by omega)
theorem root_ok (n : Nat) : root n * root n ≤ n ∧ n < (root n + 1) * (root n + 1) := by
  unfold root
  refine root_from _ n 0 _ (by omega) ?_ ?_
  · have h := Nat.lt_log2_self (n := n)
    have e : 2 ^ (n.log2 / 2 + 1) * 2 ^ (n.log2 / 2 + 1) = 2 ^ (n.log2 / 2 + 1 + (n.log2 / 2 + 1)) := (Nat.pow_add 2 _ _).symm
    rw [e]
    exact Nat.lt_of_lt_of_le h (Nat.pow_le_pow_right (by decide) (by omega))
  · exact Nat.le_trans (Nat.sub_le _ _) (Nat.pow_le_pow_right (by decide) (by omega))
theorem le_root {x n : Nat} (h : x * x ≤ n) : x ≤ root n := by
  have h2 := (root_ok n).2
  rcases Nat.lt_or_ge (root n) x with q | q
  · have := Nat.mul_le_mul (show root n + 1 ≤ x from q) (show root n + 1 ≤ x from q)
    omega
  · exact q
theorem root_le {x n : Nat} (h : x ≤ root n) : x * x ≤ n := Nat.le_trans (Nat.mul_le_mul h h) (root_ok n).1
theorem mem_spread {n : Nat} {x : Int} : x ∈ spread n ↔ x.natAbs ≤ n := by
  unfold spread
  rw [List.mem_map]
  constructor
  · rintro ⟨i, hi, rfl⟩
    have := List.mem_range.mp hi
    omega
  · intro h
    exact ⟨(x + n).toNat, List.mem_range.mpr (by omega), by omega⟩
theorem nodup_map_of {α β : Type} {f : α → β} : ∀ {l : List α}, l.Nodup → (∀ x, x ∈ l → ∀ y, y ∈ l → f x = f y → x = y) → (l.map f).Nodup
  | [], _, _ => List.nodup_nil
  | a :: l, h, hf => by
    obtain ⟨h1, h2⟩ := List.nodup_cons.mp h
    rw [List.map_cons]
    refine List.nodup_cons.mpr ⟨fun q => ?_, nodup_map_of h2 fun x hx y hy => hf x (List.mem_cons_of_mem _ hx) y (List.mem_cons_of_mem _ hy)⟩
    obtain ⟨b, hb, e⟩ := List.mem_map.mp q
    have := hf b (List.mem_cons_of_mem _ hb) a (List.mem_cons_self ..) e
    exact h1 (this ▸ hb)
theorem nodup_spread (n : Nat) : (spread n).Nodup := nodup_map_of List.nodup_range fun x _ y _ h => by omega
theorem nodup_flatMap {α β : Type} {f : α → List β} : ∀ {l : List α}, l.Nodup → (∀ x, x ∈ l → (f x).Nodup) → (∀ x, x ∈ l → ∀ y, y ∈ l → ∀ z, z ∈ f x → z ∈ f y → x = y) → (l.flatMap f).Nodup
  | [], _, _, _ => List.nodup_nil
  | a :: l, h, h1, h2 => by
    obtain ⟨k1, k2⟩ := List.nodup_cons.mp h
    rw [List.flatMap_cons]
    refine List.nodup_append.mpr ⟨h1 a (List.mem_cons_self ..), nodup_flatMap k2 (fun x hx => h1 x (List.mem_cons_of_mem _ hx)) (fun x hx y hy => h2 x (List.mem_cons_of_mem _ hx) y (List.mem_cons_of_mem _ hy)), fun x hx y hy e => ?_⟩
    subst e
    obtain ⟨b, hb, hz⟩ := List.mem_flatMap.mp hy
    have := h2 a (List.mem_cons_self ..) b (List.mem_cons_of_mem _ hb) x hx hz
    exact k1 (this ▸ hb)
end Ln

set_option Elab.async false
namespace Ln
open Cy
/-! ### the short columns, each once -/
/-- a column of three, not 0 0 0, up to the bound -/
def Sh (m : Mat) (b : Nat) (h : Col) : Prop := (∃ x y z : Int, h = [x, y, z] ∧ ¬ (x = 0 ∧ y = 0 ∧ z = 0)) ∧ norm m h ≤ b
theorem apply_is (p : Mat) (x : Col) : apply p x = [at_ (apply p x) 0, at_ (apply p x) 1, at_ (apply p x) 2] := rfl
theorem nought3 (x y z : Int) : nought [x, y, z] = true ↔ x = 0 ∧ y = 0 ∧ z = 0 := by
  unfold nought
  simp
theorem nat_sq {x D C : Int} {b : Nat} {N : Int} (hD : 0 < D) (hC : 0 < C) (hN : N ≤ b) (h : D * (x * x) ≤ C * N) : x.natAbs ≤ root (b * C.natAbs / D.natAbs) := by
  refine le_root ((Nat.le_div_iff_mul_le (by omega)).mpr ?_)
  have h1 : C * N ≤ C * b := Int.mul_le_mul_of_nonneg_left hN (Int.le_of_lt hC)
  have h2 : D * (x * x) ≤ C * b := Int.le_trans h h1
  have e1 : ((x.natAbs * x.natAbs * D.natAbs : Nat) : Int) = D * (x * x) := by
    rw [Int.natCast_mul, Int.natCast_mul, Int.natAbs_mul_self', Int.natAbs_of_nonneg (Int.le_of_lt hD), Int.mul_comm]
  have e2 : ((b * C.natAbs : Nat) : Int) = C * b := by
    rw [Int.natCast_mul, Int.natAbs_of_nonneg (Int.le_of_lt hC), Int.mul_comm]
  omega
section
variable {m : Mat} (P : Pd m) (b : Nat)
include P
theorem pd_short : Pd (changedMat m (shortBase m)) := pd_changed P (by rcases short_det m with h | h <;> omega)
theorem in_box {x y z : Int} (h : norm (changedMat m (shortBase m)) [x, y, z] ≤ b) : x.natAbs ≤ root (b * (cofactor (changedMat m (shortBase m)) 0 0).natAbs / (det (changedMat m (shortBase m))).natAbs) ∧ y.natAbs ≤ root (b * (cofactor (changedMat m (shortBase m)) 1 1).natAbs / (det (changedMat m (shortBase m))).natAbs) ∧ z.natAbs ≤ root (b * (cofactor (changedMat m (shortBase m)) 2 2).natAbs / (det (changedMat m (shortBase m))).natAbs) := by
  have S := pd_short P
  generalize changedMat m (shortBase m) = s at h S
  rw [norm_nf S.sym] at h
  rw [cof0 S.sym, cof1 S.sym, cof2 S.sym, det_dt S.sym]
  exact ⟨nat_sq (ps_dt S.ps) (ps_ca S.ps) h (bd_x S.ps _ _ _), nat_sq (ps_dt S.ps) (ps_cb S.ps) h (bd_y S.ps _ _ _), nat_sq (ps_dt S.ps) (ps_cc S.ps) h (bd_z S.ps _ _ _)⟩
/-- who is there, by the short base's numbers -/
theorem mem_all' (l : List Int) : l ∈ shortAll m b ↔ ∃ x y z : Int, ¬ (x = 0 ∧ y = 0 ∧ z = 0) ∧ norm (changedMat m (shortBase m)) [x, y, z] ≤ b ∧ l = norm (changedMat m (shortBase m)) [x, y, z] :: apply (shortBase m) [x, y, z] := by
  unfold shortAll
  dsimp only
  rw [List.mem_flatMap]
  constructor
  · rintro ⟨x, hx, h⟩
    obtain ⟨y, hy, h⟩ := List.mem_flatMap.mp h
    obtain ⟨z, hz, h⟩ := List.mem_map.mp h
    obtain ⟨hz, hq⟩ := List.mem_filter.mp hz
    simp only [Bool.and_eq_true, decide_eq_true_eq, Bool.not_eq_true'] at hq
    refine ⟨x, y, z, fun q => ?_, hq.1, h.symm⟩
    rw [(nought3 x y z).mpr q] at hq
    exact Bool.noConfusion hq.2
  · rintro ⟨x, y, z, h0, hn, rfl⟩
    obtain ⟨b1, b2, b3⟩ := in_box P b hn
    refine ⟨x, mem_spread.mpr b1, List.mem_flatMap.mpr ⟨y, mem_spread.mpr b2, List.mem_map.mpr ⟨z, List.mem_filter.mpr ⟨mem_spread.mpr b3, ?_⟩, rfl⟩⟩⟩
    have e : nought [x, y, z] = false := by
      cases q : nought [x, y, z] with
      | false => rfl
      | true => exact absurd ((nought3 x y z).mp q) h0
    rw [e]
    simpa using hn
omit P in
theorem apply_inj {x y z x' y' z' : Int} (h : apply (shortBase m) [x, y, z] = apply (shortBase m) [x', y', z']) : x = x' ∧ y = y' ∧ z = z' := by
  have hd := short_det m
  obtain ⟨b0, b1, b2⟩ := back (shortBase m) [x, y, z]
  obtain ⟨c0, c1, c2⟩ := back (shortBase m) [x', y', z']
  rw [h] at b0 b1 b2
  have e0 := b0.symm.trans c0
  have e1 := b1.symm.trans c1
  have e2 := b2.symm.trans c2
  have f0 : det (shortBase m) * x = det (shortBase m) * x' := e0
  have f1 : det (shortBase m) * y = det (shortBase m) * y' := e1
  have f2 : det (shortBase m) * z = det (shortBase m) * z' := e2
  generalize det (shortBase m) = D at *
  rcases hd with rfl | rfl <;> omega
theorem mem_all (l : List Int) : l ∈ shortAll m b ↔ ∃ h, Sh m b h ∧ l = norm m h :: h := by
  rw [mem_all' P b l]
  constructor
  · rintro ⟨x, y, z, h0, hn, rfl⟩
    refine ⟨apply (shortBase m) [x, y, z], ⟨⟨_, _, _, apply_is _ _, fun q => h0 ?_⟩, ?_⟩, ?_⟩
    · have e : apply (shortBase m) [x, y, z] = apply (shortBase m) [0, 0, 0] := by
        rw [apply_is, q.1, q.2.1, q.2.2]
        show _ = [entry (shortBase m) 0 0 * 0 + entry (shortBase m) 0 1 * 0 + entry (shortBase m) 0 2 * 0, entry (shortBase m) 1 0 * 0 + entry (shortBase m) 1 1 * 0 + entry (shortBase m) 1 2 * 0, entry (shortBase m) 2 0 * 0 + entry (shortBase m) 2 1 * 0 + entry (shortBase m) 2 2 * 0]
        simp
      exact apply_inj e
    · rw [← changed_norm]
      exact hn
    · rw [changed_norm]
  · rintro ⟨h, ⟨⟨x, y, z, rfl, h0⟩, hn⟩, rfl⟩
    have hd := short_det m
    obtain ⟨f0, f1, f2⟩ := forth (shortBase m) [x, y, z]
    have key : ∃ x' y' z', apply (shortBase m) [x', y', z'] = [x, y, z] := by
      have lin : ∀ D : Int, apply (shortBase m) [D * at_ (apply (adj (shortBase m)) [x, y, z]) 0, D * at_ (apply (adj (shortBase m)) [x, y, z]) 1, D * at_ (apply (adj (shortBase m)) [x, y, z]) 2] = [D * (det (shortBase m) * x), D * (det (shortBase m) * y), D * (det (shortBase m) * z)] := by
        intro D
        have g0 : entry (shortBase m) 0 0 * at_ (apply (adj (shortBase m)) [x, y, z]) 0 + entry (shortBase m) 0 1 * at_ (apply (adj (shortBase m)) [x, y, z]) 1 + entry (shortBase m) 0 2 * at_ (apply (adj (shortBase m)) [x, y, z]) 2 = det (shortBase m) * x := f0
        have g1 : entry (shortBase m) 1 0 * at_ (apply (adj (shortBase m)) [x, y, z]) 0 + entry (shortBase m) 1 1 * at_ (apply (adj (shortBase m)) [x, y, z]) 1 + entry (shortBase m) 1 2 * at_ (apply (adj (shortBase m)) [x, y, z]) 2 = det (shortBase m) * y := f1
        have g2 : entry (shortBase m) 2 0 * at_ (apply (adj (shortBase m)) [x, y, z]) 0 + entry (shortBase m) 2 1 * at_ (apply (adj (shortBase m)) [x, y, z]) 1 + entry (shortBase m) 2 2 * at_ (apply (adj (shortBase m)) [x, y, z]) 2 = det (shortBase m) * z := f2
        rw [← g0, ← g1, ← g2]
        generalize at_ (apply (adj (shortBase m)) [x, y, z]) 0 = u
        generalize at_ (apply (adj (shortBase m)) [x, y, z]) 1 = v
        generalize at_ (apply (adj (shortBase m)) [x, y, z]) 2 = w
        show [entry (shortBase m) 0 0 * (D * u) + entry (shortBase m) 0 1 * (D * v) + entry (shortBase m) 0 2 * (D * w), entry (shortBase m) 1 0 * (D * u) + entry (shortBase m) 1 1 * (D * v) + entry (shortBase m) 1 2 * (D * w), entry (shortBase m) 2 0 * (D * u) + entry (shortBase m) 2 1 * (D * v) + entry (shortBase m) 2 2 * (D * w)] = _
        congr 1
        · grind
        · congr 1
          · grind
          · congr 1
            grind
      refine ⟨_, _, _, (lin (det (shortBase m))).trans ?_⟩
      generalize det (shortBase m) = D at hd
      rcases hd with rfl | rfl
      · simp
      · simp
    obtain ⟨x', y', z', e⟩ := key
    refine ⟨x', y', z', fun q => h0 ?_, ?_, ?_⟩
    · obtain ⟨rfl, rfl, rfl⟩ := q
      have e' : [entry (shortBase m) 0 0 * 0 + entry (shortBase m) 0 1 * 0 + entry (shortBase m) 0 2 * 0, entry (shortBase m) 1 0 * 0 + entry (shortBase m) 1 1 * 0 + entry (shortBase m) 1 2 * 0, entry (shortBase m) 2 0 * 0 + entry (shortBase m) 2 1 * 0 + entry (shortBase m) 2 2 * 0] = [x, y, z] := e
      simp at e'
      omega
    · rw [changed_norm, e]
      exact hn
    · rw [changed_norm, e]
omit P in
theorem nodup_all : (shortAll m b).Nodup := by
  unfold shortAll
  dsimp only
  refine nodup_flatMap (nodup_spread _) (fun x _ => nodup_flatMap (nodup_spread _) (fun y _ => nodup_map_of ((nodup_spread _).filter _) fun z _ z' _ e => ?_) ?_) ?_
  · exact (apply_inj (List.cons.inj e).2).2.2
  · intro y _ y' _ l h1 h2
    obtain ⟨z, _, e1⟩ := List.mem_map.mp h1
    obtain ⟨z', _, e2⟩ := List.mem_map.mp h2
    exact (apply_inj (List.cons.inj (e1.trans e2.symm)).2).2.1
  · intro x _ x' _ l h1 h2
    obtain ⟨y, _, h1⟩ := List.mem_flatMap.mp h1
    obtain ⟨y', _, h2⟩ := List.mem_flatMap.mp h2
    obtain ⟨z, _, e1⟩ := List.mem_map.mp h1
    obtain ⟨z', _, e2⟩ := List.mem_map.mp h2
    exact (apply_inj (List.cons.inj (e1.trans e2.symm)).2).1
/-- any list of the short columns, each once, tells what the specification tells -/
theorem all_perm {B : List Col} (hB : B.Nodup) (hm : ∀ h, h ∈ B ↔ Sh m b h) : (shortAll m b).Perm (B.map fun h => norm m h :: h) := by
  refine (List.perm_ext_iff_of_nodup (nodup_all b) (nodup_map_of hB fun x _ y _ e => (List.cons.inj e).2)).mpr fun l => ?_
  rw [mem_all P b l, List.mem_map]
  constructor
  · rintro ⟨h, hh, rfl⟩
    exact ⟨h, (hm h).mpr hh, rfl⟩
  · rintro ⟨h, hh, rfl⟩
    exact ⟨h, (hm h).mp hh, rfl⟩
end
/-! ### surely more -/
theorem len_le_of_sub {α : Type} [DecidableEq α] {l l' : List α} (h : l.Nodup) (h' : l'.Nodup) (hs : ∀ x, x ∈ l → x ∈ l') : l.length ≤ l'.length := by
  have e : l.Perm (l'.filter fun x => decide (x ∈ l)) := (List.perm_ext_iff_of_nodup h (h'.filter _)).mpr fun x => by
    rw [List.mem_filter, decide_eq_true_eq]
    exact ⟨fun q => ⟨hs x q, q⟩, fun q => q.2⟩
  rw [e.length_eq]
  exact List.length_filter_le _ _
theorem len_flat {α β : Type} {f : α → List β} {k : Nat} : ∀ {l : List α}, (∀ x, x ∈ l → (f x).length = k) → (l.flatMap f).length = l.length * k
  | [], _ => by simp
  | a :: l, h => by
    rw [List.flatMap_cons, List.length_append, h a (List.mem_cons_self ..), len_flat (l := l) fun x hx => h x (List.mem_cons_of_mem _ hx), List.length_cons, Nat.succ_mul, Nat.add_comm]
/-- all columns within three bounds -/
def box (i j k : Nat) : List Col := (spread i).flatMap fun x => (spread j).flatMap fun y => (spread k).map fun z => [x, y, z]
theorem mem_box {i j k : Nat} {h : Col} : h ∈ box i j k ↔ ∃ x y z : Int, h = [x, y, z] ∧ x.natAbs ≤ i ∧ y.natAbs ≤ j ∧ z.natAbs ≤ k := by
  unfold box
  rw [List.mem_flatMap]
  constructor
  · rintro ⟨x, hx, h⟩
    obtain ⟨y, hy, h⟩ := List.mem_flatMap.mp h
    obtain ⟨z, hz, h⟩ := List.mem_map.mp h
    exact ⟨x, y, z, h.symm, mem_spread.mp hx, mem_spread.mp hy, mem_spread.mp hz⟩
  · rintro ⟨x, y, z, rfl, h1, h2, h3⟩
    exact ⟨x, mem_spread.mpr h1, List.mem_flatMap.mpr ⟨y, mem_spread.mpr h2, List.mem_map.mpr ⟨z, mem_spread.mpr h3, rfl⟩⟩⟩
theorem nodup_box (i j k : Nat) : (box i j k).Nodup := by
  unfold box
  refine nodup_flatMap (nodup_spread _) (fun x _ => nodup_flatMap (nodup_spread _) (fun y _ => nodup_map_of (nodup_spread _) fun z _ z' _ e => ?_) ?_) ?_
  · injection e with _ e
    injection e with _ e
    injection e
  · intro y _ y' _ l h1 h2
    obtain ⟨z, _, e1⟩ := List.mem_map.mp h1
    obtain ⟨z', _, e2⟩ := List.mem_map.mp h2
    have e := e1.trans e2.symm
    injection e with _ e
    injection e
  · intro x _ x' _ l h1 h2
    obtain ⟨y, _, h1⟩ := List.mem_flatMap.mp h1
    obtain ⟨y', _, h2⟩ := List.mem_flatMap.mp h2
    obtain ⟨z, _, e1⟩ := List.mem_map.mp h1
    obtain ⟨z', _, e2⟩ := List.mem_map.mp h2
    have e := e1.trans e2.symm
    injection e
theorem len_spread (n : Nat) : (spread n).length = 2 * n + 1 := by simp [spread]
theorem len_box (i j k : Nat) : (box i j k).length = (2 * i + 1) * (2 * j + 1) * (2 * k + 1) := by
  unfold box
  rw [len_flat (k := (2 * j + 1) * (2 * k + 1)) fun x _ => ?_, len_spread, Nat.mul_assoc]
  rw [len_flat (k := 2 * k + 1) fun y _ => ?_, len_spread]
  rw [List.length_map, len_spread]
theorem nine {a x : Int} {b : Nat} (ha : 0 < a) (h : x.natAbs ≤ root (b / (9 * a.natAbs))) : 9 * (a * (x * x)) ≤ b := by
  have h1 := root_le h
  have h2 : x.natAbs * x.natAbs * (9 * a.natAbs) ≤ b := (Nat.le_div_iff_mul_le (by omega)).mp h1
  have e1 : ((x.natAbs * x.natAbs * (9 * a.natAbs) : Nat) : Int) = 9 * (a * (x * x)) := by
    rw [Int.natCast_mul, Int.natCast_mul, Int.natCast_mul, Int.natAbs_mul_self', Int.natAbs_of_nonneg (Int.le_of_lt ha)]
    grind
  omega
theorem surely {m : Mat} (P : Pd m) {b n : Nat} (h : surelyMore m b n = true) : n < (shortAll m b).length := by
  unfold surelyMore at h
  dsimp only at h
  rw [decide_eq_true_eq] at h
  have S := pd_short P
  rw [← len_box] at h
  have hsub : ((box (root (b / (9 * (entry (changedMat m (shortBase m)) 0 0).natAbs))) (root (b / (9 * (entry (changedMat m (shortBase m)) 1 1).natAbs))) (root (b / (9 * (entry (changedMat m (shortBase m)) 2 2).natAbs)))).filter fun h => decide (h ≠ [0, 0, 0])).length ≤ (shortAll m b).length := by
    have e : (((box (root (b / (9 * (entry (changedMat m (shortBase m)) 0 0).natAbs))) (root (b / (9 * (entry (changedMat m (shortBase m)) 1 1).natAbs))) (root (b / (9 * (entry (changedMat m (shortBase m)) 2 2).natAbs)))).filter fun h => decide (h ≠ [0, 0, 0])).map fun h => norm (changedMat m (shortBase m)) h :: apply (shortBase m) h).length ≤ (shortAll m b).length := by
      refine len_le_of_sub (nodup_map_of ((nodup_box _ _ _).filter _) fun u hu v hv e => ?_) (nodup_all b) fun l hl => ?_
      · obtain ⟨x, y, z, rfl, _⟩ := mem_box.mp (List.mem_filter.mp hu).1
        obtain ⟨x', y', z', rfl, _⟩ := mem_box.mp (List.mem_filter.mp hv).1
        obtain ⟨rfl, rfl, rfl⟩ := apply_inj (List.cons.inj e).2
        rfl
      · obtain ⟨u, hu, rfl⟩ := List.mem_map.mp hl
        obtain ⟨hu, h0⟩ := List.mem_filter.mp hu
        rw [decide_eq_true_eq] at h0
        obtain ⟨x, y, z, rfl, b1, b2, b3⟩ := mem_box.mp hu
        refine (mem_all' P b _).mpr ⟨x, y, z, fun q => h0 (by rw [q.1, q.2.1, q.2.2]), ?_, rfl⟩
        rw [norm_nf S.sym]
        have t := three S.ps x y z
        have n1 := nine (ps_a S.ps) b1
        have n2 := nine (ps_b S.ps) b2
        have n3 := nine (ps_c S.ps) b3
        show nf _ _ _ _ _ _ x y z ≤ b
        omega
    rw [List.length_map] at e
    exact e
  have hz : ∀ i j k : Nat, (box i j k).length = ((box i j k).filter fun h => decide (h ≠ [0, 0, 0])).length + 1 := by
    intro i j k
    have p : (box i j k).Perm ([0, 0, 0] :: (box i j k).filter fun h => decide (h ≠ [0, 0, 0])) := by
      refine (List.perm_ext_iff_of_nodup (nodup_box i j k) (List.nodup_cons.mpr ⟨fun q => ?_, (nodup_box i j k).filter _⟩)).mpr fun l => ?_
      · have := (List.mem_filter.mp q).2
        simp at this
      · rw [List.mem_cons, List.mem_filter, decide_eq_true_eq]
        constructor
        · intro q
          by_cases e : l = [0, 0, 0]
          · exact .inl e
          · exact .inr ⟨q, e⟩
        · rintro (rfl | q)
          · exact mem_box.mpr ⟨0, 0, 0, rfl, by simp, by simp, by simp⟩
          · exact q.1
    rw [p.length_eq, List.length_cons]
  rw [hz] at h
  omega
/-! ### in order -/
def lt4 (x y : List Int) : Bool := decide (x.getD 0 0 < y.getD 0 0) || (decide (x.getD 0 0 = y.getD 0 0) && (decide (x.getD 1 0 < y.getD 1 0) || (decide (x.getD 1 0 = y.getD 1 0) && (decide (x.getD 2 0 < y.getD 2 0) || (decide (x.getD 2 0 = y.getD 2 0) && decide (x.getD 3 0 < y.getD 3 0))))))
theorem before4 (a b c d e f g h : Int) : before [a, b, c, d] [e, f, g, h] = lt4 [a, b, c, d] [e, f, g, h] := by
  show (decide (a < e) || (decide (a = e) && (decide (b < f) || (decide (b = f) && (decide (c < g) || (decide (c = g) && (decide (d < h) || (decide (d = h) && false)))))))) = (decide (a < e) || (decide (a = e) && (decide (b < f) || (decide (b = f) && (decide (c < g) || (decide (c = g) && decide (d < h)))))))
  rw [Bool.and_false, Bool.or_false]
theorem lt4_iff (x y : List Int) : (!lt4 y x) = true ↔ ¬ (y.getD 0 0 < x.getD 0 0 ∨ (y.getD 0 0 = x.getD 0 0 ∧ (y.getD 1 0 < x.getD 1 0 ∨ (y.getD 1 0 = x.getD 1 0 ∧ (y.getD 2 0 < x.getD 2 0 ∨ (y.getD 2 0 = x.getD 2 0 ∧ y.getD 3 0 < x.getD 3 0)))))) := by
  unfold lt4
  simp only [Bool.not_eq_true', ← Bool.not_eq_true, Bool.or_eq_true, Bool.and_eq_true, decide_eq_true_eq]
theorem lines_is {g : Mat} (P : Pd (adj g)) {b : Nat} {Z : List Int} (hs : Z.Pairwise (· ≤ ·)) (hp : Z.Perm ((shortAll (adj g) b).map fun x => x.headD 0)) : linesOf g b = counted Z := by
  unfold linesOf
  congr 1
  have four : ∀ x, x ∈ shortAll (adj g) b → ∃ u v w t : Int, x = [u, v, w, t] := by
    intro x hx
    obtain ⟨h, ⟨⟨u, v, w, rfl, _⟩, _⟩, rfl⟩ := (mem_all P b x).mp hx
    exact ⟨_, u, v, w, rfl⟩
  have e : shortOf (adj g) b = (shortAll (adj g) b).mergeSort fun x y => !lt4 y x := by
    unfold shortOf sorted
    have := List.map_mergeSort (f := id) (r := fun (x y : List Int) => !before y x) (s := fun x y => !lt4 y x) (l := shortAll (adj g) b) (fun x hx y hy => by
      obtain ⟨a1, a2, a3, a4, rfl⟩ := four x hx
      obtain ⟨b1, b2, b3, b4, rfl⟩ := four y hy
      show (!before _ _) = (!lt4 _ _)
      rw [before4]
      rfl)
    simpa using this
  refine List.Perm.eq_of_pairwise (le := (· ≤ ·)) (fun x y _ _ h1 h2 => Int.le_antisymm h1 h2) ?_ hs ?_
  · rw [List.pairwise_map, e]
    refine (List.pairwise_mergeSort (le := fun x y => !lt4 y x) ?_ ?_ _).imp ?_
    · intro x y z h1 h2
      rw [lt4_iff] at *
      omega
    · intro x y
      rw [Bool.or_eq_true, lt4_iff, lt4_iff]
      omega
    · intro x y h
      have h := (lt4_iff x y).mp h
      have ex : ∀ l : List Int, l.headD 0 = l.getD 0 0 := fun l => by cases l <;> rfl
      rw [ex, ex]
      omega
  · refine List.Perm.trans (List.Perm.map _ ?_) hp.symm
    unfold shortOf sorted
    exact List.mergeSort_perm _ _
end Ln

set_option Elab.async false
namespace Ln
open Cy CyG
theorem lines_told {z : Int} {c : List Int} (h1 : okCell c = true) (h2 : rightMat (crystalIn c []).cell.mat = true) :
    PyWqambr.lines z c = if 4096 < (shortAll (adj (crystalIn c []).cell.mat) z.toNat).length then [-9] else 0 :: (linesOf (crystalIn c []).cell.mat z.toNat).flatMap fun x => [x.1, x.2] := by
  show CyGNeutral.shown (CyG.answer (.lines z.toNat c)) = _
  unfold CyG.answer
  dsimp only
  rw [if_neg (by rw [h1]; decide), if_neg (by rw [h2]; decide)]
  have P : Pd (adj (crystalIn c []).cell.mat) := pd_adj (pd_right (sym_cell _) h2)
  by_cases hm : surelyMore (adj (crystalIn c []).cell.mat) z.toNat LINES = true
  · have hl : 4096 < (shortAll (adj (crystalIn c []).cell.mat) z.toNat).length := surely P hm
    rw [if_pos hm, if_pos hl]
    rfl
  · rw [if_neg hm]
    by_cases hl : LINES < (shortAll (adj (crystalIn c []).cell.mat) z.toNat).length
    · have hl' : 4096 < (shortAll (adj (crystalIn c []).cell.mat) z.toNat).length := hl
      rw [if_pos hl, if_pos hl']
      rfl
    · have hl' : ¬ 4096 < (shortAll (adj (crystalIn c []).cell.mat) z.toNat).length := hl
      rw [if_neg hl, if_neg hl']
      rfl
theorem lines_no1 {z : Int} {c : List Int} (h1 : okCell c = false) : PyWqambr.lines z c = [-1] := by
  show CyGNeutral.shown (CyG.answer (.lines z.toNat c)) = _
  unfold CyG.answer
  dsimp only
  rw [if_pos h1]
  rfl
theorem lines_no2 {z : Int} {c : List Int} (h1 : okCell c = true) (h2 : rightMat (crystalIn c []).cell.mat = false) : PyWqambr.lines z c = [-2] := by
  show CyGNeutral.shown (CyG.answer (.lines z.toNat c)) = _
  unfold CyG.answer
  dsimp only
  rw [if_neg (by rw [h1]; decide), if_pos h2]
  rfl
end Ln
#print axioms Ln.lines_told

set_option Elab.async false
namespace Ln
open Cy
/-! ### forms and triples as the program has them -/
structure Fm where
  a : Int
  b : Int
  c : Int
  d : Int
  e : Int
  f : Int
abbrev T3 := Int × Int × Int
namespace Fm
def N (F : Fm) (t : T3) : Int := nf F.a F.b F.c F.d F.e F.f t.1 t.2.1 t.2.2
def tm (F : Fm) (x y : T3) : Int := F.a * x.1 * y.1 + F.b * x.2.1 * y.2.1 + F.c * x.2.2 * y.2.2 + (F.d * (x.2.1 * y.2.2 + x.2.2 * y.2.1) + F.e * (x.1 * y.2.2 + x.2.2 * y.1)) + F.f * (x.1 * y.2.1 + x.2.1 * y.1)
def Pos (F : Fm) : Prop := Ps F.a F.b F.c F.d F.e F.f
def D (F : Fm) : Int := dt F.a F.b F.c F.d F.e F.f
def adj (F : Fm) : Fm := ⟨F.b * F.c - F.d * F.d, F.a * F.c - F.e * F.e, F.a * F.b - F.f * F.f, F.f * F.e - F.a * F.d, F.f * F.d - F.b * F.e, F.e * F.d - F.c * F.f⟩
theorem D_is (F : Fm) : F.a * F.adj.a + F.f * F.adj.f + F.e * F.adj.e = F.D := by
  unfold D dt adj
  grind
theorem tm_self (F : Fm) (x : T3) : F.tm x x = F.N x := by
  unfold tm N nf
  grind
theorem tm_comm (F : Fm) (x y : T3) : F.tm x y = F.tm y x := by
  unfold tm
  grind
end Fm
def ls (x y : T3) (k : Int) : T3 := (x.1 - k * y.1, x.2.1 - k * y.2.1, x.2.2 - k * y.2.2)
theorem tm_ls (F : Fm) (x y z : T3) (k : Int) : F.tm x (ls y z k) = F.tm x y - k * F.tm x z := by
  unfold Fm.tm ls
  dsimp only
  grind
theorem N_ls (F : Fm) (x y : T3) (k : Int) : F.N (ls x y k) = F.N x - 2 * k * F.tm y x + k * k * F.N y := by
  have h1 := tm_ls F (ls x y k) x y k
  have h2 := tm_ls F x x y k
  have h3 := tm_ls F y x y k
  rw [Fm.tm_comm F (ls x y k) x, Fm.tm_comm F (ls x y k) y, h2, h3] at h1
  rw [← Fm.tm_self, ← Fm.tm_self F x, ← Fm.tm_self F y, h1, Fm.tm_comm F x y]
  grind
/-- the determinant of three -/
def d3 (u v w : T3) : Int := u.1 * (v.2.1 * w.2.2 - w.2.1 * v.2.2) + v.1 * (w.2.1 * u.2.2 - u.2.1 * w.2.2) + w.1 * (u.2.1 * v.2.2 - v.2.1 * u.2.2)
def One (u v w : T3) : Prop := d3 u v w = 1 ∨ d3 u v w = -1
theorem One.swap {u v w : T3} (h : One u v w) : One v u w := by
  have e : d3 v u w = - d3 u v w := by
    unfold d3
    grind
  unfold One at *
  omega
theorem One.rot {u v w : T3} (h : One u v w) : One u w v := by
  have e : d3 u w v = - d3 u v w := by
    unfold d3
    grind
  unfold One at *
  omega
theorem One.b {u v w : T3} (h : One u v w) (k : Int) : One u (ls v u k) w := by
  have e : d3 u (ls v u k) w = d3 u v w := by
    unfold d3 ls
    dsimp only
    grind
  unfold One at *
  omega
theorem One.c {u v w : T3} (h : One u v w) (k l : Int) : One u v (ls (ls w v k) u l) := by
  have e : d3 u v (ls (ls w v k) u l) = d3 u v w := by
    unfold d3 ls
    dsimp only
    grind
  unfold One at *
  omega
def z3 : T3 := (0, 0, 0)
theorem One.a0 {u v w : T3} (h : One u v w) : ¬ (u.1 = 0 ∧ u.2.1 = 0 ∧ u.2.2 = 0) := by
  rintro ⟨h1, h2, h3⟩
  have : d3 u v w = 0 := by
    unfold d3
    rw [h1, h2, h3]
    grind
  unfold One at h
  omega
theorem One.pa {F : Fm} (P : F.Pos) {u v w : T3} (h : One u v w) : 0 < F.N u := P _ _ _ h.a0
/-- what three make -/
def cm (a b c t : T3) : T3 := (t.1 * a.1 + t.2.1 * b.1 + t.2.2 * c.1, t.1 * a.2.1 + t.2.1 * b.2.1 + t.2.2 * c.2.1, t.1 * a.2.2 + t.2.1 * b.2.2 + t.2.2 * c.2.2)
theorem d3a (a b c t : T3) : d3 (cm a b c t) b c = t.1 * d3 a b c := by
  unfold d3 cm
  dsimp only
  grind
theorem d3b (a b c t : T3) : d3 a (cm a b c t) c = t.2.1 * d3 a b c := by
  unfold d3 cm
  dsimp only
  grind
theorem d3c (a b c t : T3) : d3 a b (cm a b c t) = t.2.2 * d3 a b c := by
  unfold d3 cm
  dsimp only
  grind
theorem cm_inj {a b c : T3} (h : One a b c) {t t' : T3} (e : cm a b c t = cm a b c t') : t = t' := by
  have e1 := (d3a a b c t).symm.trans ((congrArg (fun v => d3 v b c) e).trans (d3a a b c t'))
  have e2 := (d3b a b c t).symm.trans ((congrArg (fun v => d3 a v c) e).trans (d3b a b c t'))
  have e3 := (d3c a b c t).symm.trans ((congrArg (fun v => d3 a b v) e).trans (d3c a b c t'))
  obtain ⟨x, y, z⟩ := t
  obtain ⟨x', y', z'⟩ := t'
  dsimp only at e1 e2 e3
  unfold One at h
  generalize d3 a b c = D at *
  rcases h with rfl | rfl
  · congr 1
    · omega
    · congr 1 <;> omega
  · congr 1
    · omega
    · congr 1 <;> omega
theorem cm_sur {a b c : T3} (h : One a b c) (v : T3) : ∃ t, cm a b c t = v := by
  have e : ∀ k : Int, cm a b c (k * d3 v b c, k * d3 a v c, k * d3 a b v) = (k * (d3 a b c * v.1), k * (d3 a b c * v.2.1), k * (d3 a b c * v.2.2)) := by
    intro k
    unfold d3 cm
    dsimp only
    refine Prod.ext ?_ (Prod.ext ?_ ?_)
    · dsimp only
      grind
    · dsimp only
      grind
    · dsimp only
      grind
  refine ⟨_, (e (d3 a b c)).trans ?_⟩
  unfold One at h
  generalize d3 a b c = D at *
  obtain ⟨x, y, z⟩ := v
  dsimp only
  rcases h with rfl | rfl
  · simp
  · simp
/-- the form by a basis -/
def Fm.gr (F : Fm) (a b c : T3) : Fm := ⟨F.N a, F.N b, F.N c, F.tm b c, F.tm a c, F.tm a b⟩
theorem gr_N (F : Fm) (a b c t : T3) : (F.gr a b c).N t = F.N (cm a b c t) := by
  obtain ⟨x, y, z⟩ := t
  obtain ⟨a0, a1, a2⟩ := a
  obtain ⟨b0, b1, b2⟩ := b
  obtain ⟨c0, c1, c2⟩ := c
  unfold Fm.gr Fm.N Fm.tm nf cm
  dsimp only
  grind
theorem gr_pos {F : Fm} (P : F.Pos) {a b c : T3} (h : One a b c) : (F.gr a b c).Pos := by
  intro x y z hx
  have e : nf (F.gr a b c).a (F.gr a b c).b (F.gr a b c).c (F.gr a b c).d (F.gr a b c).e (F.gr a b c).f x y z = F.N (cm a b c (x, y, z)) := gr_N F a b c (x, y, z)
  rw [e]
  refine P _ _ _ fun q => hx ?_
  have e0 : cm a b c (x, y, z) = cm a b c (0, 0, 0) := by
    have : cm a b c (0, 0, 0) = (0, 0, 0) := by
      unfold cm
      simp
    rw [this]
    exact Prod.ext q.1 (Prod.ext q.2.1 q.2.2)
  have := cm_inj h e0
  injection this with h1 h2
  injection h2 with h2 h3
  exact ⟨h1, h2, h3⟩
/-! ### made shorter -/
def sh (F : Fm) (x a : T3) : T3 := ls x a ((2 * F.tm a x + F.N a) / (2 * F.N a))
theorem near {t w : Int} (hw : 0 < w) : -w ≤ 2 * (t - (2 * t + w) / (2 * w) * w) ∧ 2 * (t - (2 * t + w) / (2 * w) * w) ≤ w := by
  have h1 := Int.mul_ediv_add_emod (2 * t + w) (2 * w)
  have h2 := Int.emod_nonneg (2 * t + w) (b := 2 * w) (by omega)
  have h3 := Int.emod_lt_of_pos (2 * t + w) (b := 2 * w) (by omega)
  generalize (2 * t + w) / (2 * w) = k at *
  generalize (2 * t + w) % (2 * w) = r at *
  have e : 2 * w * k = 2 * (k * w) := by grind
  rw [e] at h1
  omega
theorem sh_half {F : Fm} {x a : T3} (h : 0 < F.N a) : -F.N a ≤ 2 * F.tm a (sh F x a) ∧ 2 * F.tm a (sh F x a) ≤ F.N a := by
  unfold sh
  rw [tm_ls, Fm.tm_self]
  exact near h
theorem sh_le {F : Fm} {x a : T3} (h : 0 < F.N a) : F.N (sh F x a) ≤ F.N x := by
  have hh := near (t := F.tm a x) h
  unfold sh
  rw [N_ls]
  generalize (2 * F.tm a x + F.N a) / (2 * F.N a) = k at *
  generalize F.tm a x = t at *
  generalize F.N a = w at *
  have key : 0 ≤ k * (2 * t - k * w) := by
    rcases Int.lt_trichotomy k 0 with hk | hk | hk
    · refine Int.mul_nonneg_of_nonpos_of_nonpos (Int.le_of_lt hk) ?_
      have : 0 ≤ (-1 - k) * w := Int.mul_nonneg (by omega) (by omega)
      have e : (-1 - k) * w = -w - k * w := by grind
      have e2 : 2 * (t - k * w) = 2 * t - 2 * (k * w) := by grind
      omega
    · rw [hk]
      simp
    · refine Int.mul_nonneg (by omega) ?_
      have : 0 ≤ (k - 1) * w := Int.mul_nonneg (by omega) (by omega)
      have e : (k - 1) * w = k * w - w := by grind
      omega
  have e : k * (2 * t - k * w) = 2 * k * t - k * k * w := by grind
  omega
def bel (F : Fm) (x a b : T3) : Int := (F.N a * F.tm b x - F.tm a b * F.tm a x) / (F.N a * F.N b - F.tm a b * F.tm a b)
def sb1 (F : Fm) (x a b : T3) : T3 := sh F (ls x b (bel F x a b)) a
def sb2 (F : Fm) (x a b : T3) : T3 := sh F (ls x b (bel F x a b + 1)) a
def sb (F : Fm) (x a b : T3) : T3 := if F.N (sb1 F x a b) ≤ F.N (sb2 F x a b) then sb1 F x a b else sb2 F x a b
theorem sb_one {F : Fm} {x a b : T3} (h : One a b x) : One a b (sb F x a b) := by
  unfold sb
  split
  · exact h.c _ _
  · exact h.c _ _
/-- what is crosswise left by a -/
def bt (F : Fm) (p a b : T3) : Int := F.N a * F.tm b p - F.tm a b * F.tm a p
theorem bt_ls (F : Fm) (x a b : T3) (m n : Int) : bt F (ls (ls x b m) a n) a b = bt F x a b - m * (F.N a * F.N b - F.tm a b * F.tm a b) := by
  unfold bt
  rw [tm_ls, tm_ls, tm_ls, tm_ls, Fm.tm_self, Fm.tm_self, Fm.tm_comm F b a]
  grind
theorem gD_ls (F : Fm) (x a b : T3) (m n : Int) : (F.gr a b (ls (ls x b m) a n)).D = (F.gr a b x).D := by
  unfold Fm.gr Fm.D dt
  dsimp only
  simp only [N_ls, tm_ls, Fm.tm_self]
  rw [Fm.tm_comm F b a]
  generalize F.N x = x1, F.N a = x2, F.N b = x3, F.tm a b = x4, F.tm a x = x5, F.tm b x = x6
  grind
/-- the plane's part of one that lies well over it -/
theorem red1 {F : Fm} {a b p : T3} (ha : 0 < F.N a) (hB : 0 < F.N a * F.N b - F.tm a b * F.tm a b) (h1 : -F.N a ≤ 2 * F.tm a p) (h2 : 2 * F.tm a p ≤ F.N a) (h3 : -(F.N a * F.N b - F.tm a b * F.tm a b) ≤ 2 * bt F p a b) (h4 : 2 * bt F p a b ≤ F.N a * F.N b - F.tm a b * F.tm a b) :
    (F.N a * F.N b - F.tm a b * F.tm a b) * (4 * F.N p - F.N a - F.N b) ≤ 4 * (F.gr a b p).D := by
  have e : F.N a * (F.gr a b p).D = (F.N a * F.N b - F.tm a b * F.tm a b) * (F.N a * F.N p - F.tm a p * F.tm a p) - bt F p a b * bt F p a b := by
    unfold Fm.gr Fm.D dt bt
    dsimp only
    grind
  have hBB : F.N a * F.N b - F.tm a b * F.tm a b ≤ F.N a * F.N b := by
    have := sq_nonneg (F.tm a b)
    omega
  generalize F.N a * F.N b - F.tm a b * F.tm a b = B at *
  generalize bt F p a b = t at *
  generalize (F.gr a b p).D = D at *
  generalize F.tm a p = u at *
  generalize F.N a = A at *
  generalize F.N b = C at *
  generalize F.N p = N at *
  have sq : ∀ {v W : Int}, -W ≤ 2 * v → 2 * v ≤ W → 4 * (v * v) ≤ W * W := by
    intro v W q1 q2
    have := Int.mul_nonneg (a := W - 2 * v) (b := W + 2 * v) (by omega) (by omega)
    have e : (W - 2 * v) * (W + 2 * v) = W * W - 4 * (v * v) := by grind
    omega
  have s1 := sq h1 h2
  have s2 := sq h3 h4
  have k1 : B * (4 * (u * u)) ≤ B * (A * A) := Int.mul_le_mul_of_nonneg_left s1 (by omega)
  have k2 : B * B ≤ B * (A * C) := Int.mul_le_mul_of_nonneg_left hBB (by omega)
  have goal' : A * (B * (4 * N - A - C)) ≤ A * (4 * D) := by
    have e1 : A * (B * (4 * N - A - C)) = 4 * (B * (A * N)) - B * (A * A) - B * (A * C) := by grind
    have e2 : A * (4 * D) = 4 * (B * (A * N)) - B * (4 * (u * u)) - 4 * (t * t) := by
      have : A * (4 * D) = 4 * (A * D) := by grind
      rw [this, e]
      grind
    omega
  exact Int.le_of_mul_le_mul_left goal' ha
theorem red_sb {F : Fm} {a b x : T3} (ha : 0 < F.N a) (hab : F.N a ≤ F.N b) (hB : 0 < F.N a * F.N b - F.tm a b * F.tm a b) (hc : F.N b ≤ F.N (sb F x a b)) :
    F.N a * F.N b - F.tm a b * F.tm a b ≤ 2 * (F.gr a b (sb F x a b)).D := by
  have d1 : (F.gr a b (sb1 F x a b)).D = (F.gr a b x).D := gD_ls F x a b _ _
  have d2 : (F.gr a b (sb2 F x a b)).D = (F.gr a b x).D := gD_ls F x a b _ _
  have t1 : bt F (sb1 F x a b) a b = bt F x a b - bel F x a b * (F.N a * F.N b - F.tm a b * F.tm a b) := bt_ls F x a b _ _
  have t2 : bt F (sb2 F x a b) a b = bt F x a b - (bel F x a b + 1) * (F.N a * F.N b - F.tm a b * F.tm a b) := bt_ls F x a b _ _
  have dd : (F.gr a b (sb F x a b)).D = (F.gr a b x).D := by
    unfold sb
    split
    · exact d1
    · exact d2
  have n1 : F.N (sb F x a b) ≤ F.N (sb1 F x a b) := by
    unfold sb
    split
    · exact Int.le_refl _
    · omega
  have n2 : F.N (sb F x a b) ≤ F.N (sb2 F x a b) := by
    unfold sb
    split
    · assumption
    · exact Int.le_refl _
  have f1 := Int.mul_ediv_add_emod (bt F x a b) (F.N a * F.N b - F.tm a b * F.tm a b)
  have f2 := Int.emod_nonneg (bt F x a b) (b := F.N a * F.N b - F.tm a b * F.tm a b) (by omega)
  have f3 := Int.emod_lt_of_pos (bt F x a b) hB
  have hb : bel F x a b = bt F x a b / (F.N a * F.N b - F.tm a b * F.tm a b) := rfl
  rw [← hb] at f1
  have fin : ∀ p : T3, F.N (sb F x a b) ≤ F.N p → (F.gr a b p).D = (F.gr a b x).D → (F.N a * F.N b - F.tm a b * F.tm a b) * (4 * F.N p - F.N a - F.N b) ≤ 4 * (F.gr a b p).D → F.N a * F.N b - F.tm a b * F.tm a b ≤ 2 * (F.gr a b (sb F x a b)).D := by
    intro p q1 q2 q3
    rw [dd]
    rw [q2] at q3
    have : (F.N a * F.N b - F.tm a b * F.tm a b) * 2 ≤ (F.N a * F.N b - F.tm a b * F.tm a b) * (4 * F.N p - F.N a - F.N b) := Int.mul_le_mul_of_nonneg_left (by omega) (by omega)
    omega
  by_cases hh : 2 * (bt F x a b % (F.N a * F.N b - F.tm a b * F.tm a b)) ≤ F.N a * F.N b - F.tm a b * F.tm a b
  · refine fin _ n1 d1 (red1 ha hB (sh_half ha).1 (sh_half ha).2 ?_ ?_)
    · show _ ≤ 2 * bt F (sb1 F x a b) a b
      rw [t1]
      generalize F.N a * F.N b - F.tm a b * F.tm a b = B at *
      rw [Int.mul_comm (bel F x a b)]
      omega
    · show 2 * bt F (sb1 F x a b) a b ≤ _
      rw [t1]
      generalize F.N a * F.N b - F.tm a b * F.tm a b = B at *
      rw [Int.mul_comm (bel F x a b)]
      omega
  · refine fin _ n2 d2 (red1 ha hB (sh_half ha).1 (sh_half ha).2 ?_ ?_)
    · show _ ≤ 2 * bt F (sb2 F x a b) a b
      rw [t2]
      generalize F.N a * F.N b - F.tm a b * F.tm a b = B at *
      rw [Int.add_mul, Int.mul_comm (bel F x a b)]
      omega
    · show 2 * bt F (sb2 F x a b) a b ≤ _
      rw [t2]
      generalize F.N a * F.N b - F.tm a b * F.tm a b = B at *
      rw [Int.add_mul, Int.mul_comm (bel F x a b)]
      omega
/-- not longer than by the two others -/
theorem sb_le {F : Fm} (P : F.Pos) {a b x : T3} (ho : One a b x) : F.N (sb F x a b) ≤ F.N x + F.N a + F.N b := by
  have G := gr_pos P ho
  have ha : 0 < F.N a := ps_a G
  have hbb : 0 < F.N b := ps_b G
  have hB : 0 < F.N a * F.N b - F.tm a b * F.tm a b := ps_cc G
  have hDx : (F.gr a b x).D ≤ (F.N a * F.N b - F.tm a b * F.tm a b) * F.N x := by
    have h := bd_z G 0 0 1
    have e1 : nf (F.gr a b x).a (F.gr a b x).b (F.gr a b x).c (F.gr a b x).d (F.gr a b x).e (F.gr a b x).f 0 0 1 = F.N x := by
      unfold nf Fm.gr
      simp
    rw [e1] at h
    have e2 : (F.gr a b x).D * (1 * 1) = (F.gr a b x).D := by simp
    have h' : (F.gr a b x).D * (1 * 1) ≤ (F.N a * F.N b - F.tm a b * F.tm a b) * F.N x := h
    omega
  have key : ∀ p : T3, (F.gr a b p).D = (F.gr a b x).D → -F.N a ≤ 2 * F.tm a p → 2 * F.tm a p ≤ F.N a → -(F.N a * F.N b - F.tm a b * F.tm a b) ≤ 2 * bt F p a b → 2 * bt F p a b ≤ F.N a * F.N b - F.tm a b * F.tm a b → F.N p ≤ F.N x + F.N a + F.N b := by
    intro p hd h1 h2 h3 h4
    have e : F.N a * (F.gr a b p).D = (F.N a * F.N b - F.tm a b * F.tm a b) * (F.N a * F.N p - F.tm a p * F.tm a p) - bt F p a b * bt F p a b := by
      unfold Fm.gr Fm.D dt bt
      dsimp only
      grind
    rw [hd] at e
    have hBB : F.N a * F.N b - F.tm a b * F.tm a b ≤ F.N a * F.N b := by
      have := sq_nonneg (F.tm a b)
      omega
    generalize F.N a * F.N b - F.tm a b * F.tm a b = B at *
    generalize bt F p a b = t at *
    generalize (F.gr a b x).D = D at *
    generalize F.tm a p = u at *
    generalize F.N a = A at *
    generalize F.N b = C at *
    generalize F.N p = N at *
    generalize F.N x = M at *
    have sq : ∀ {v W : Int}, -W ≤ 2 * v → 2 * v ≤ W → 4 * (v * v) ≤ W * W := by
      intro v W q1 q2
      have := Int.mul_nonneg (a := W - 2 * v) (b := W + 2 * v) (by omega) (by omega)
      have e : (W - 2 * v) * (W + 2 * v) = W * W - 4 * (v * v) := by grind
      omega
    have s1 := sq h1 h2
    have s2 := sq h3 h4
    have k1 : B * (4 * (u * u)) ≤ B * (A * A) := Int.mul_le_mul_of_nonneg_left s1 (by omega)
    have k2 : B * B ≤ B * (A * C) := Int.mul_le_mul_of_nonneg_left hBB (by omega)
    have k3 : A * D ≤ A * (B * M) := Int.mul_le_mul_of_nonneg_left hDx (by omega)
    have goal' : (A * B) * (4 * N) ≤ (A * B) * (4 * M + A + C) := by
      have e1 : (A * B) * (4 * N) = 4 * (A * D) + B * (4 * (u * u)) + 4 * (t * t) := by
        have : 4 * (A * D) = 4 * (B * (A * N - u * u) - t * t) := by rw [e]
        grind
      have e2 : (A * B) * (4 * M + A + C) = 4 * (A * (B * M)) + B * (A * A) + B * (A * C) := by grind
      omega
    have := Int.le_of_mul_le_mul_left goal' (Int.mul_pos ha hB)
    omega
  have d1 : (F.gr a b (sb1 F x a b)).D = (F.gr a b x).D := gD_ls F x a b _ _
  have d2 : (F.gr a b (sb2 F x a b)).D = (F.gr a b x).D := gD_ls F x a b _ _
  have t1 : bt F (sb1 F x a b) a b = bt F x a b - bel F x a b * (F.N a * F.N b - F.tm a b * F.tm a b) := bt_ls F x a b _ _
  have t2 : bt F (sb2 F x a b) a b = bt F x a b - (bel F x a b + 1) * (F.N a * F.N b - F.tm a b * F.tm a b) := bt_ls F x a b _ _
  have n1 : F.N (sb F x a b) ≤ F.N (sb1 F x a b) := by
    unfold sb
    split
    · exact Int.le_refl _
    · omega
  have n2 : F.N (sb F x a b) ≤ F.N (sb2 F x a b) := by
    unfold sb
    split
    · assumption
    · exact Int.le_refl _
  have f1 := Int.mul_ediv_add_emod (bt F x a b) (F.N a * F.N b - F.tm a b * F.tm a b)
  have f2 := Int.emod_nonneg (bt F x a b) (b := F.N a * F.N b - F.tm a b * F.tm a b) (by omega)
  have f3 := Int.emod_lt_of_pos (bt F x a b) hB
  have hb : bel F x a b = bt F x a b / (F.N a * F.N b - F.tm a b * F.tm a b) := rfl
  rw [← hb] at f1
  by_cases hh : 2 * (bt F x a b % (F.N a * F.N b - F.tm a b * F.tm a b)) ≤ F.N a * F.N b - F.tm a b * F.tm a b
  · refine Int.le_trans n1 (key _ d1 (sh_half ha).1 (sh_half ha).2 ?_ ?_)
    · rw [t1]
      generalize F.N a * F.N b - F.tm a b * F.tm a b = B at *
      rw [Int.mul_comm (bel F x a b)]
      omega
    · rw [t1]
      generalize F.N a * F.N b - F.tm a b * F.tm a b = B at *
      rw [Int.mul_comm (bel F x a b)]
      omega
  · refine Int.le_trans n2 (key _ d2 (sh_half ha).1 (sh_half ha).2 ?_ ?_)
    · rw [t2]
      generalize F.N a * F.N b - F.tm a b * F.tm a b = B at *
      rw [Int.add_mul, Int.mul_comm (bel F x a b)]
      omega
    · rw [t2]
      generalize F.N a * F.N b - F.tm a b * F.tm a b = B at *
      rw [Int.add_mul, Int.mul_comm (bel F x a b)]
      omega
/-- the plane is a form -/
theorem plane {F : Fm} (P : F.Pos) {a b c : T3} (h : One a b c) : 0 < F.N a * F.N b - F.tm a b * F.tm a b := ps_cc (gr_pos P h)
/-- the first two lie far apart -/
theorem flat {F : Fm} {a b : T3} (ha : 0 < F.N a) (hab : F.N a ≤ F.N b) (h1 : -F.N a ≤ 2 * F.tm a b) (h2 : 2 * F.tm a b ≤ F.N a) : F.N a ≤ 2 * (F.N a * F.N b - F.tm a b * F.tm a b) := by
  generalize F.N a = A at *
  generalize F.N b = C at *
  generalize F.tm a b = u at *
  have s : 4 * (u * u) ≤ A * A := by
    have := Int.mul_nonneg (a := A - 2 * u) (b := A + 2 * u) (by omega) (by omega)
    have e : (A - 2 * u) * (A + 2 * u) = A * A - 4 * (u * u) := by grind
    omega
  have k1 : A * A ≤ A * C := Int.mul_le_mul_of_nonneg_left hab (by omega)
  have k2 : A * 1 ≤ A * C := Int.mul_le_mul_of_nonneg_left (by omega) (by omega)
  omega
/-- a short basis -/
structure Shrt (F : Fm) (a b c : T3) : Prop where
  one : One a b c
  ba : F.N a ≤ 2 * (F.N a * F.N b - F.tm a b * F.tm a b)
  cb : F.N a * F.N b - F.tm a b * F.tm a b ≤ 2 * (F.gr a b c).D
end Ln

set_option Elab.async false
namespace Ln
open Cy
/-! ### whole numbers at which a square form is at most 0 -/
def gq (p q r n : Int) : Int := p * n * n + 2 * q * n + r
structure Fits (p q r : Int) (L : List Int) : Prop where
  nd : L.Nodup
  mem : ∀ n, n ∈ L ↔ gq p q r n ≤ 0
def wkL (st sp : Int) (m : Nat) : List Int := (List.range m).map fun (i : Nat) => st + i * sp
structure Wk (p q r st sp : Int) (m : Nat) : Prop where
  fit : ∀ i : Nat, i < m → gq p q r (st + i * sp) ≤ 0
  out : 0 < gq p q r (st + m * sp)
theorem gq_diff (p q r n k : Int) : gq p q r n - gq p q r k = (n - k) * ((p * n + q) + (p * k + q)) := by
  unfold gq
  grind
theorem gq_up {p q r n k : Int} (hp : 0 < p) (hk : 0 ≤ p * k + q) (h : k ≤ n) : gq p q r k ≤ gq p q r n := by
  have e := gq_diff p q r n k
  have h1 : p * k ≤ p * n := Int.mul_le_mul_of_nonneg_left h (by omega)
  have := Int.mul_nonneg (a := n - k) (b := (p * n + q) + (p * k + q)) (by omega) (by omega)
  omega
theorem gq_down {p q r n k : Int} (hp : 0 < p) (hk : p * k + q ≤ 0) (h : n ≤ k) : gq p q r k ≤ gq p q r n := by
  have e := gq_diff p q r n k
  have h1 : p * n ≤ p * k := Int.mul_le_mul_of_nonneg_left h (by omega)
  have := Int.mul_nonneg_of_nonpos_of_nonpos (a := n - k) (b := (p * n + q) + (p * k + q)) (by omega) (by omega)
  omega
theorem mid_lo {p q : Int} (hp : 0 < p) : p * (-q / p) + q ≤ 0 := by
  have h1 := Int.mul_ediv_add_emod (-q) p
  have h2 := Int.emod_nonneg (-q) (b := p) (by omega)
  omega
theorem mid_hi {p q : Int} (hp : 0 < p) : 0 < p * (-q / p + 1) + q := by
  have h1 := Int.mul_ediv_add_emod (-q) p
  have h3 := Int.emod_lt_of_pos (-q) hp
  have e : p * (-q / p + 1) = p * (-q / p) + p := by grind
  omega
theorem mem_wk {st sp n : Int} {m : Nat} : n ∈ wkL st sp m ↔ ∃ i : Nat, i < m ∧ st + i * sp = n := by
  unfold wkL
  simp
theorem len_wk (st sp : Int) (m : Nat) : (wkL st sp m).length = m := by
  unfold wkL
  simp
theorem fits_of {p q r : Int} {m1 m2 : Nat} (hp : 0 < p) (h1 : Wk p q r (-q / p) (-1) m1) (h2 : Wk p q r (-q / p + 1) 1 m2) : Fits p q r (wkL (-q / p) (-1) m1 ++ wkL (-q / p + 1) 1 m2) := by
  refine ⟨List.nodup_append.mpr ⟨?_, ?_, ?_⟩, fun n => ?_⟩
  · exact nodup_map_of List.nodup_range fun x _ y _ e => by omega
  · exact nodup_map_of List.nodup_range fun x _ y _ e => by omega
  · intro x hx y hy e
    obtain ⟨i, _, hi⟩ := mem_wk.mp hx
    obtain ⟨j, _, hj⟩ := mem_wk.mp hy
    omega
  · rw [List.mem_append]
    constructor
    · rintro (h | h)
      · obtain ⟨i, hi, rfl⟩ := mem_wk.mp h
        exact h1.fit i hi
      · obtain ⟨i, hi, rfl⟩ := mem_wk.mp h
        exact h2.fit i hi
    · intro h
      by_cases hn : n ≤ -q / p
      · refine .inl (mem_wk.mpr ⟨(-q / p - n).toNat, ?_, by omega⟩)
        refine Nat.lt_of_not_le fun hm => ?_
        have ho := h1.out
        have k1 : p * (-q / p + (m1 : Int) * -1) ≤ p * (-q / p) := Int.mul_le_mul_of_nonneg_left (by omega) (by omega)
        have := gq_down (p := p) (q := q) (r := r) (n := n) (k := -q / p + (m1 : Int) * -1) hp (by have := mid_lo (p := p) (q := q) hp; omega) (by omega)
        omega
      · refine .inr (mem_wk.mpr ⟨(n - (-q / p + 1)).toNat, ?_, by omega⟩)
        refine Nat.lt_of_not_le fun hm => ?_
        have ho := h2.out
        have k1 : p * (-q / p + 1) ≤ p * (-q / p + 1 + (m2 : Int) * 1) := Int.mul_le_mul_of_nonneg_left (by omega) (by omega)
        have := gq_up (p := p) (q := q) (r := r) (n := n) (k := -q / p + 1 + (m2 : Int) * 1) hp (by have := mid_hi (p := p) (q := q) hp; omega) (by omega)
        omega
theorem least {P : Nat → Prop} [DecidablePred P] : ∀ {n : Nat}, P n → ∃ m, m ≤ n ∧ (∀ i, i < m → ¬ P i) ∧ P m
  | 0, h => ⟨0, Nat.le_refl _, fun i hi => absurd hi (Nat.not_lt_zero _), h⟩
  | n + 1, h => by
    by_cases q : P 0
    · exact ⟨0, Nat.zero_le _, fun i hi => absurd hi (Nat.not_lt_zero _), q⟩
    · obtain ⟨m, h1, h2, h3⟩ := least (P := fun i => P (i + 1)) (n := n) h
      refine ⟨m + 1, by omega, fun i hi => ?_, h3⟩
      cases i with
      | zero => exact q
      | succ i => exact h2 i (by omega)
theorem wk_of {p q r st sp : Int} {n : Nat} (h : 0 < gq p q r (st + n * sp)) : ∃ m, m ≤ n ∧ Wk p q r st sp m := by
  obtain ⟨m, h1, h2, h3⟩ := least (P := fun i : Nat => 0 < gq p q r (st + i * sp)) h
  exact ⟨m, h1, fun i hi => by have := h2 i hi; omega, h3⟩
theorem gq_sq (p q r n : Int) : p * gq p q r n = (p * n + q) * (p * n + q) - (q * q - p * r) := by
  unfold gq
  grind
/-- the width -/
def WID : Int := 131072
theorem far {p q r n : Int} (hp : 0 < p) (hw : q * q - p * r ≤ p * p * (WID * WID)) (h : p * WID < p * n + q ∨ p * n + q < -(p * WID)) : 0 < gq p q r n := by
  refine pos_of_mul hp ?_
  rw [gq_sq]
  have e : p * p * (WID * WID) = (p * WID) * (p * WID) := by grind
  rw [e] at hw
  have hpW : 0 < p * WID := Int.mul_pos hp (by decide)
  generalize p * WID = u at *
  generalize p * n + q = v at *
  have : u * u < v * v := by
    rcases h with h | h
    · exact Int.lt_of_lt_of_le (Int.mul_lt_mul_of_pos_left h (by omega)) (Int.mul_le_mul_of_nonneg_right (by omega) (by omega))
    · have h' : u < -v := by omega
      have := Int.lt_of_lt_of_le (Int.mul_lt_mul_of_pos_left h' (show 0 < u by omega)) (Int.mul_le_mul_of_nonneg_right (show u ≤ -v by omega) (show 0 ≤ -v by omega))
      rwa [Int.neg_mul_neg] at this
  omega
theorem wk_down {p q r : Int} (hp : 0 < p) (hw : q * q - p * r ≤ p * p * (WID * WID)) : ∃ m, m ≤ 131073 ∧ Wk p q r (-q / p) (-1) m := by
  refine wk_of (far hp hw (.inr ?_))
  have := mid_lo (p := p) (q := q) hp
  have e : p * (-q / p + ((131073 : Nat) : Int) * -1) = p * (-q / p) - p * WID - p := by
    unfold WID
    grind
  omega
theorem wk_up {p q r : Int} (hp : 0 < p) (hw : q * q - p * r ≤ p * p * (WID * WID)) : ∃ m, m ≤ 131073 ∧ Wk p q r (-q / p + 1) 1 m := by
  refine wk_of (far hp hw (.inl ?_))
  have := mid_hi (p := p) (q := q) hp
  have e : p * (-q / p + 1 + ((131073 : Nat) : Int) * 1) = p * (-q / p + 1) + p * WID + p := by
    unfold WID
    grind
  omega
/-! ### a short form: where to look -/
/-- what the program's walks lean on -/
structure Sf (F : Fm) : Prop where
  pos : F.Pos
  ba : F.a ≤ 2 * F.adj.c
  cb : F.adj.c ≤ 2 * F.D
namespace Sf
variable {F : Fm} (S : Sf F)
include S
theorem a0 : 0 < F.a := ps_a S.pos
theorem c0 : 0 < F.adj.c := ps_cc S.pos
theorem d0 : 0 < F.D := ps_dt S.pos
end Sf
/-- the two others' part -/
def Fm.Q2 (F : Fm) (y z : Int) : Int := F.adj.c * (y * y) + F.adj.b * (z * z) - 2 * (F.adj.d * z * y)
theorem N_line (F : Fm) (x y z : Int) : F.a * x * x + 2 * (F.f * y + F.e * z) * x + (F.b * y * y + 2 * F.d * y * z + F.c * z * z) = F.N (x, y, z) := by
  unfold Fm.N nf
  dsimp only
  grind
theorem aN (F : Fm) (x y z : Int) : F.a * F.N (x, y, z) = (F.a * x + F.f * y + F.e * z) * (F.a * x + F.f * y + F.e * z) + F.Q2 y z := by
  unfold Fm.N nf Fm.Q2 Fm.adj
  dsimp only
  grind
theorem cQ (F : Fm) (y z : Int) : F.adj.c * F.Q2 y z = (F.adj.c * y - F.adj.d * z) * (F.adj.c * y - F.adj.d * z) + F.a * F.D * (z * z) := by
  unfold Fm.Q2 Fm.adj Fm.D dt
  dsimp only
  grind
theorem Q2_nn {F : Fm} (S : Sf F) (y z : Int) : 0 ≤ F.Q2 y z := by
  refine nonneg_of_mul S.c0 ?_
  rw [cQ]
  have h1 := sq_nonneg (F.adj.c * y - F.adj.d * z)
  have h2 := Int.mul_nonneg (Int.le_of_lt (Int.mul_pos S.a0 S.d0)) (sq_nonneg z)
  omega
theorem in_x {F : Fm} {b x y z : Int} : gq F.a (F.f * y + F.e * z) (F.b * y * y + 2 * F.d * y * z + F.c * z * z - b) x ≤ 0 ↔ F.N (x, y, z) ≤ b := by
  have e : gq F.a (F.f * y + F.e * z) (F.b * y * y + 2 * F.d * y * z + F.c * z * z - b) x = F.N (x, y, z) - b := by
    rw [← N_line]
    unfold gq
    grind
  omega
theorem in_y {F : Fm} (S : Sf F) {b x y z : Int} (h : F.N (x, y, z) ≤ b) : gq F.adj.c (-F.adj.d * z) (F.adj.b * z * z - F.a * b) y ≤ 0 := by
  have e : gq F.adj.c (-F.adj.d * z) (F.adj.b * z * z - F.a * b) y = F.Q2 y z - F.a * b := by
    unfold gq Fm.Q2
    grind
  have h1 := aN F x y z
  have h2 := sq_nonneg (F.a * x + F.f * y + F.e * z)
  have h3 : F.a * F.N (x, y, z) ≤ F.a * b := Int.mul_le_mul_of_nonneg_left h (Int.le_of_lt S.a0)
  omega
theorem in_z {F : Fm} (S : Sf F) {b x y z : Int} (h : F.N (x, y, z) ≤ b) : gq F.D 0 (-b * F.adj.c) z ≤ 0 := by
  have e : gq F.D 0 (-b * F.adj.c) z = F.D * (z * z) - F.adj.c * b := by
    unfold gq
    grind
  have h1 : F.D * (z * z) ≤ F.adj.c * F.N (x, y, z) := bd_z S.pos x y z
  have h3 : F.adj.c * F.N (x, y, z) ≤ F.adj.c * b := Int.mul_le_mul_of_nonneg_left h (Int.le_of_lt S.c0)
  omega
theorem wid_z {F : Fm} (S : Sf F) {b : Int} (h0 : 0 ≤ b) (hb : b ≤ 4294967295) : 0 * 0 - F.D * (-b * F.adj.c) ≤ F.D * F.D * (WID * WID) := by
  have e : 0 * 0 - F.D * (-b * F.adj.c) = F.D * (b * F.adj.c) := by grind
  rw [e, Int.mul_assoc]
  refine Int.mul_le_mul_of_nonneg_left ?_ (Int.le_of_lt S.d0)
  have h1 : b * F.adj.c ≤ b * (2 * F.D) := Int.mul_le_mul_of_nonneg_left S.cb h0
  have h2 : F.D * (2 * b) ≤ F.D * (WID * WID) := Int.mul_le_mul_of_nonneg_left (by unfold WID; omega) (Int.le_of_lt S.d0)
  have e2 : b * (2 * F.D) = F.D * (2 * b) := by grind
  omega
theorem wid_y {F : Fm} (S : Sf F) {b z : Int} (h0 : 0 ≤ b) (hb : b ≤ 4294967295) : (-F.adj.d * z) * (-F.adj.d * z) - F.adj.c * (F.adj.b * z * z - F.a * b) ≤ F.adj.c * F.adj.c * (WID * WID) := by
  have e : (-F.adj.d * z) * (-F.adj.d * z) - F.adj.c * (F.adj.b * z * z - F.a * b) = F.adj.c * (F.a * b) - F.a * F.D * (z * z) := by
    have := cQ F 0 z
    have q : F.Q2 0 z = F.adj.b * (z * z) := by
      unfold Fm.Q2
      grind
    rw [q] at this
    grind
  have h3 := Int.mul_nonneg (Int.le_of_lt (Int.mul_pos S.a0 S.d0)) (sq_nonneg z)
  have h4 : F.adj.c * (F.a * b) ≤ F.adj.c * (F.adj.c * (WID * WID)) := by
    refine Int.mul_le_mul_of_nonneg_left ?_ (Int.le_of_lt S.c0)
    have h1 : F.a * b ≤ 2 * F.adj.c * b := Int.mul_le_mul_of_nonneg_right S.ba h0
    have h2 : F.adj.c * (2 * b) ≤ F.adj.c * (WID * WID) := Int.mul_le_mul_of_nonneg_left (by unfold WID; omega) (Int.le_of_lt S.c0)
    have e2 : 2 * F.adj.c * b = F.adj.c * (2 * b) := by grind
    omega
  rw [e, Int.mul_assoc F.adj.c F.adj.c]
  omega
theorem wid_x {F : Fm} (S : Sf F) {b y z : Int} (h0 : 0 ≤ b) (hb : b ≤ 4294967295) : (F.f * y + F.e * z) * (F.f * y + F.e * z) - F.a * (F.b * y * y + 2 * F.d * y * z + F.c * z * z - b) ≤ F.a * F.a * (WID * WID) := by
  have e : (F.f * y + F.e * z) * (F.f * y + F.e * z) - F.a * (F.b * y * y + 2 * F.d * y * z + F.c * z * z - b) = F.a * b - F.Q2 y z := by
    unfold Fm.Q2 Fm.adj
    dsimp only
    grind
  have h3 := Q2_nn S y z
  have ha := S.a0
  have h4 : F.a * b ≤ F.a * (F.a * (WID * WID)) := by
    refine Int.mul_le_mul_of_nonneg_left ?_ (Int.le_of_lt ha)
    have : 1 * (WID * WID) ≤ F.a * (WID * WID) := Int.mul_le_mul_of_nonneg_right ha (by decide)
    have e : (1 : Int) * (WID * WID) = 17179869184 := by decide
    omega
  rw [e, Int.mul_assoc]
  omega
/-! ### the triples -/
structure Tri (F : Fm) (b : Int) (T : List T3) (S : Int → Int → Prop) : Prop where
  nd : T.Nodup
  mem : ∀ x y z, (x, y, z) ∈ T ↔ F.N (x, y, z) ≤ b ∧ S y z
theorem Tri.imp {F : Fm} {b : Int} {T : List T3} {S S' : Int → Int → Prop} (h : Tri F b T S) (k : ∀ x y z, F.N (x, y, z) ≤ b → (S y z ↔ S' y z)) : Tri F b T S' :=
  ⟨h.nd, fun x y z => (h.mem x y z).trans ⟨fun q => ⟨q.1, (k x y z q.1).mp q.2⟩, fun q => ⟨q.1, (k x y z q.1).mpr q.2⟩⟩⟩
theorem Tri.nil {F : Fm} {b : Int} : Tri F b [] (fun _ _ => False) := ⟨List.nodup_nil, fun x y z => by simp⟩
theorem Tri.step {F : Fm} {b y0 z0 : Int} {T : List T3} {S : Int → Int → Prop} {xs : List Int} (h : Tri F b T S) (hn : ¬ S y0 z0) (hx : Fits F.a (F.f * y0 + F.e * z0) (F.b * y0 * y0 + 2 * F.d * y0 * z0 + F.c * z0 * z0 - b) xs) :
    Tri F b (T ++ xs.map fun x => (x, y0, z0)) (fun y z => S y z ∨ (y = y0 ∧ z = z0)) := by
  refine ⟨List.nodup_append.mpr ⟨h.nd, nodup_map_of hx.nd fun x _ y _ e => congrArg Prod.fst e, ?_⟩, fun x y z => ?_⟩
  · rintro ⟨x, y, z⟩ h1 t h2 e
    obtain ⟨x', _, rfl⟩ := List.mem_map.mp h2
    injection e with e1 e2
    injection e2 with e2 e3
    subst e1 e2 e3
    exact hn ((h.mem _ _ _).mp h1).2
  · rw [List.mem_append, List.mem_map, h.mem]
    constructor
    · rintro (q | ⟨x', hx', e⟩)
      · exact ⟨q.1, .inl q.2⟩
      · injection e with e1 e2
        injection e2 with e2 e3
        subst e1 e2 e3
        exact ⟨in_x.mp ((hx.mem _).mp hx'), .inr ⟨rfl, rfl⟩⟩
    · rintro ⟨q1, q2 | ⟨rfl, rfl⟩⟩
      · exact .inl ⟨q1, q2⟩
      · exact .inr ⟨x, (hx.mem x).mpr (in_x.mpr q1), rfl⟩
/-! ### what the specification tells of them -/
def col (t : T3) : Col := [t.1, t.2.1, t.2.2]
theorem col_inj {t u : T3} (h : col t = col u) : t = u := by
  obtain ⟨x, y, z⟩ := t
  obtain ⟨x', y', z'⟩ := u
  injection h with h1 h2
  injection h2 with h2 h3
  injection h3 with h3 _
  dsimp only at h1 h2 h3
  rw [h1, h2, h3]
def ofMat (m : Mat) : Fm := ⟨entry m 0 0, entry m 1 1, entry m 2 2, entry m 1 2, entry m 0 2, entry m 0 1⟩
theorem norm_col {m : Mat} (P : Pd m) (t : T3) : norm m (col t) = (ofMat m).N t := by
  rw [norm_nf P.sym]
  rfl
section
variable {m : Mat} (P : Pd m) {a b c : T3} (h1 : One a b c) {bd : Nat} {T : List T3}
include P h1
theorem N0 {t : T3} (h : ¬ t = (0, 0, 0)) : 0 < ((ofMat m).gr a b c).N t := by
  have G : ((ofMat m).gr a b c).Pos := gr_pos (F := ofMat m) P.ps h1
  exact G t.1 t.2.1 t.2.2 fun q => h (Prod.ext q.1 (Prod.ext q.2.1 q.2.2))
theorem sub_all (hb : ∀ t, t ∈ T → ((ofMat m).gr a b c).N t ≤ bd) : ∀ l, l ∈ ((T.filter fun t => decide (t ≠ (0, 0, 0))).map fun t => norm m (col (cm a b c t)) :: col (cm a b c t)) → l ∈ shortAll m bd := by
  intro l hl
  obtain ⟨t, ht, rfl⟩ := List.mem_map.mp hl
  obtain ⟨ht, h0⟩ := List.mem_filter.mp ht
  rw [decide_eq_true_eq] at h0
  refine (mem_all P bd _).mpr ⟨_, ⟨⟨_, _, _, rfl, fun q => h0 ?_⟩, ?_⟩, rfl⟩
  · refine cm_inj h1 ?_
    have e0 : cm a b c (0, 0, 0) = (0, 0, 0) := by
      unfold cm
      simp
    rw [e0]
    exact Prod.ext q.1 (Prod.ext q.2.1 q.2.2)
  · show norm m (col (cm a b c t)) ≤ _
    rw [norm_col P, ← gr_N]
    exact hb t ht
omit P in
theorem nd_all (hT : T.Nodup) : ((T.filter fun t => decide (t ≠ (0, 0, 0))).map fun t => norm m (col (cm a b c t)) :: col (cm a b c t)).Nodup :=
  nodup_map_of (hT.filter _) fun _ _ _ _ e => cm_inj h1 (col_inj (List.cons.inj e).2)
omit P h1 in
theorem len_but (hT : T.Nodup) : T.length ≤ (T.filter fun t => decide (t ≠ (0, 0, 0))).length + 1 := by
  have : T.length ≤ ((0, 0, 0) :: T.filter fun t => decide (t ≠ (0, 0, 0))).length := by
    refine len_le_of_sub hT (List.nodup_cons.mpr ⟨fun q => ?_, hT.filter _⟩) fun x hx => ?_
    · have := (List.mem_filter.mp q).2
      simp at this
    · by_cases e : x = (0, 0, 0)
      · rw [e]
        exact List.mem_cons_self ..
      · exact List.mem_cons_of_mem _ (List.mem_filter.mpr ⟨hx, by simpa using e⟩)
  simpa using this
/-- so many at least -/
theorem all_more (hT : T.Nodup) (hb : ∀ t, t ∈ T → ((ofMat m).gr a b c).N t ≤ bd) : T.length ≤ (shortAll m bd).length + 1 := by
  have h2 := len_le_of_sub (nd_all (m := m) h1 hT) (nodup_all bd) (sub_all P h1 hb)
  rw [List.length_map] at h2
  have := len_but hT
  omega
/-- just these -/
theorem all_these (hT : T.Nodup) (hb : ∀ t, t ∈ T ↔ ((ofMat m).gr a b c).N t ≤ bd) : (shortAll m bd).Perm ((T.filter fun t => decide (t ≠ (0, 0, 0))).map fun t => norm m (col (cm a b c t)) :: col (cm a b c t)) := by
  refine (List.perm_ext_iff_of_nodup (nodup_all bd) (nd_all (m := m) h1 hT)).mpr fun l => ⟨fun hl => ?_, sub_all P h1 (fun t ht => (hb t).mp ht) l⟩
  obtain ⟨h, ⟨⟨x, y, z, rfl, h0⟩, hn⟩, rfl⟩ := (mem_all P bd l).mp hl
  obtain ⟨t, ht⟩ := cm_sur h1 (x, y, z)
  have e : col (cm a b c t) = [x, y, z] := by
    rw [ht]
    rfl
  refine List.mem_map.mpr ⟨t, List.mem_filter.mpr ⟨(hb t).mpr ?_, ?_⟩, by rw [e]⟩
  · rw [gr_N, ← norm_col P, e]
    exact hn
  · rw [decide_eq_true_eq]
    rintro rfl
    have e0 : cm a b c (0, 0, 0) = (0, 0, 0) := by
      unfold cm
      simp
    rw [e0] at ht
    injection ht with q1 q2
    injection q2 with q2 q3
    exact h0 ⟨q1.symm, q2.symm, q3.symm⟩
theorem len_these (hT : T.Nodup) (hb : ∀ t, t ∈ T ↔ ((ofMat m).gr a b c).N t ≤ bd) : T.length = (shortAll m bd).length + 1 := by
  have p := (all_these P h1 hT hb).length_eq
  rw [List.length_map] at p
  have q : T.Perm ((0, 0, 0) :: T.filter fun t => decide (t ≠ (0, 0, 0))) := by
    refine (List.perm_ext_iff_of_nodup hT (List.nodup_cons.mpr ⟨fun q => ?_, hT.filter _⟩)).mpr fun x => ?_
    · have := (List.mem_filter.mp q).2
      simp at this
    · rw [List.mem_cons, List.mem_filter, decide_eq_true_eq]
      constructor
      · intro hx
        by_cases e : x = (0, 0, 0)
        · exact .inl e
        · exact .inr ⟨hx, e⟩
      · rintro (rfl | hx)
        · refine (hb _).mpr ?_
          have : ((ofMat m).gr a b c).N (0, 0, 0) = 0 := by
            unfold Fm.N nf
            simp
          rw [this]
          exact Int.natCast_nonneg _
        · exact hx.1
  rw [q.length_eq, List.length_cons, p]
end
end Ln

set_option Elab.async false
namespace Ln
open Cy
/-! ### counted one after another -/
def up : List (Int × Int) → Int → List (Int × Int)
  | [], x => [(x, 1)]
  | (k, n) :: r, x => if k = x then (k, n + 1) :: r else (k, n) :: up r x
theorem cnt_mem : ∀ {l : List Int} {p : Int × Int}, p ∈ counted l → p.1 ∈ l
  | [], p, h => by cases h
  | a :: l, p, h => by
    unfold counted at h
    split at h
    · rename_i b n r e
      have ih := fun q => cnt_mem (l := l) (p := p) q
      rw [e] at ih
      split at h
      · rename_i eb
        rcases List.mem_cons.mp h with rfl | h
        · rw [← eb]
          exact List.mem_cons_self ..
        · exact List.mem_cons_of_mem _ (ih (List.mem_cons_of_mem _ h))
      · rcases List.mem_cons.mp h with rfl | h
        · exact List.mem_cons_self ..
        · exact List.mem_cons_of_mem _ (ih h)
    · rw [List.mem_singleton.mp h]
      exact List.mem_cons_self ..
theorem cnt_nil {l : List Int} (h : counted l = []) : l = [] := by
  cases l with
  | nil => rfl
  | cons a l =>
    unfold counted at h
    split at h
    · split at h <;> cases h
    · cases h
theorem cnt_snoc : ∀ {l : List Int} {x : Int}, (l ++ [x]).Pairwise (· ≤ ·) → counted (l ++ [x]) = up (counted l) x
  | [], x, _ => rfl
  | a :: l, x, h => by
    have h' : (l ++ [x]).Pairwise (· ≤ ·) := (List.pairwise_cons.mp h).2
    have ha := (List.pairwise_cons.mp h).1
    have ih := cnt_snoc h'
    show counted (a :: (l ++ [x])) = _
    cases e : counted l with
    | nil =>
      have := cnt_nil e
      subst this
      show (match counted [x] with
        | (b, n) :: r => if a = b then (b, n + 1) :: r else (a, 1) :: (b, n) :: r
        | [] => [(a, 1)]) = up [(a, 1)] x
      show (if a = x then [(x, (1 : Int) + 1)] else [(a, 1), (x, 1)]) = if a = x then [(a, (1 : Int) + 1)] else [(a, 1), (x, 1)]
      by_cases q : a = x
      · rw [if_pos q, if_pos q, q]
      · rw [if_neg q, if_neg q]
    | cons p r =>
      obtain ⟨b, n⟩ := p
      rw [e] at ih
      have hb : b ∈ l := cnt_mem (p := (b, n)) (by rw [e]; exact List.mem_cons_self ..)
      have hab : a ≤ b := ha b (List.mem_append_left _ hb)
      have hbx : b ≤ x := (List.pairwise_append.mp h').2.2 b hb x (List.mem_singleton.mpr rfl)
      have eL : counted (a :: l) = if a = b then (b, n + 1) :: r else (a, 1) :: (b, n) :: r := by
        show (match counted l with
          | (b, n) :: r => if a = b then (b, n + 1) :: r else (a, 1) :: (b, n) :: r
          | [] => [(a, 1)]) = _
        rw [e]
      rw [eL]
      show (match counted (l ++ [x]) with
        | (b, n) :: r => if a = b then (b, n + 1) :: r else (a, 1) :: (b, n) :: r
        | [] => [(a, 1)]) = _
      rw [ih]
      by_cases q : b = x
      · subst q
        rw [show up ((b, n) :: r) b = (b, n + 1) :: r from if_pos rfl]
        by_cases q2 : a = b
        · subst q2
          simp [up]
        · simp [up, q2]
      · rw [show up ((b, n) :: r) x = (b, n) :: up r x from if_neg q]
        by_cases q2 : a = b
        · subst q2
          simp [up, q]
        · have q3 : ¬ a = x := by omega
          simp [up, q, q2, q3]
/-- the keys rise -/
theorem cnt_rise : ∀ {l : List Int}, l.Pairwise (· ≤ ·) → (counted l).Pairwise (fun p q => p.1 < q.1)
  | [], _ => List.Pairwise.nil
  | a :: l, h => by
    have ih := cnt_rise (List.pairwise_cons.mp h).2
    have ha := (List.pairwise_cons.mp h).1
    have hm : ∀ p, p ∈ counted l → a ≤ p.1 := fun p hp => ha _ (cnt_mem hp)
    unfold counted
    split
    · rename_i b n r e
      rw [e] at ih hm
      have h1 := List.pairwise_cons.mp ih
      split
      · exact List.pairwise_cons.mpr ⟨h1.1, h1.2⟩
      · rename_i ne
        have hab := hm (b, n) (List.mem_cons_self ..)
        refine List.pairwise_cons.mpr ⟨fun p hp => ?_, ih⟩
        rcases List.mem_cons.mp hp with rfl | hp
        · show a < b
          have : a ≤ b := hab
          omega
        · have := h1.1 p hp
          have : a ≤ b := hab
          have q : b < p.1 := h1.1 p hp
          show a < p.1
          omega
    · exact List.pairwise_singleton ..
theorem cnt_len : ∀ l : List Int, (counted l).length ≤ l.length
  | [] => Nat.le_refl _
  | a :: l => by
    have ih := cnt_len l
    unfold counted
    split
    · rename_i b n r e
      rw [e] at ih
      split
      · simp at *
        omega
      · simp at *
        omega
    · simp
/-! ### what is answered -/
def told (l : List (Int × Int)) : List Int := (l.filter fun p => decide (0 < p.1)).flatMap fun p => [p.1, p.2]
/-- the sorted lengths, nothing's among them -/
theorem told_is {m : Mat} (P : Pd m) {a b c : T3} (h1 : One a b c) {bd : Nat} {T : List T3} (hT : T.Nodup) (hb : ∀ t, t ∈ T ↔ ((ofMat m).gr a b c).N t ≤ bd) {Z0 : List Int} (hs : Z0.Pairwise (· ≤ ·)) (hp : Z0.Perm (T.map fun t => ((ofMat m).gr a b c).N t)) :
    ∃ Z : List Int, Z.Pairwise (· ≤ ·) ∧ Z.Perm ((shortAll m bd).map fun x => x.headD 0) ∧ told (counted Z0) = (counted Z).flatMap fun x => [x.1, x.2] := by
  have hN : ∀ t, t ∈ T → t ≠ (0, 0, 0) → 0 < ((ofMat m).gr a b c).N t := fun t _ h => N0 P h1 h
  have h00 : ((ofMat m).gr a b c).N (0, 0, 0) = 0 := by
    unfold Fm.N nf
    simp
  have pT : T.Perm ((0, 0, 0) :: T.filter fun t => decide (t ≠ (0, 0, 0))) := by
    refine (List.perm_ext_iff_of_nodup hT (List.nodup_cons.mpr ⟨fun q => ?_, hT.filter _⟩)).mpr fun x => ?_
    · have := (List.mem_filter.mp q).2
      simp at this
    · rw [List.mem_cons, List.mem_filter, decide_eq_true_eq]
      constructor
      · intro hx
        by_cases e : x = (0, 0, 0)
        · exact .inl e
        · exact .inr ⟨hx, e⟩
      · rintro (rfl | hx)
        · refine (hb _).mpr ?_
          rw [h00]
          exact Int.natCast_nonneg _
        · exact hx.1
  have p2 := hp.trans (pT.map fun t => ((ofMat m).gr a b c).N t)
  rw [List.map_cons, h00] at p2
  have p3 : ((shortAll m bd).map fun x => x.headD 0).Perm ((T.filter fun t => decide (t ≠ (0, 0, 0))).map fun t => ((ofMat m).gr a b c).N t) := by
    refine ((all_these P h1 hT hb).map _).trans (List.Perm.of_eq ?_)
    rw [List.map_map]
    refine List.map_congr_left fun t _ => ?_
    show norm m (col (cm a b c t)) = _
    rw [gr_N, norm_col P]
  have pos : ∀ z, z ∈ (T.filter fun t => decide (t ≠ (0, 0, 0))).map (fun t => ((ofMat m).gr a b c).N t) → 0 < z := by
    intro z hz
    obtain ⟨t, ht, rfl⟩ := List.mem_map.mp hz
    obtain ⟨h2, h3⟩ := List.mem_filter.mp ht
    exact hN t h2 (by simpa using h3)
  cases Z0 with
  | nil => exact absurd p2.length_eq (by simp)
  | cons z Z =>
    have hz := List.pairwise_cons.mp hs
    have e0 : z = 0 := by
      have m1 : z ∈ (0 : Int) :: (T.filter fun t => decide (t ≠ (0, 0, 0))).map (fun t => ((ofMat m).gr a b c).N t) := p2.mem_iff.mp (List.mem_cons_self ..)
      have m2 : (0 : Int) ∈ z :: Z := p2.mem_iff.mpr (List.mem_cons_self ..)
      have h1 : z ≤ 0 := by
        rcases List.mem_cons.mp m2 with q | q
        · omega
        · exact hz.1 0 q
      rcases List.mem_cons.mp m1 with q | q
      · exact q
      · have := pos z q
        omega
    subst e0
    have p4 := List.Perm.cons_inv p2
    refine ⟨Z, hz.2, p4.trans p3.symm, ?_⟩
    have hZ : ∀ x, x ∈ Z → 0 < x := fun x hx => pos x (p4.mem_iff.mp hx)
    have hk : ∀ p, p ∈ counted Z → 0 < p.1 := fun p hp => hZ _ (cnt_mem hp)
    have ec : counted (0 :: Z) = (0, 1) :: counted Z := by
      show (match counted Z with
        | (b, n) :: r => if 0 = b then (b, n + 1) :: r else ((0 : Int), (1 : Int)) :: (b, n) :: r
        | [] => [(0, 1)]) = _
      cases e : counted Z with
      | nil => rfl
      | cons p r =>
        obtain ⟨k, n⟩ := p
        have : 0 < k := hk (k, n) (by rw [e]; exact List.mem_cons_self ..)
        show (if 0 = k then _ else _) = _
        rw [if_neg (by omega)]
    rw [ec]
    unfold told
    rw [List.filter_cons_of_neg (by simp), List.filter_eq_self.mpr fun p hp => by simpa using hk p hp]
/-- the lines, in the end -/
theorem lines_end {z : Int} {c : List Int} (h1 : CyG.okCell c = true) (h2 : rightMat (CyG.crystalIn c []).cell.mat = true) (hz : 0 ≤ z) {u v w : T3} (ho : One u v w) {T : List T3} (hT : T.Nodup)
    (hb : ∀ t, t ∈ T → ((ofMat (adj (CyG.crystalIn c []).cell.mat)).gr u v w).N t ≤ z) (hl : 4097 < T.length) : PyWqambr.lines z c = [-9] := by
  have P : Pd (adj (CyG.crystalIn c []).cell.mat) := pd_adj (pd_right (sym_cell _) h2)
  have := all_more P ho (bd := z.toNat) hT (fun t ht => by have := hb t ht; omega)
  rw [lines_told h1 h2, if_pos (by omega)]
theorem lines_end2 {z : Int} {c : List Int} (h1 : CyG.okCell c = true) (h2 : rightMat (CyG.crystalIn c []).cell.mat = true) (hz : 0 ≤ z) {u v w : T3} (ho : One u v w) {T : List T3} (hT : T.Nodup)
    (hb : ∀ t, t ∈ T ↔ ((ofMat (adj (CyG.crystalIn c []).cell.mat)).gr u v w).N t ≤ z) (hl : T.length ≤ 4097) {Z0 : List Int} (hs : Z0.Pairwise (· ≤ ·)) (hp : Z0.Perm (T.map fun t => ((ofMat (adj (CyG.crystalIn c []).cell.mat)).gr u v w).N t)) :
    PyWqambr.lines z c = 0 :: told (counted Z0) := by
  have P : Pd (adj (CyG.crystalIn c []).cell.mat) := pd_adj (pd_right (sym_cell _) h2)
  have hb' : ∀ t, t ∈ T ↔ ((ofMat (adj (CyG.crystalIn c []).cell.mat)).gr u v w).N t ≤ ((z.toNat : Nat) : Int) := fun t => by rw [hb t]; omega
  have e := len_these P ho hT hb'
  obtain ⟨Z, z1, z2, z3⟩ := told_is P ho hT hb' hs hp
  rw [lines_told h1 h2, if_neg (by omega), lines_is P z1 z2, z3]
/-- the multiples of the first alone -/
theorem crowd {F : Fm} {b : Int} (ha : 0 < F.a) (h : F.a * (2049 * 2049) ≤ b) : ∃ T : List T3, T.Nodup ∧ (∀ t, t ∈ T → F.N t ≤ b) ∧ 4097 < T.length := by
  refine ⟨(spread 2049).map fun x => (x, 0, 0), nodup_map_of (nodup_spread _) fun x _ y _ e => congrArg Prod.fst e, fun t ht => ?_, by rw [List.length_map, len_spread]; decide⟩
  obtain ⟨x, hx, rfl⟩ := List.mem_map.mp ht
  have hx := mem_spread.mp hx
  have e : F.N (x, 0, 0) = F.a * (x * x) := by
    unfold Fm.N nf
    dsimp only
    grind
  rw [e]
  have : x * x ≤ 2049 * 2049 := by
    have h1 : x.natAbs * x.natAbs ≤ 2049 * 2049 := Nat.mul_le_mul hx hx
    have h2 := Int.natAbs_mul_self' x
    have h3 : ((x.natAbs * x.natAbs : Nat) : Int) ≤ ((2049 * 2049 : Nat) : Int) := Int.ofNat_le.mpr h1
    rw [Int.natCast_mul, h2] at h3
    exact h3
  exact Int.le_trans (Int.mul_le_mul_of_nonneg_left this (Int.le_of_lt ha)) h
end Ln

end
set_option Elab.async false
set_option maxRecDepth 100000
set_option maxHeartbeats 4000000
namespace Cr
open PySem PySem.Spec PyProof.Rows L2
open PySem.W (Codec)
/-! ### the text by places -/
def top (i : Nat) : Stmt := PySem.Challenge.pw_crystalsums_s09_lines.main.body.getD i (.Pass ⟨0, 0, 0, 0⟩)
/-- a list of whole numbers -/
abbrev li (l : List Int) : HO := .lst (l.map V.int)
/-- a list of naturals -/
abbrev ln (l : List Nat) : HO := .lst (l.map fun (e : Nat) => V.int ((e : Nat) : Int))
theorem small {n : Nat} (h : n ≤ 1000) : n ≤ sizeLine := Nat.le_of_lt (small1000 h)
/-- a def that may be called -/
def Cal (P : Program) (w : World) (K : PySem.W.Frag) (mg : Str → Option Value) (base : Heap) (k : Nat) (x : Str) (ps : List Str) (sp : Sp) : Prop :=
  ∃ f fd, FnOk P w K mg base CX0 k f fd ps sp ∧ Binds K fd ps [] ∧ mg x = some (.ref f) ∧ PySem.W.keepIn K (.ref f) = true
section
variable {P : Program} {w : World} {K : PySem.W.Frag} {mg : Str → Option Value} {base : Heap}
theorem Same.upd {H : Hp} {a : Addr} {o : HO} (h : H a = Option.none) : Same H (upd H a o) := fun b u e => by
  rw [upd_ne (ne_of_none e h)]
  exact e
/-- o[i] of a list, by values -/
theorem get_list {X : Cx} : PGet X (fun x y H Q => ∃ (p : Addr) (xs : List V) (j : Nat) (v : V), x = .ref p ∧ y = .int (j : Int) ∧ SqL X.K H p xs ∧ xs[j]? = some v ∧ Q v H) := by
  intro pins s σ H o i ov iv Q I r1 r2 h
  obtain ⟨p, xs, j, z, rfl, rfl, hq, he, q⟩ := h
  cases r1
  obtain ⟨t, rfl⟩ := r2
  obtain ⟨its, r, pl, hz⟩ := I.list hq
  obtain ⟨w', ew, rw'⟩ := r.get he
  have hl := r.length
  have hn := line63
  have hj : j < xs.length := (List.getElem?_eq_some_iff.mp he).1
  have e0 : ((j : Int)).toNat = j := by omega
  refine wpAny_getItem_list pl.isList (by omega) (by omega) (by rw [e0]; simpa using ew) ⟨z, H, I, rw', q⟩
theorem at_int {L : List Int} {z : Int} {j : Nat} (e : z = (j : Int)) (h : j < L.length) : atI (L.map V.int) z = some (V.int (My.cf L j)) := by
  refine at_of e ?_
  rw [List.getElem?_map, My.cf_get? h]
  rfl
theorem ix_int {n : Nat} {z : Int} {j : Nat} (e : z = (j : Int)) (h : j < n) : ixN n z = some j := by
  unfold ixN
  rw [if_pos (by omega), if_pos (by omega)]
  congr 1
  omega
end
end Cr
set_option Elab.async false
set_option maxRecDepth 100000
set_option maxHeartbeats 4000000
namespace Cr
open PySem PySem.Spec PyProof.Rows L2
open PySem.W (Codec)
abbrev sWit : Stmt := top 6
abbrev sSml : Stmt := top 7
structure TxtS (mg : Str → Option Value) : Prop where
  number : ∃ t, mg "LARGEST_NUMBER" = some (.int 1048575 t)
  len : mg "len" = none
  all : mg "all" = none
theorem smallL {n : Nat} (h : n ≤ 1000000) : n < sizeLine := Nat.lt_of_le_of_lt h (by decide)
def spWit (K : PySem.W.Frag) : Sp := fun vs H Q _ => ∃ (a : Addr) (W : List Int) (lo hi : Int), vs = [.ref a, .int lo, .int hi] ∧ SqL K H a (W.map V.int) ∧ W.length ≤ 2000 ∧ ∀ H', Same H H' → Q (.bl (Sm.withinB W lo hi)) H'
/-- a list is handed in, a truth value comes back -/
def spL (K : PySem.W.Frag) (g : List Int → Bool) : Sp := fun vs H Q _ => ∃ (a : Addr) (W : List Int), vs = [.ref a] ∧ SqL K H a (W.map V.int) ∧ W.length ≤ 2000 ∧ ∀ H', Same H H' → Q (.bl (g W)) H'
section
variable {P : Program} {w : World} {K : PySem.W.Frag} {mg : Str → Option Value} {base : Heap}
theorem get_ints {l : List Int} {i : Nat} {y : V} (h : (l.map V.int)[i]? = some y) : ∃ x, l[i]? = some x ∧ y = V.int x := by
  rw [List.getElem?_map] at h
  obtain ⟨x, e, rfl⟩ := Option.map_eq_some_iff.mp h
  exact ⟨x, e, rfl⟩
theorem get_refs {l : List Addr} {i : Nat} {y : V} (h : (l.map V.ref)[i]? = some y) : ∃ x, l[i]? = some x ∧ y = V.ref x := by
  rw [List.getElem?_map] at h
  obtain ⟨x, e, rfl⟩ := Option.map_eq_some_iff.mp h
  exact ⟨x, e, rfl⟩
/-- what a comprehension has made, one more -/
theorem grow {H H' : Hp} {D : Addr} {xs ys : List V} {y : V} (nD : H D = Option.none) (q1 : H' D = some (.lst xs)) (q2 : Same H H') (hl : xs.length ≤ 999999) (e : ys = xs ++ [y]) :
    ∃ acc, H' D = some (.lst acc) ∧ acc.length < sizeLine ∧ (upd H' D (.lst (acc ++ [y])) D = some (.lst ys) ∧ Same H (upd H' D (.lst (acc ++ [y])))) := by
  refine ⟨xs, q1, smallL (by omega), by rw [upd_same, e], fun b o eb => ?_⟩
  rw [upd_ne (ne_of_none eb nD)]
  exact q2 b o eb
theorem map_snoc {α β : Type} (g : α → β) {l : List α} {i : Nat} {x : α} (h : l[i]? = some x) : (l.take (i + 1)).map g = (l.take i).map g ++ [g x] := by
  rw [My.take_snoc h, List.map_append]
  rfl
theorem dec_len {n m : Nat} : decide (V.int ((n : Nat) : Int) = V.int ((m : Nat) : Int)) = decide (n = m) := decide_eq_decide.mpr ⟨fun e => by have := V.int.inj e; omega, fun e => by rw [e]⟩
theorem cf_in {L : List Int} {j : Nat} (h : j < L.length) : My.cf L j ∈ L := by
  rw [My.cf_get h]
  exact List.getElem_mem _
theorem Cal.lift {j k : Nat} {x : Str} {ps : List Str} {sp : Sp} (C : Cal P w K mg base j x ps sp) (h : j ≤ k) : Cal P w K mg base k x ps sp := by
  obtain ⟨f, fd, G, r⟩ := C
  exact ⟨f, fd, G.mono h, r⟩
/-! ### are_within, are_small -/
theorem scWit : FnScope ["numbers", "least", "most", "number"] ["numbers", "least", "most"] (defScope sWit) := ⟨rfl, rfl, rfl, by decide +kernel, rfl, by decide +kernel, by decide +kernel⟩
theorem blkWit : BlkOk ["numbers", "least", "most", "number"] (defScope sWit) { kind := ScopeKind.function, names := [(Str.ofString ".0", NameKind.local), (Str.ofString "number", NameKind.local), (Str.ofString "least", NameKind.free), (Str.ofString "most", NameKind.free)], isGenerator := false, isCoroutine := false } [("number", 3)] := blkOk_by (by decide +kernel)
theorem ok_wit {f : Addr} {fd : FuncData} (F : Fun K "are_within" "are_within" sWit f fd) (T : TxtS mg) : FnOk P w K mg base CX0 1 f fd ["numbers", "least", "most"] (spWit K) := by
  refine F.ok scWit (fun vs H Q E h => ?_) (fun cdv A outer s H vs Q E hr h => ?_)
  · obtain ⟨a, W, lo, hi, rfl, _⟩ := h
    rfl
  · obtain ⟨a, W, lo, hi, rfl, hA, hl, k⟩ := h
    refine ⟨_, pss_one (ps_ret (pe_callB (cr_all rfl) (by rfl) T.all boot_all (pa_cons (pe_lc rfl scWit.nd (pi_list (pv 0)) blkWit
      (fun s H C cl fp => pg_name (i := 3) scWit.nd rfl (Or.inl rfl)) (fun s H C cl fp => pts_nil) (fun s H C cl fp => pe_chain op_le op_le (pv 1) (pv 3) (pv 2))) pa_nil))), ?_⟩
    refine ⟨_, rfl, a, rfl, ⟨_, hA⟩, fun D hD => ?_⟩
    refine lc_list (K := K) (a := a) (xs := W.map V.int) (fun i H' => H' D = some (.lst ((W.take i).map fun x => V.bl (decide (lo ≤ x) && decide (x ≤ hi)))) ∧ Same H H') ⟨upd_same, Same.upd hD⟩ (fun i H' _ ⟨_, q⟩ => q.seq hA) ?_ ?_
    · rintro i y H' hy ⟨q1, q2⟩
      obtain ⟨x, hx, rfl⟩ := get_ints hy
      have hg : ∀ y', y' = V.bl (decide (lo ≤ x) && decide (x ≤ hi)) → ∃ acc, H' D = some (.lst acc) ∧ acc.length < sizeLine ∧ (upd H' D (.lst (acc ++ [y'])) D = some (.lst ((W.take (i + 1)).map fun x => V.bl (decide (lo ≤ x) && decide (x ≤ hi)))) ∧ Same H (upd H' D (.lst (acc ++ [y'])))) := fun y' e =>
        grow hD q1 q2 (by rw [List.length_map, List.length_take]; omega) (by rw [map_snoc _ hx, e])
      refine ⟨rfl, _, rfl, _, rfl, lo, x, rfl, rfl, _, rfl, ite2 (fun h => ?_) (fun h => ?_)⟩
      · exact ⟨_, rfl, x, hi, rfl, rfl, hg _ (by rw [h]; rfl)⟩
      · exact hg _ (by
          have e : decide (lo ≤ x) = false := by simpa using h
          rw [e]
          rfl)
    · rintro H' ⟨q1, q2⟩
      rw [List.length_map, List.take_length] at q1
      refine ⟨D, W.map fun x => decide (lo ≤ x) && decide (x ≤ hi), rfl, SqL.of (by rw [q1, List.map_map]; rfl), ?_⟩
      have e : (W.map fun x => decide (lo ≤ x) && decide (x ≤ hi)).all id = Sm.withinB W lo hi := by
        unfold Sm.withinB
        rw [List.all_map]
        rfl
      rw [e]
      exact k H' q2
theorem scSml : FnScope ["numbers"] ["numbers"] (defScope sSml) := ⟨rfl, rfl, rfl, by decide +kernel, rfl, by decide +kernel, by decide +kernel⟩
theorem ok_sml {f : Addr} {fd : FuncData} (F : Fun K "are_small" "are_small" sSml f fd) (T : TxtS mg) (C : Cal P w K mg base 1 "are_within" ["numbers", "least", "most"] (spWit K)) : FnOk P w K mg base CX0 2 f fd ["numbers"] (spL K Sm.smallB) := by
  obtain ⟨fW, fdW, GW, bW, mW, kW⟩ := C
  refine F.ok scSml (fun vs H Q E h => ?_) (fun cdv A outer s H vs Q E hr h => ?_)
  · obtain ⟨a, W, rfl, _⟩ := h
    rfl
  · obtain ⟨a, W, rfl, hA, hl, k⟩ := h
    obtain ⟨t, eN⟩ := T.number
    refine ⟨_, pss_one (ps_ret (pe_call GW hr rfl mW kW bW .nil pass0 (pa_cons (pv 0) (pa_cons (pe_un un_neg (pe_glob (v := .int 1048575) rfl eN ⟨_, rfl⟩)) (pa_cons (pe_glob (v := .int 1048575) rfl eN ⟨_, rfl⟩) pa_nil))))), ?_⟩
    exact ⟨_, rfl, 1048575, rfl, a, W, -1048575, 1048575, rfl, hA, hl, k⟩
end
end Cr
set_option Elab.async false
set_option maxRecDepth 100000
set_option maxHeartbeats 4000000
namespace Cr
open PySem PySem.Spec PyProof.Rows L2
open PySem.W (Codec)
abbrev sCel : Stmt := top 8
abbrev sAdj : Stmt := top 9
abbrev sDet : Stmt := top 10
abbrev sRgt : Stmt := top 11
/-- the adjugate as the program reckons it -/
def adjL (c : List Int) : List Int := [My.cf c 1 * My.cf c 2 - My.cf c 3 * My.cf c 3, My.cf c 0 * My.cf c 2 - My.cf c 4 * My.cf c 4, My.cf c 0 * My.cf c 1 - My.cf c 5 * My.cf c 5, My.cf c 5 * My.cf c 4 - My.cf c 0 * My.cf c 3, My.cf c 5 * My.cf c 3 - My.cf c 1 * My.cf c 4, My.cf c 4 * My.cf c 3 - My.cf c 2 * My.cf c 5]
def spAdj (K : PySem.W.Frag) : Sp := fun vs H Q _ => ∃ (a : Addr) (c : List Int), vs = [.ref a] ∧ SqL K H a (c.map V.int) ∧ 6 ≤ c.length ∧ (∀ x, x ∈ c → Bt 4000 x) ∧ ∀ r, H r = Option.none → Q (.ref r) (upd H r (li (adjL c)))
def spDet (K : PySem.W.Frag) : Sp := fun vs H Q _ => ∃ (a : Addr) (c : List Int), vs = [.ref a] ∧ SqL K H a (c.map V.int) ∧ 6 ≤ c.length ∧ (∀ x, x ∈ c → Bt 4000 x) ∧ ∀ H', Same H H' → Q (.int (Sm.dtr c)) H'
def spRgt (K : PySem.W.Frag) : Sp := fun vs H Q _ => ∃ (a : Addr) (c : List Int), vs = [.ref a] ∧ SqL K H a (c.map V.int) ∧ c.length = 7 ∧ (∀ x, x ∈ c → -1048576 < x ∧ x < 1048576) ∧ ∀ H', Same H H' → Q (.bl (Sm.rgtB c)) H'
section
variable {P : Program} {w : World} {K : PySem.W.Frag} {mg : Str → Option Value} {base : Heap}
theorem scCel : FnScope ["cell"] ["cell"] (defScope sCel) := ⟨rfl, rfl, rfl, by decide +kernel, rfl, by decide +kernel, by decide +kernel⟩
theorem ok_cel {f : Addr} {fd : FuncData} (F : Fun K "is_cell" "is_cell" sCel f fd) (T : TxtS mg) (C : Cal P w K mg base 2 "are_small" ["numbers"] (spL K Sm.smallB)) : FnOk P w K mg base CX0 3 f fd ["cell"] (spL K Sm.cellB) := by
  obtain ⟨fW, fdW, GW, bW, mW, kW⟩ := C
  refine F.ok scCel (fun vs H Q E h => ?_) (fun cdv A outer s H vs Q E hr h => ?_)
  · obtain ⟨a, W, rfl, _⟩ := h
    rfl
  · obtain ⟨a, W, rfl, hA, hl, k⟩ := h
    refine ⟨_, pss_one (ps_ret (pe_and (pe_cmpR op_eq (pe_callB call_len_seq (by rfl) T.len PySem.boot_len (pa_cons (pv 0) pa_nil)) pe_int (nomark _)) (pe_and (pe_call GW hr rfl mW kW bW .nil pass0 (pa_cons (pv 0) pa_nil))
      (pe_one (pe_cmpR op_ge (pe_ix ix_list (pv 0) pe_int (fun _ _ => rfl)) pe_int (nomark _)))))), ?_⟩
    refine ⟨_, rfl, a, _, rfl, .inl hA, rfl, _, rfl, ?_⟩
    rw [List.length_map]
    have e7 : decide (V.int ((W.length : Nat) : Int) = V.int 7) = decide (W.length = 7) := dec_len (m := 7)
    rw [e7]
    have un : Sm.cellB W = (decide (W.length = 7) && (Sm.smallB W && decide (1 ≤ W.getD 6 0))) := rfl
    refine ite2 (fun h => ?_) (fun h => ?_)
    · have h7 : W.length = 7 := of_decide_eq_true h
      refine ⟨_, rfl, a, W, rfl, hA, hl, fun H' s' => ⟨_, rfl, ite2 (fun h2 => ?_) (fun h2 => ?_)⟩⟩
      · refine ⟨_, rfl, a, _, _, _, rfl, rfl, s'.seq hA, at_int (j := 6) rfl (by omega), _, _, rfl, rfl, ?_⟩
        have := k H' s'
        rw [un, h, h2] at this
        exact this
      · have h2' : Sm.smallB W = false := by simpa using h2
        have := k H' s'
        rw [un, h, h2'] at this
        exact this
    · have h' : decide (W.length = 7) = false := by simpa using h
      have := k H (Same.refl _)
      rw [un, h'] at this
      exact this
/-! ### adjugate, determinant, is_right -/
theorem bt_small {x : Int} (h : -1048576 < x ∧ x < 1048576) : Bt 64 x := by
  have e : (2 : Int) ^ 64 = 18446744073709551616 := by decide
  exact PySem.intBits_le_64 (by rw [e]; omega) (by rw [e]; omega)
theorem Bt.mono {j k : Nat} {x : Int} (h : Bt j x) (hk : j ≤ k) : Bt k x := Nat.le_trans h hk
theorem scAdj : FnScope ["form", "g11", "g22", "g33", "g23", "g13", "g12"] ["form"] (defScope sAdj) := ⟨rfl, rfl, rfl, by decide +kernel, rfl, by decide +kernel, by decide +kernel⟩
theorem ok_adj {f : Addr} {fd : FuncData} (F : Fun K "adjugate" "adjugate" sAdj f fd) : FnOk P w K mg base CX0 1 f fd ["form"] (spAdj K) := by
  refine F.ok scAdj (fun vs H Q E h => ?_) (fun cdv A outer s H vs Q E hr h => ?_)
  · obtain ⟨a, c, rfl, _⟩ := h
    rfl
  · obtain ⟨a, c, rfl, hA, h6, hb, k⟩ := h
    refine ⟨_, pss_cons (ps_set (i := 1) scAdj.nd rfl (Or.inl rfl) (pe_ix ix_list (pv 0) pe_int (fun _ _ => rfl)))
      (pss_cons (ps_set (i := 2) scAdj.nd rfl (Or.inl rfl) (pe_ix ix_list (pv 0) pe_int (fun _ _ => rfl)))
      (pss_cons (ps_set (i := 3) scAdj.nd rfl (Or.inl rfl) (pe_ix ix_list (pv 0) pe_int (fun _ _ => rfl)))
      (pss_cons (ps_set (i := 4) scAdj.nd rfl (Or.inl rfl) (pe_ix ix_list (pv 0) pe_int (fun _ _ => rfl)))
      (pss_cons (ps_set (i := 5) scAdj.nd rfl (Or.inl rfl) (pe_ix ix_list (pv 0) pe_int (fun _ _ => rfl)))
      (pss_cons (ps_set (i := 6) scAdj.nd rfl (Or.inl rfl) (pe_ix ix_list (pv 0) pe_int (fun _ _ => rfl)))
      (pss_one (ps_ret (pe_lst (pa_cons (pe_op op_sub (pe_op op_mulB (pv 2) (pv 3)) (pe_op op_mulB (pv 4) (pv 4)))
        (pa_cons (pe_op op_sub (pe_op op_mulB (pv 1) (pv 3)) (pe_op op_mulB (pv 5) (pv 5)))
        (pa_cons (pe_op op_sub (pe_op op_mulB (pv 1) (pv 2)) (pe_op op_mulB (pv 6) (pv 6)))
        (pa_cons (pe_op op_sub (pe_op op_mulB (pv 6) (pv 5)) (pe_op op_mulB (pv 1) (pv 4)))
        (pa_cons (pe_op op_sub (pe_op op_mulB (pv 6) (pv 4)) (pe_op op_mulB (pv 2) (pv 5)))
        (pa_cons (pe_op op_sub (pe_op op_mulB (pv 5) (pv 4)) (pe_op op_mulB (pv 3) (pv 6))) pa_nil)))))))))))))), ?_⟩
    have bd : ∀ j, j < 6 → Bt 4000 (My.cf c j) := fun j hj => hb _ (cf_in (L := c) (j := j) (by omega))
    have mu : ∀ i j, i < 6 → j < 6 → CMulB (My.cf c i) (My.cf c j) := fun i j hi hj => ⟨4000, 4000, bd i hi, bd j hj, by decide⟩
    refine ⟨_, rfl, a, _, _, _, rfl, rfl, hA, at_int (j := 0) rfl (by omega), ?_⟩
    refine ⟨_, rfl, a, _, _, _, rfl, rfl, hA, at_int (j := 1) rfl (by omega), ?_⟩
    refine ⟨_, rfl, a, _, _, _, rfl, rfl, hA, at_int (j := 2) rfl (by omega), ?_⟩
    refine ⟨_, rfl, a, _, _, _, rfl, rfl, hA, at_int (j := 3) rfl (by omega), ?_⟩
    refine ⟨_, rfl, a, _, _, _, rfl, rfl, hA, at_int (j := 4) rfl (by omega), ?_⟩
    refine ⟨_, rfl, a, _, _, _, rfl, rfl, hA, at_int (j := 5) rfl (by omega), ?_⟩
    refine ⟨_, rfl, _, rfl, _, _, rfl, rfl, mu 1 2 (by decide) (by decide), _, rfl, _, rfl, _, _, rfl, rfl, mu 3 3 (by decide) (by decide), _, _, rfl, rfl, ?_⟩
    refine ⟨_, rfl, _, rfl, _, _, rfl, rfl, mu 0 2 (by decide) (by decide), _, rfl, _, rfl, _, _, rfl, rfl, mu 4 4 (by decide) (by decide), _, _, rfl, rfl, ?_⟩
    refine ⟨_, rfl, _, rfl, _, _, rfl, rfl, mu 0 1 (by decide) (by decide), _, rfl, _, rfl, _, _, rfl, rfl, mu 5 5 (by decide) (by decide), _, _, rfl, rfl, ?_⟩
    refine ⟨_, rfl, _, rfl, _, _, rfl, rfl, mu 5 4 (by decide) (by decide), _, rfl, _, rfl, _, _, rfl, rfl, mu 0 3 (by decide) (by decide), _, _, rfl, rfl, ?_⟩
    refine ⟨_, rfl, _, rfl, _, _, rfl, rfl, mu 5 3 (by decide) (by decide), _, rfl, _, rfl, _, _, rfl, rfl, mu 1 4 (by decide) (by decide), _, _, rfl, rfl, ?_⟩
    refine ⟨_, rfl, _, rfl, _, _, rfl, rfl, mu 4 3 (by decide) (by decide), _, rfl, _, rfl, _, _, rfl, rfl, mu 2 5 (by decide) (by decide), _, _, rfl, rfl, ?_⟩
    exact ⟨Nat.le_of_lt (smallL (by show 6 ≤ 1000000; decide)), fun r nr => k r nr⟩
theorem adj_bt {c : List Int} {n : Nat} (h6 : 6 ≤ c.length) (hb : ∀ x, x ∈ c → Bt n x) : ∀ x, x ∈ adjL c → Bt (n + n + 1) x := by
  have bd : ∀ j, j < 6 → Bt n (My.cf c j) := fun j hj => hb _ (cf_in (L := c) (j := j) (by omega))
  have q : ∀ i j k l, i < 6 → j < 6 → k < 6 → l < 6 → Bt (n + n + 1) (My.cf c i * My.cf c j - My.cf c k * My.cf c l) := fun i j k l hi hj hk hl =>
    Bt.mono (PyProof.Rows.bits_sub (PyProof.Rows.bits_mul (bd i hi) (bd j hj)) (PyProof.Rows.bits_mul (bd k hk) (bd l hl))) (by omega)
  intro x hx
  simp only [adjL, List.mem_cons, List.not_mem_nil, or_false] at hx
  rcases hx with rfl | rfl | rfl | rfl | rfl | rfl
  · exact q 1 2 3 3 (by decide) (by decide) (by decide) (by decide)
  · exact q 0 2 4 4 (by decide) (by decide) (by decide) (by decide)
  · exact q 0 1 5 5 (by decide) (by decide) (by decide) (by decide)
  · exact q 5 4 0 3 (by decide) (by decide) (by decide) (by decide)
  · exact q 5 3 1 4 (by decide) (by decide) (by decide) (by decide)
  · exact q 4 3 2 5 (by decide) (by decide) (by decide) (by decide)
theorem scDet : FnScope ["form", "beside"] ["form"] (defScope sDet) := ⟨rfl, rfl, rfl, by decide +kernel, rfl, by decide +kernel, by decide +kernel⟩
theorem dtr_is (c : List Int) : My.cf c 0 * My.cf (adjL c) 0 + My.cf c 5 * My.cf (adjL c) 5 + My.cf c 4 * My.cf (adjL c) 4 = Sm.dtr c := by
  show My.cf c 0 * (My.cf c 1 * My.cf c 2 - My.cf c 3 * My.cf c 3) + My.cf c 5 * (My.cf c 4 * My.cf c 3 - My.cf c 2 * My.cf c 5) + My.cf c 4 * (My.cf c 5 * My.cf c 3 - My.cf c 1 * My.cf c 4) = My.cf c 0 * (My.cf c 1 * My.cf c 2 - My.cf c 3 * My.cf c 3) - My.cf c 5 * (My.cf c 5 * My.cf c 2 - My.cf c 4 * My.cf c 3) + My.cf c 4 * (My.cf c 5 * My.cf c 3 - My.cf c 4 * My.cf c 1)
  generalize My.cf c 0 = x0, My.cf c 1 = x1, My.cf c 2 = x2, My.cf c 3 = x3, My.cf c 4 = x4, My.cf c 5 = x5
  grind
theorem ok_det {f : Addr} {fd : FuncData} (F : Fun K "determinant" "determinant" sDet f fd) (C : Cal P w K mg base 1 "adjugate" ["form"] (spAdj K)) : FnOk P w K mg base CX0 2 f fd ["form"] (spDet K) := by
  obtain ⟨fW, fdW, GW, bW, mW, kW⟩ := C
  refine F.ok scDet (fun vs H Q E h => ?_) (fun cdv A outer s H vs Q E hr h => ?_)
  · obtain ⟨a, c, rfl, _⟩ := h
    rfl
  · obtain ⟨a, c, rfl, hA, h6, hb, k⟩ := h
    refine ⟨_, pss_cons (ps_set (i := 1) scDet.nd rfl (Or.inl rfl) (pe_call GW hr rfl mW kW bW .nil pass0 (pa_cons (pv 0) pa_nil)))
      (pss_one (ps_ret (pe_op op_add (pe_op op_add
        (pe_op op_mulB (pe_ix ix_list (pv 0) pe_int (fun _ _ => rfl)) (pe_ix ix_list (pv 1) pe_int (fun _ _ => rfl)))
        (pe_op op_mulB (pe_ix ix_list (pv 0) pe_int (fun _ _ => rfl)) (pe_ix ix_list (pv 1) pe_int (fun _ _ => rfl))))
        (pe_op op_mulB (pe_ix ix_list (pv 0) pe_int (fun _ _ => rfl)) (pe_ix ix_list (pv 1) pe_int (fun _ _ => rfl)))))), ?_⟩
    have bd : ∀ j, j < 6 → Bt 4000 (My.cf c j) := fun j hj => hb _ (cf_in (L := c) (j := j) (by omega))
    have bd2 : ∀ j, j < 6 → Bt 8001 (My.cf (adjL c) j) := fun j hj => adj_bt h6 hb _ (cf_in (L := adjL c) (j := j) hj)
    have mu : ∀ i j, i < 6 → j < 6 → CMulB (My.cf c i) (My.cf (adjL c) j) := fun i j hi hj => ⟨4000, 8001, bd i hi, bd2 j hj, by decide⟩
    refine ⟨_, rfl, a, c, rfl, hA, h6, hb, fun r nr => ?_⟩
    have sr := Same.upd (o := li (adjL c)) nr
    have hA' := sr.seq hA
    have hR : SqL K (upd H r (li (adjL c))) r ((adjL c).map V.int) := SqL.of upd_same
    have l6 : (adjL c).length = 6 := rfl
    refine ⟨_, rfl, a, _, _, _, rfl, rfl, hA', at_int (j := 0) rfl (by omega), _, rfl, r, _, _, _, rfl, rfl, hR, at_int (j := 0) rfl (by omega), _, _, rfl, rfl, mu 0 0 (by decide) (by decide), ?_⟩
    refine ⟨_, rfl, a, _, _, _, rfl, rfl, hA', at_int (j := 5) rfl (by omega), _, rfl, r, _, _, _, rfl, rfl, hR, at_int (j := 5) rfl (by omega), _, _, rfl, rfl, mu 5 5 (by decide) (by decide), _, _, rfl, rfl, ?_⟩
    refine ⟨_, rfl, a, _, _, _, rfl, rfl, hA', at_int (j := 4) rfl (by omega), _, rfl, r, _, _, _, rfl, rfl, hR, at_int (j := 4) rfl (by omega), _, _, rfl, rfl, mu 4 4 (by decide) (by decide), _, _, rfl, rfl, ?_⟩
    show Q (V.int (My.cf c 0 * My.cf (adjL c) 0 + My.cf c 5 * My.cf (adjL c) 5 + My.cf c 4 * My.cf (adjL c) 4)) _
    rw [dtr_is]
    exact k _ sr
theorem scRgt : FnScope ["cell"] ["cell"] (defScope sRgt) := ⟨rfl, rfl, rfl, by decide +kernel, rfl, by decide +kernel, by decide +kernel⟩
theorem ok_rgt {f : Addr} {fd : FuncData} (F : Fun K "is_right" "is_right" sRgt f fd) (C : Cal P w K mg base 2 "determinant" ["form"] (spDet K)) : FnOk P w K mg base CX0 3 f fd ["cell"] (spRgt K) := by
  obtain ⟨fW, fdW, GW, bW, mW, kW⟩ := C
  refine F.ok scRgt (fun vs H Q E h => ?_) (fun cdv A outer s H vs Q E hr h => ?_)
  · obtain ⟨a, c, rfl, _⟩ := h
    rfl
  · obtain ⟨a, c, rfl, hA, h7, hb, k⟩ := h
    refine ⟨_, pss_one (ps_ret (pe_and (pe_cmpR op_gt (pe_ix ix_list (pv 0) pe_int (fun _ _ => rfl)) pe_int (nomark _))
      (pe_and (pe_cmpR op_gt (pe_op op_mul (pe_ix ix_list (pv 0) pe_int (fun _ _ => rfl)) (pe_ix ix_list (pv 0) pe_int (fun _ _ => rfl))) (pe_op op_mul (pe_ix ix_list (pv 0) pe_int (fun _ _ => rfl)) (pe_ix ix_list (pv 0) pe_int (fun _ _ => rfl))) (nomark _))
      (pe_one (pe_cmpR op_gt (pe_call GW hr rfl mW kW bW .nil pass0 (pa_cons (pv 0) pa_nil)) pe_int (nomark _)))))), ?_⟩
    have bd : ∀ j, j < 7 → -(2 ^ 64) < My.cf c j ∧ My.cf c j < 2 ^ 64 := fun j hj => by
      have := hb _ (cf_in (L := c) (j := j) (by omega))
      have e : (2 : Int) ^ 64 = 18446744073709551616 := by decide
      rw [e]
      omega
    have un : Sm.rgtB c = (decide (0 < My.cf c 0) && (decide (My.cf c 5 * My.cf c 5 < My.cf c 0 * My.cf c 1) && decide (0 < Sm.dtr c))) := rfl
    have k0 := k H (Same.refl _)
    rw [un] at k k0
    refine ⟨_, rfl, a, _, _, _, rfl, rfl, hA, at_int (j := 0) rfl (by omega), _, _, rfl, rfl, _, rfl, ite2 (fun h => ?_) (fun h => ?_)⟩
    · rw [h] at k k0
      refine ⟨_, rfl, a, _, _, _, rfl, rfl, hA, at_int (j := 0) rfl (by omega), _, rfl, a, _, _, _, rfl, rfl, hA, at_int (j := 1) rfl (by omega), _, _, rfl, rfl, .inl (bd 0 (by decide)), ?_⟩
      refine ⟨_, rfl, a, _, _, _, rfl, rfl, hA, at_int (j := 5) rfl (by omega), _, rfl, a, _, _, _, rfl, rfl, hA, at_int (j := 5) rfl (by omega), _, _, rfl, rfl, .inl (bd 5 (by decide)), _, _, rfl, rfl, _, rfl, ite2 (fun h2 => ?_) (fun h2 => ?_)⟩
      · rw [h2] at k
        exact ⟨_, rfl, a, c, rfl, hA, by omega, fun x hx => Nat.le_trans (bt_small (hb x hx)) (by decide), fun H' s' => ⟨_, _, rfl, rfl, k H' s'⟩⟩
      · have e : decide (My.cf c 5 * My.cf c 5 < My.cf c 0 * My.cf c 1) = false := by simpa using h2
        rw [e] at k0
        exact k0
    · have e : decide (0 < My.cf c 0) = false := by simpa using h
      rw [e] at k0
      exact k0
end
end Cr
set_option Elab.async false
set_option maxRecDepth 100000
set_option maxHeartbeats 4000000
namespace Cr
open PySem PySem.Spec PyProof.Rows L2
open PySem.W (Codec)
abbrev sTim : Stmt := top 12
abbrev sLen : Stmt := top 13
abbrev sLes : Stmt := top 14
abbrev sSho : Stmt := top 15
abbrev sShb : Stmt := top 16
structure TxtL (mg : Str → Option Value) : Prop extends TxtS mg where
  indices : ∃ t, mg "MOST_INDICES" = some (.int 4096 t)
  told : ∃ t, mg "NOT_AS_TOLD" = some (.int (-1) t)
  nodesc : ∃ t, mg "NO_DESCRIPTION" = some (.int (-2) t)
  many : ∃ t, mg "TOO_MANY" = some (.int (-9) t)
  range : mg "range" = none
  sorted : mg "sorted" = none
/-! ### forms and triples as lists, and how many bits they have -/
def l3 (t : Ln.T3) : List Int := [t.1, t.2.1, t.2.2]
def l6 (F : Ln.Fm) : List Int := [F.a, F.b, F.c, F.d, F.e, F.f]
structure FB (n : Nat) (F : Ln.Fm) : Prop where
  a : Bt n F.a
  b : Bt n F.b
  c : Bt n F.c
  d : Bt n F.d
  e : Bt n F.e
  f : Bt n F.f
structure TB (n : Nat) (t : Ln.T3) : Prop where
  x : Bt n t.1
  y : Bt n t.2.1
  z : Bt n t.2.2
theorem FB.mono {m n : Nat} {F : Ln.Fm} (h : FB m F) (k : m ≤ n) : FB n F := ⟨Nat.le_trans h.a k, Nat.le_trans h.b k, Nat.le_trans h.c k, Nat.le_trans h.d k, Nat.le_trans h.e k, Nat.le_trans h.f k⟩
theorem TB.mono {m n : Nat} {t : Ln.T3} (h : TB m t) (k : m ≤ n) : TB n t := ⟨Nat.le_trans h.x k, Nat.le_trans h.y k, Nat.le_trans h.z k⟩
theorem mB {i j : Int} {m n : Nat} (h1 : Bt m i) (h2 : Bt n j) (h : m + n ≤ 134217728 := by decide) : CMulB i j := ⟨m, n, h1, h2, h⟩
theorem bt2 : Bt 2 2 := by decide
theorem bt1 : Bt 1 1 := by decide
theorem tm_bt {F : Ln.Fm} {u v : Ln.T3} {n m k : Nat} (F6 : FB n F) (U : TB m u) (W : TB k v) : Bt (n + m + k + 4) (F.tm u v) := by
  unfold Ln.Fm.tm
  refine Nat.le_trans (bits_add (bits_add (bits_add (bits_add (bits_mul (bits_mul F6.a U.x) W.x) (bits_mul (bits_mul F6.b U.y) W.y)) (bits_mul (bits_mul F6.c U.z) W.z)) (bits_add (bits_mul F6.d (bits_add (bits_mul U.y W.z) (bits_mul U.z W.y))) (bits_mul F6.e (bits_add (bits_mul U.x W.z) (bits_mul U.z W.x))))) (bits_mul F6.f (bits_add (bits_mul U.x W.y) (bits_mul U.y W.x)))) ?_
  omega
theorem div_bt {i j : Int} {n : Nat} (hj : 0 < j) (h : Bt n i) : Bt n (i / j) := by
  rw [← Int.fdiv_eq_ediv_of_nonneg i (Int.le_of_lt hj)]
  exact bits_fdiv h
theorem ls_tb {u v : Ln.T3} {q : Int} {m n k : Nat} (U : TB m u) (W : TB n v) (hq : Bt k q) (h : m ≤ k + n) : TB (k + n + 1) (Ln.ls u v q) :=
  ⟨Nat.le_trans (bits_sub U.x (bits_mul hq W.x)) (by omega), Nat.le_trans (bits_sub U.y (bits_mul hq W.y)) (by omega), Nat.le_trans (bits_sub U.z (bits_mul hq W.z)) (by omega)⟩
/-! ### the promises -/
def spTim (K : PySem.W.Frag) : Sp := fun vs H Q _ => ∃ (fa xa ya : Addr) (F : Ln.Fm) (u v : Ln.T3), vs = [.ref fa, .ref xa, .ref ya] ∧ SqL K H fa ((l6 F).map V.int) ∧ SqL K H xa ((l3 u).map V.int) ∧ SqL K H ya ((l3 v).map V.int) ∧ FB 100000 F ∧ TB 100000 u ∧ TB 100000 v ∧ Q (.int (F.tm u v)) H
def spLen (K : PySem.W.Frag) : Sp := fun vs H Q _ => ∃ (fa xa : Addr) (F : Ln.Fm) (u : Ln.T3), vs = [.ref fa, .ref xa] ∧ SqL K H fa ((l6 F).map V.int) ∧ SqL K H xa ((l3 u).map V.int) ∧ FB 100000 F ∧ TB 100000 u ∧ Q (.int (F.N u)) H
def spLes (K : PySem.W.Frag) : Sp := fun vs H Q _ => ∃ (xa ya : Addr) (u v : Ln.T3) (q : Int), vs = [.ref xa, .ref ya, .int q] ∧ SqL K H xa ((l3 u).map V.int) ∧ SqL K H ya ((l3 v).map V.int) ∧ Bt 1000000 q ∧ TB 1000000 v ∧ ∀ (H' : Hp) (r : Addr), H' r = some (li (l3 (Ln.ls u v q))) → Same H H' → Q (.ref r) H'
def spSho (K : PySem.W.Frag) : Sp := fun vs H Q _ => ∃ (fa xa ya : Addr) (F : Ln.Fm) (u v : Ln.T3), vs = [.ref fa, .ref xa, .ref ya] ∧ SqL K H fa ((l6 F).map V.int) ∧ SqL K H xa ((l3 u).map V.int) ∧ SqL K H ya ((l3 v).map V.int) ∧ FB 1000 F ∧ TB 50000 u ∧ TB 1000 v ∧ 0 < F.N v ∧ ∀ (H' : Hp) (r : Addr), H' r = some (li (l3 (Ln.sh F u v))) → Same H H' → Q (.ref r) H'
def spShb (K : PySem.W.Frag) : Sp := fun vs H Q _ => ∃ (fa xa ya za : Addr) (F : Ln.Fm) (x a b : Ln.T3), vs = [.ref fa, .ref xa, .ref ya, .ref za] ∧ SqL K H fa ((l6 F).map V.int) ∧ SqL K H xa ((l3 x).map V.int) ∧ SqL K H ya ((l3 a).map V.int) ∧ SqL K H za ((l3 b).map V.int) ∧ FB 200 F ∧ TB 400 x ∧ TB 400 a ∧ TB 400 b ∧
  0 < F.N a ∧ 0 < F.N a * F.N b - F.tm a b * F.tm a b ∧ ∀ (H' : Hp) (r : Addr), H' r = some (li (l3 (Ln.sb F x a b))) → Same H H' → Q (.ref r) H'
section
variable {P : Program} {w : World} {K : PySem.W.Frag} {mg : Str → Option Value} {base : Heap}
/-! ### times, length -/
theorem scTim : FnScope ["form", "x", "y", "straight", "across"] ["form", "x", "y"] (defScope sTim) := ⟨rfl, rfl, rfl, by decide +kernel, rfl, by decide +kernel, by decide +kernel⟩
theorem ok_tim {f : Addr} {fd : FuncData} (Fn : Fun K "times" "times" sTim f fd) : FnOk P w K mg base CX0 1 f fd ["form", "x", "y"] (spTim K) := by
  refine Fn.ok scTim (fun vs H Q E h => ?_) (fun cdv A outer s H vs Q E hr h => ?_)
  · obtain ⟨fa, xa, ya, F, u, v, rfl, _⟩ := h
    rfl
  · obtain ⟨fa, xa, ya, F, u, v, rfl, hF, hX, hY, F6, U, W, k⟩ := h
    refine ⟨_, pss_cons (ps_set (i := 3) scTim.nd rfl (Or.inl rfl) (pe_op op_add (pe_op op_add (pe_op op_mulB (pe_op op_mulB (pe_ix ix_list (pv 0) pe_int (fun _ _ => rfl)) (pe_ix ix_list (pv 1) pe_int (fun _ _ => rfl))) (pe_ix ix_list (pv 2) pe_int (fun _ _ => rfl))) (pe_op op_mulB (pe_op op_mulB (pe_ix ix_list (pv 0) pe_int (fun _ _ => rfl)) (pe_ix ix_list (pv 1) pe_int (fun _ _ => rfl))) (pe_ix ix_list (pv 2) pe_int (fun _ _ => rfl)))) (pe_op op_mulB (pe_op op_mulB (pe_ix ix_list (pv 0) pe_int (fun _ _ => rfl)) (pe_ix ix_list (pv 1) pe_int (fun _ _ => rfl))) (pe_ix ix_list (pv 2) pe_int (fun _ _ => rfl)))))
      (pss_cons (ps_set (i := 4) scTim.nd rfl (Or.inl rfl) (pe_op op_add (pe_op op_mulB (pe_ix ix_list (pv 0) pe_int (fun _ _ => rfl)) (pe_op op_add (pe_op op_mulB (pe_ix ix_list (pv 1) pe_int (fun _ _ => rfl)) (pe_ix ix_list (pv 2) pe_int (fun _ _ => rfl))) (pe_op op_mulB (pe_ix ix_list (pv 1) pe_int (fun _ _ => rfl)) (pe_ix ix_list (pv 2) pe_int (fun _ _ => rfl))))) (pe_op op_mulB (pe_ix ix_list (pv 0) pe_int (fun _ _ => rfl)) (pe_op op_add (pe_op op_mulB (pe_ix ix_list (pv 1) pe_int (fun _ _ => rfl)) (pe_ix ix_list (pv 2) pe_int (fun _ _ => rfl))) (pe_op op_mulB (pe_ix ix_list (pv 1) pe_int (fun _ _ => rfl)) (pe_ix ix_list (pv 2) pe_int (fun _ _ => rfl)))))))
      (pss_one (ps_ret (pe_op op_add (pe_op op_add (pv 3) (pv 4)) (pe_op op_mulB (pe_ix ix_list (pv 0) pe_int (fun _ _ => rfl)) (pe_op op_add (pe_op op_mulB (pe_ix ix_list (pv 1) pe_int (fun _ _ => rfl)) (pe_ix ix_list (pv 2) pe_int (fun _ _ => rfl))) (pe_op op_mulB (pe_ix ix_list (pv 1) pe_int (fun _ _ => rfl)) (pe_ix ix_list (pv 2) pe_int (fun _ _ => rfl))))))))), ?_⟩
    refine ⟨_, rfl, fa, _, _, _, rfl, rfl, hF, at_int (j := 0) rfl (show 0 < 6 by decide), _, rfl, xa, _, _, _, rfl, rfl, hX, at_int (j := 0) rfl (show 0 < 3 by decide), _, _, rfl, rfl, mB F6.a U.x, _, rfl, ya, _, _, _, rfl, rfl, hY, at_int (j := 0) rfl (show 0 < 3 by decide), ?_⟩
    refine ⟨_, _, rfl, rfl, mB (bits_mul F6.a U.x) W.x, _, rfl, fa, _, _, _, rfl, rfl, hF, at_int (j := 1) rfl (show 1 < 6 by decide), _, rfl, xa, _, _, _, rfl, rfl, hX, at_int (j := 1) rfl (show 1 < 3 by decide), _, _, rfl, rfl, mB F6.b U.y, ?_⟩
    refine ⟨_, rfl, ya, _, _, _, rfl, rfl, hY, at_int (j := 1) rfl (show 1 < 3 by decide), _, _, rfl, rfl, mB (bits_mul F6.b U.y) W.y, _, _, rfl, rfl, _, rfl, fa, _, _, _, rfl, rfl, hF, at_int (j := 2) rfl (show 2 < 6 by decide), ?_⟩
    refine ⟨_, rfl, xa, _, _, _, rfl, rfl, hX, at_int (j := 2) rfl (show 2 < 3 by decide), _, _, rfl, rfl, mB F6.c U.z, _, rfl, ya, _, _, _, rfl, rfl, hY, at_int (j := 2) rfl (show 2 < 3 by decide), _, _, rfl, rfl, mB (bits_mul F6.c U.z) W.z, ?_⟩
    refine ⟨_, _, rfl, rfl, ?_⟩
    refine ⟨_, rfl, fa, _, _, _, rfl, rfl, hF, at_int (j := 3) rfl (show 3 < 6 by decide), _, rfl, xa, _, _, _, rfl, rfl, hX, at_int (j := 1) rfl (show 1 < 3 by decide), _, rfl, ya, _, _, _, rfl, rfl, hY, at_int (j := 2) rfl (show 2 < 3 by decide), _, _, rfl, rfl, mB U.y W.z, ?_⟩
    refine ⟨_, rfl, xa, _, _, _, rfl, rfl, hX, at_int (j := 2) rfl (show 2 < 3 by decide), _, rfl, ya, _, _, _, rfl, rfl, hY, at_int (j := 1) rfl (show 1 < 3 by decide), _, _, rfl, rfl, mB U.z W.y, _, _, rfl, rfl, ?_⟩
    refine ⟨_, _, rfl, rfl, mB F6.d (bits_add (bits_mul U.y W.z) (bits_mul U.z W.y)), _, rfl, fa, _, _, _, rfl, rfl, hF, at_int (j := 4) rfl (show 4 < 6 by decide), _, rfl, xa, _, _, _, rfl, rfl, hX, at_int (j := 0) rfl (show 0 < 3 by decide), _, rfl, ya, _, _, _, rfl, rfl, hY, at_int (j := 2) rfl (show 2 < 3 by decide), ?_⟩
    refine ⟨_, _, rfl, rfl, mB U.x W.z, _, rfl, xa, _, _, _, rfl, rfl, hX, at_int (j := 2) rfl (show 2 < 3 by decide), _, rfl, ya, _, _, _, rfl, rfl, hY, at_int (j := 0) rfl (show 0 < 3 by decide), _, _, rfl, rfl, mB U.z W.x, ?_⟩
    refine ⟨_, _, rfl, rfl, _, _, rfl, rfl, mB F6.e (bits_add (bits_mul U.x W.z) (bits_mul U.z W.x)), _, _, rfl, rfl, ?_⟩
    refine ⟨_, rfl, _, rfl, _, _, rfl, rfl, _, rfl, fa, _, _, _, rfl, rfl, hF, at_int (j := 5) rfl (show 5 < 6 by decide), ?_⟩
    refine ⟨_, rfl, xa, _, _, _, rfl, rfl, hX, at_int (j := 0) rfl (show 0 < 3 by decide), _, rfl, ya, _, _, _, rfl, rfl, hY, at_int (j := 1) rfl (show 1 < 3 by decide), _, _, rfl, rfl, mB U.x W.y, _, rfl, xa, _, _, _, rfl, rfl, hX, at_int (j := 1) rfl (show 1 < 3 by decide), ?_⟩
    refine ⟨_, rfl, ya, _, _, _, rfl, rfl, hY, at_int (j := 0) rfl (show 0 < 3 by decide), _, _, rfl, rfl, mB U.y W.x, _, _, rfl, rfl, _, _, rfl, rfl, mB F6.f (bits_add (bits_mul U.x W.y) (bits_mul U.y W.x)), ?_⟩
    refine ⟨_, _, rfl, rfl, ?_⟩
    exact k
theorem scLen : FnScope ["form", "x"] ["form", "x"] (defScope sLen) := ⟨rfl, rfl, rfl, by decide +kernel, rfl, by decide +kernel, by decide +kernel⟩
theorem ok_len {f : Addr} {fd : FuncData} (Fn : Fun K "length" "length" sLen f fd) (C : Cal P w K mg base 1 "times" ["form", "x", "y"] (spTim K)) : FnOk P w K mg base CX0 2 f fd ["form", "x"] (spLen K) := by
  obtain ⟨f1, fd1, G1, b1, m1, k1⟩ := C
  refine Fn.ok scLen (fun vs H Q E h => ?_) (fun cdv A outer s H vs Q E hr h => ?_)
  · obtain ⟨fa, xa, F, u, rfl, _⟩ := h
    rfl
  · obtain ⟨fa, xa, F, u, rfl, hF, hX, F6, U, k⟩ := h
    refine ⟨_, pss_one (ps_ret (pe_call G1 hr rfl m1 k1 b1 .nil pass0 (pa_cons (pv 0) (pa_cons (pv 1) (pa_cons (pv 1) pa_nil))))), ?_⟩
    rw [← Ln.Fm.tm_self] at k
    exact ⟨_, rfl, _, rfl, _, rfl, fa, xa, xa, F, u, u, rfl, hF, hX, hX, F6, U, U, k⟩
/-! ### less -/
theorem scLes : FnScope ["x", "y", "factor", "k"] ["x", "y", "factor"] (defScope sLes) := ⟨rfl, rfl, rfl, by decide +kernel, rfl, by decide +kernel, by decide +kernel⟩
theorem blkLes : BlkOk ["x", "y", "factor", "k"] (defScope sLes) { kind := ScopeKind.function, names := [(Str.ofString ".0", NameKind.local), (Str.ofString "k", NameKind.local), (Str.ofString "factor", NameKind.free), (Str.ofString "x", NameKind.free), (Str.ofString "y", NameKind.free)], isGenerator := false, isCoroutine := false } [("k", 3)] := blkOk_by (by decide +kernel)
theorem TB.at {n : Nat} {t : Ln.T3} (h : TB n t) {i : Nat} (hi : i < 3) : Bt n (My.cf (l3 t) i) := by
  match i, hi with
  | 0, _ => exact h.x
  | 1, _ => exact h.y
  | 2, _ => exact h.z
theorem ok_les {f : Addr} {fd : FuncData} (Fn : Fun K "less" "less" sLes f fd) (T : TxtL mg) : FnOk P w K mg base CX0 1 f fd ["x", "y", "factor"] (spLes K) := by
  refine Fn.ok scLes (fun vs H Q E h => ?_) (fun cdv A outer s H vs Q E hr h => ?_)
  · obtain ⟨xa, ya, u, v, q, rfl, _⟩ := h
    rfl
  · obtain ⟨xa, ya, u, v, q, rfl, hX, hY, hq, W, k⟩ := h
    refine ⟨_, pss_one (ps_ret (pe_lc rfl scLes.nd (pi_range1 rfl T.range (pa_cons pe_int pa_nil)) blkLes
      (fun s H C cl fp => pg_name (i := 3) scLes.nd rfl (Or.inl rfl)) (fun s H C cl fp => pts_nil)
      (fun s H C cl fp => pe_op op_sub (pe_ix (r := rIxL K) ix_list (pv 0) (pv 3) (fun _ _ => rfl)) (pe_op op_mulB (pv 2) (pe_ix (r := rIxL K) ix_list (pv 1) (pv 3) (fun _ _ => rfl)))))), ?_⟩
    refine ⟨3, rfl, by decide, by decide, fun D hD => ?_⟩
    refine lc_range (lo := 0) (n := 3) (fun i H' => H' D = some (li ((List.range i).map fun k => My.cf (l3 u) k - q * My.cf (l3 v) k)) ∧ Same H H') ⟨upd_same, Same.upd hD⟩ (fun i H' hi ⟨q1, q2⟩ => ?_) (fun H' ⟨q1, q2⟩ => k H' D q1 q2)
    have h3 : (l3 u).length = 3 := rfl
    have h3' : (l3 v).length = 3 := rfl
    refine ⟨rfl, _, rfl, _, rfl, xa, _, _, _, rfl, rfl, q2.seq hX, at_int (j := i) (by omega) (by omega), _, rfl, _, rfl, _, rfl, ya, _, _, _, rfl, rfl, q2.seq hY, at_int (j := i) (by omega) (by omega), _, _, rfl, rfl, mB hq (W.at hi), _, _, rfl, rfl, ?_⟩
    exact grow hD q1 q2 (by rw [List.length_map, List.length_map, List.length_range]; omega) (by rw [List.range_succ, List.map_append, List.map_append]; rfl)
/-! ### shortened -/
theorem scSho : FnScope ["form", "x", "a", "whole"] ["form", "x", "a"] (defScope sSho) := ⟨rfl, rfl, rfl, by decide +kernel, rfl, by decide +kernel, by decide +kernel⟩
theorem N_bt {F : Ln.Fm} {u : Ln.T3} {n m : Nat} (F6 : FB n F) (U : TB m u) : Bt (n + m + m + 4) (F.N u) := by
  rw [← Ln.Fm.tm_self]
  exact tm_bt F6 U U
theorem ok_sho {f : Addr} {fd : FuncData} (Fn : Fun K "shortened" "shortened" sSho f fd) (CT : Cal P w K mg base 2 "times" ["form", "x", "y"] (spTim K)) (CN : Cal P w K mg base 2 "length" ["form", "x"] (spLen K)) (CL : Cal P w K mg base 2 "less" ["x", "y", "factor"] (spLes K)) : FnOk P w K mg base CX0 3 f fd ["form", "x", "a"] (spSho K) := by
  obtain ⟨f1, fd1, G1, b1, m1, k1⟩ := CT
  obtain ⟨f2, fd2, G2, b2, m2, k2⟩ := CN
  obtain ⟨f3, fd3, G3, b3, m3, k3⟩ := CL
  refine Fn.ok scSho (fun vs H Q E h => ?_) (fun cdv A outer s H vs Q E hr h => ?_)
  · obtain ⟨fa, xa, ya, F, u, v, rfl, _⟩ := h
    rfl
  · obtain ⟨fa, xa, ya, F, u, v, rfl, hF, hX, hY, F6, U, W, hp, k⟩ := h
    refine ⟨_, pss_cons (ps_set (i := 3) scSho.nd rfl (Or.inl rfl) (pe_call G2 hr rfl m2 k2 b2 .nil pass0 (pa_cons (pv 0) (pa_cons (pv 2) pa_nil))))
      (pss_one (ps_ret (pe_call G3 hr rfl m3 k3 b3 .nil pass0 (pa_cons (pv 1) (pa_cons (pv 2) (pa_cons (pe_op op_fdivB (pe_op op_add (pe_op op_mulB pe_int (pe_call G1 hr rfl m1 k1 b1 .nil pass0 (pa_cons (pv 0) (pa_cons (pv 2) (pa_cons (pv 1) pa_nil))))) (pv 3)) (pe_op op_mulB pe_int (pv 3))) pa_nil)))))), ?_⟩
    have bN := N_bt F6 W
    have bT := tm_bt F6 W U
    refine ⟨_, rfl, _, rfl, fa, ya, F, v, rfl, hF, hY, F6.mono (by decide), W.mono (by decide), ?_⟩
    refine ⟨_, rfl, _, rfl, _, rfl, _, rfl, _, rfl, fa, ya, xa, F, v, u, rfl, hF, hY, hX, F6.mono (by decide), W.mono (by decide), U.mono (by decide), ?_⟩
    refine ⟨_, _, rfl, rfl, mB bt2 bT, _, rfl, _, _, rfl, rfl, _, rfl, _, _, rfl, rfl, mB bt2 bN, _, _, rfl, rfl, ⟨by omega, Nat.le_trans (bits_mul bt2 bN) (by decide)⟩, ?_⟩
    exact ⟨xa, ya, u, v, _, rfl, hX, hY, Nat.le_trans (div_bt (by omega) (bits_add (bits_mul bt2 bT) bN)) (by decide), W.mono (by decide), fun H' r hr' s' => k H' r hr' s'⟩
/-! ### shortened_by_both -/
theorem scShb : FnScope ["form", "x", "a", "b", "ab", "aa", "below", "first", "second"] ["form", "x", "a", "b"] (defScope sShb) := ⟨rfl, rfl, rfl, by decide +kernel, rfl, by decide +kernel, by decide +kernel⟩
theorem ok_shb {f : Addr} {fd : FuncData} (Fn : Fun K "shortened_by_both" "shortened_by_both" sShb f fd) (CT : Cal P w K mg base 3 "times" ["form", "x", "y"] (spTim K)) (CN : Cal P w K mg base 3 "length" ["form", "x"] (spLen K)) (CL : Cal P w K mg base 3 "less" ["x", "y", "factor"] (spLes K)) (CS : Cal P w K mg base 3 "shortened" ["form", "x", "a"] (spSho K)) :
    FnOk P w K mg base CX0 4 f fd ["form", "x", "a", "b"] (spShb K) := by
  obtain ⟨f1, fd1, G1, b1, m1, k1⟩ := CT
  obtain ⟨f2, fd2, G2, b2, m2, k2⟩ := CN
  obtain ⟨f3, fd3, G3, b3, m3, k3⟩ := CL
  obtain ⟨f4, fd4, G4, b4, m4, k4⟩ := CS
  refine Fn.ok scShb (fun vs H Q E h => ?_) (fun cdv A outer s H vs Q E hr h => ?_)
  · obtain ⟨fa, xa, ya, za, F, x, a, b, rfl, _⟩ := h
    rfl
  · obtain ⟨fa, xa, ya, za, F, x, a, b, rfl, hF, hX, hY, hZ, F6, TX, TA, TB', ha, hB, k⟩ := h
    refine ⟨_, pss_cons (ps_set (i := 4) scShb.nd rfl (Or.inl rfl) (pe_call G1 hr rfl m1 k1 b1 .nil pass0 (pa_cons (pv 0) (pa_cons (pv 2) (pa_cons (pv 3) pa_nil)))))
      (pss_cons (ps_set (i := 5) scShb.nd rfl (Or.inl rfl) (pe_call G2 hr rfl m2 k2 b2 .nil pass0 (pa_cons (pv 0) (pa_cons (pv 2) pa_nil))))
      (pss_cons (ps_set (i := 6) scShb.nd rfl (Or.inl rfl) (pe_op op_fdivB (pe_op op_sub (pe_op op_mulB (pv 5) (pe_call G1 hr rfl m1 k1 b1 .nil pass0 (pa_cons (pv 0) (pa_cons (pv 3) (pa_cons (pv 1) pa_nil))))) (pe_op op_mulB (pv 4) (pe_call G1 hr rfl m1 k1 b1 .nil pass0 (pa_cons (pv 0) (pa_cons (pv 2) (pa_cons (pv 1) pa_nil))))))
          (pe_op op_sub (pe_op op_mulB (pv 5) (pe_call G2 hr rfl m2 k2 b2 .nil pass0 (pa_cons (pv 0) (pa_cons (pv 3) pa_nil)))) (pe_op op_mulB (pv 4) (pv 4)))))
      (pss_cons (ps_set (i := 7) scShb.nd rfl (Or.inl rfl) (pe_call G4 hr rfl m4 k4 b4 .nil pass0 (pa_cons (pv 0) (pa_cons (pe_call G3 hr rfl m3 k3 b3 .nil pass0 (pa_cons (pv 1) (pa_cons (pv 3) (pa_cons (pv 6) pa_nil)))) (pa_cons (pv 2) pa_nil)))))
      (pss_cons (ps_set (i := 8) scShb.nd rfl (Or.inl rfl) (pe_call G4 hr rfl m4 k4 b4 .nil pass0 (pa_cons (pv 0) (pa_cons (pe_call G3 hr rfl m3 k3 b3 .nil pass0 (pa_cons (pv 1) (pa_cons (pv 3) (pa_cons (pe_op op_add (pv 6) pe_int) pa_nil)))) (pa_cons (pv 2) pa_nil)))))
      (pss_one (ps_ret (pe_ifExp (pt_cmpR op_le (pe_call G2 hr rfl m2 k2 b2 .nil pass0 (pa_cons (pv 0) (pa_cons (pv 7) pa_nil))) (pe_call G2 hr rfl m2 k2 b2 .nil pass0 (pa_cons (pv 0) (pa_cons (pv 8) pa_nil))) (nomark _)) (pv 7) (pv 8)))))))), ?_⟩
    have bab := tm_bt F6 TA TB'
    have baa := N_bt F6 TA
    have bbx := tm_bt F6 TB' TX
    have bax := tm_bt F6 TA TX
    have bbb := N_bt F6 TB'
    have F6' : FB 100000 F := F6.mono (by decide)
    have TX' : TB 100000 x := TX.mono (by decide)
    have TA' : TB 100000 a := TA.mono (by decide)
    have TBB : TB 100000 b := TB'.mono (by decide)
    refine ⟨_, rfl, _, rfl, _, rfl, fa, ya, za, F, a, b, rfl, hF, hY, hZ, F6', TA', TBB, ?_⟩
    refine ⟨_, rfl, _, rfl, fa, ya, F, a, rfl, hF, hY, F6', TA', ?_⟩
    refine ⟨_, rfl, _, rfl, _, rfl, _, rfl, fa, za, xa, F, b, x, rfl, hF, hZ, hX, F6', TBB, TX', _, _, rfl, rfl, mB baa bbx, ?_⟩
    refine ⟨_, rfl, _, rfl, _, rfl, _, rfl, fa, ya, xa, F, a, x, rfl, hF, hY, hX, F6', TA', TX', _, _, rfl, rfl, mB bab bax, _, _, rfl, rfl, ?_⟩
    refine ⟨_, rfl, _, rfl, _, rfl, fa, za, F, b, rfl, hF, hZ, F6', TBB, _, _, rfl, rfl, mB baa bbb, _, rfl, _, rfl, _, _, rfl, rfl, mB bab bab, _, _, rfl, rfl, ?_⟩
    refine ⟨_, _, rfl, rfl, ⟨hB, Nat.le_trans (bits_sub (bits_mul baa bbb) (bits_mul bab bab)) (by decide)⟩, ?_⟩
    have ebel : (F.N a * F.tm b x - F.tm a b * F.tm a x) / (F.N a * F.N b - F.tm a b * F.tm a b) = Ln.bel F x a b := rfl
    have bbel : Bt 2009 (Ln.bel F x a b) := by
      rw [← ebel]
      exact div_bt hB (Nat.le_trans (bits_sub (bits_mul baa bbx) (bits_mul bab bax)) (by decide))
    have bbel1 : Bt 2010 (Ln.bel F x a b + 1) := Nat.le_trans (bits_add bbel bt1) (by decide)
    have tl1 : TB 50000 (Ln.ls x b (Ln.bel F x a b)) := (ls_tb TX TB' bbel (by decide)).mono (by decide)
    have tl2 : TB 50000 (Ln.ls x b (Ln.bel F x a b + 1)) := (ls_tb TX TB' bbel1 (by decide)).mono (by decide)
    have sh_tb : ∀ {u : Ln.T3}, TB 50000 u → TB 100000 (Ln.sh F u a) := fun {u} U => by
      have bT := tm_bt F6 TA U
      exact (ls_tb U TA (div_bt (show 0 < 2 * F.N a by omega) (bits_add (bits_mul bt2 bT) baa)) (by decide)).mono (by decide)
    refine ⟨_, rfl, _, rfl, _, rfl, _, rfl, xa, za, x, b, _, rfl, hX, hZ, Nat.le_trans bbel (by decide), TBB.mono (by decide), fun H1 r1 hr1 s1 => ?_⟩
    refine ⟨_, rfl, fa, r1, ya, F, _, a, rfl, s1.seq hF, SqL.of hr1, s1.seq hY, F6.mono (by decide), tl1, TA.mono (by decide), ha, fun H2 r2 hr2 s2 => ?_⟩
    have s12 := s1.trans s2
    refine ⟨_, rfl, _, rfl, _, rfl, _, rfl, _, _, rfl, rfl, xa, za, x, b, _, rfl, s12.seq hX, s12.seq hZ, Nat.le_trans bbel1 (by decide), TBB.mono (by decide), fun H3 r3 hr3 s3 => ?_⟩
    have s13 := s12.trans s3
    refine ⟨_, rfl, fa, r3, ya, F, _, a, rfl, s13.seq hF, SqL.of hr3, s13.seq hY, F6.mono (by decide), tl2, TA.mono (by decide), ha, fun H4 r4 hr4 s4 => ?_⟩
    have s14 := s13.trans s4
    have h24 : H4 r2 = some (li (l3 (Ln.sb1 F x a b))) := (s3.trans s4) _ _ hr2
    have h44 : H4 r4 = some (li (l3 (Ln.sb2 F x a b))) := hr4
    refine ⟨_, rfl, _, rfl, fa, r2, F, Ln.sb1 F x a b, rfl, s14.seq hF, SqL.of h24, F6', sh_tb tl1, ?_⟩
    refine ⟨_, rfl, _, rfl, fa, r4, F, Ln.sb2 F x a b, rfl, s14.seq hF, SqL.of h44, F6', sh_tb tl2, _, _, rfl, rfl, _, rfl, ?_⟩
    refine ite2 (fun h => ?_) (fun h => ?_)
    · have h' : F.N (Ln.sb1 F x a b) ≤ F.N (Ln.sb2 F x a b) := of_decide_eq_true h
      refine ⟨_, rfl, k H4 r2 ?_ s14⟩
      rw [h24, show Ln.sb F x a b = Ln.sb1 F x a b from if_pos h']
    · have h' : ¬ F.N (Ln.sb1 F x a b) ≤ F.N (Ln.sb2 F x a b) := fun q => h (decide_eq_true q)
      refine ⟨_, rfl, k H4 r4 ?_ s14⟩
      rw [h44, show Ln.sb F x a b = Ln.sb2 F x a b from if_neg h']
end
end Cr
set_option Elab.async false
set_option maxRecDepth 100000
set_option maxHeartbeats 1000000
namespace Cr
open PySem PySem.Spec PyProof.Rows L2
open PySem.W (Codec)
abbrev sBas : Stmt := top 17
abbrev sSfo : Stmt := top 18
/-- the lambda's place and name -/
abbrev lamP : Pos := ⟨47, 34, 47, 59⟩
abbrev lamQ : Str := (Str.ofString "short_basis" ++ Str.ofString ".<locals>.") ++ Str.ofString "<lambda>"
/-- three vectors in a list -/
structure V3 (H : Hp) (r ra rb rc : Addr) (a b c : Ln.T3) : Prop where
  l : H r = some (.lst [V.ref ra, V.ref rb, V.ref rc])
  a : H ra = some (li (l3 a))
  b : H rb = some (li (l3 b))
  c : H rc = some (li (l3 c))
def spBas (K : PySem.W.Frag) (T : Addr) : Sp := fun vs H Q _ => ∃ (fa : Addr) (F : Ln.Fm), vs = [.ref fa] ∧ SqL K H fa ((l6 F).map V.int) ∧ FB 129 F ∧ F.Pos ∧ TabS H T lamP lamQ ∧
  ∀ (H' : Hp) (r ra rb rc : Addr) (a b c : Ln.T3), V3 H' r ra rb rc a b c → Ln.Shrt F a b c → TB 400 a → TB 400 b → TB 400 c → SameB T H H' → Q (.ref r) H'
def spSfo (K : PySem.W.Frag) (T : Addr) : Sp := fun vs H Q _ => ∃ (fa : Addr) (F : Ln.Fm), vs = [.ref fa] ∧ SqL K H fa ((l6 F).map V.int) ∧ FB 129 F ∧ F.Pos ∧ TabS H T lamP lamQ ∧
  ∀ (H' : Hp) (r : Addr) (a b c : Ln.T3), H' r = some (li (l6 (F.gr a b c))) → Ln.Shrt F a b c → FB 1000 (F.gr a b c) → SameB T H H' → Q (.ref r) H'
theorem sqB {K : PySem.W.Frag} {T : Addr} {H H' : Hp} {ps : Array Value} (hT : H T = some (.tbl ps)) (s : SameB T H H') {a : Addr} {xs : List V} (h : SqL K H a xs) : SqL K H' a xs := by
  rcases h with (h | ⟨o, h⟩) | h
  · exact .inl (.inl (s a _ (fun z => by rw [z, hT] at h; cases h) h))
  · exact .inl (.inr ⟨o, s a _ (fun z => by rw [z, hT] at h; cases h) h⟩)
  · exact .inr h
theorem lstB {T : Addr} {H H' : Hp} {ps : Array Value} (hT : H T = some (.tbl ps)) (s : SameB T H H') {a : Addr} {xs : List V} (h : H a = some (.lst xs)) : H' a = some (.lst xs) := s a _ (fun z => by rw [z, hT] at h; cases h) h
theorem V3.sameB {T : Addr} {H H' : Hp} {ps : Array Value} (hT : H T = some (.tbl ps)) (s : SameB T H H') {r ra rb rc : Addr} {a b c : Ln.T3} (h : V3 H r ra rb rc a b c) : V3 H' r ra rb rc a b c := ⟨lstB hT s h.l, lstB hT s h.a, lstB hT s h.b, lstB hT s h.c⟩
theorem V3.same {H H' : Hp} (s : Same H H') {r ra rb rc : Addr} {a b c : Ln.T3} (h : V3 H r ra rb rc a b c) : V3 H' r ra rb rc a b c := ⟨s _ _ h.l, s _ _ h.a, s _ _ h.b, s _ _ h.c⟩
/-! ### permutations of three -/
theorem perm2 {α : Type} {y z b c : α} (h : [y, z].Perm [b, c]) : (y = b ∧ z = c) ∨ (y = c ∧ z = b) := by
  have hy : y ∈ [b, c] := h.mem_iff.mp (List.mem_cons_self ..)
  rcases List.mem_cons.mp hy with rfl | hy
  · exact .inl ⟨rfl, by
      have := (List.perm_cons y).mp h
      exact List.mem_singleton.mp (this.mem_iff.mp (List.mem_cons_self ..))⟩
  · obtain rfl := List.mem_singleton.mp hy
    refine .inr ⟨rfl, ?_⟩
    have h' := h.trans (List.Perm.swap y b [])
    have := (List.perm_cons y).mp h'
    exact List.mem_singleton.mp (this.mem_iff.mp (List.mem_cons_self ..))
theorem perm3 {α : Type} {x y z a b c : α} (h : [x, y, z].Perm [a, b, c]) : (x = a ∧ y = b ∧ z = c) ∨ (x = a ∧ y = c ∧ z = b) ∨ (x = b ∧ y = a ∧ z = c) ∨ (x = b ∧ y = c ∧ z = a) ∨ (x = c ∧ y = a ∧ z = b) ∨ (x = c ∧ y = b ∧ z = a) := by
  have hx : x ∈ [a, b, c] := h.mem_iff.mp (List.mem_cons_self ..)
  rcases List.mem_cons.mp hx with rfl | hx
  · rcases perm2 ((List.perm_cons x).mp h) with ⟨rfl, rfl⟩ | ⟨rfl, rfl⟩
    · exact .inl ⟨rfl, rfl, rfl⟩
    · exact .inr (.inl ⟨rfl, rfl, rfl⟩)
  · rcases List.mem_cons.mp hx with rfl | hx
    · rcases perm2 ((List.perm_cons x).mp (h.trans (List.Perm.swap x a [c]))) with ⟨rfl, rfl⟩ | ⟨rfl, rfl⟩
      · exact .inr (.inr (.inl ⟨rfl, rfl, rfl⟩))
      · exact .inr (.inr (.inr (.inl ⟨rfl, rfl, rfl⟩)))
    · obtain rfl := List.mem_singleton.mp hx
      have p : [a, b, x].Perm [x, a, b] := ((List.Perm.swap x b []).cons a).trans (List.Perm.swap x a [b])
      rcases perm2 ((List.perm_cons x).mp (h.trans p)) with ⟨rfl, rfl⟩ | ⟨rfl, rfl⟩
      · exact .inr (.inr (.inr (.inr (.inl ⟨rfl, rfl, rfl⟩))))
      · exact .inr (.inr (.inr (.inr (.inr ⟨rfl, rfl, rfl⟩))))
/-- the length of what stands at an address -/
def gOf (F : Ln.Fm) (H : Hp) (x : Addr) : Int := match H x with
  | some (.lst [.int p, .int q, .int r]) => F.N (p, q, r)
  | _ => 0
theorem gOf_at {F : Ln.Fm} {H : Hp} {x : Addr} {u : Ln.T3} (h : H x = some (li (l3 u))) : gOf F H x = F.N u := by
  unfold gOf
  rw [h]
  rfl
/-- three vectors, and how they are sorted -/
theorem sorted3 {F : Ln.Fm} {H : Hp} {ra rb rc : Addr} {u v w : Ln.T3} {as' : List Addr} (hu : H ra = some (li (l3 u))) (hv : H rb = some (li (l3 v))) (hw : H rc = some (li (l3 w))) (ho : Ln.One u v w) (hp : as'.Perm [ra, rb, rc]) (hs : as'.Pairwise fun a b => gOf F H a ≤ gOf F H b) {L : Int} (bu : F.N u ≤ L) (bv : F.N v ≤ L) (bw : F.N w ≤ L) :
    ∃ (x y z : Addr) (a b c : Ln.T3), as' = [x, y, z] ∧ H x = some (li (l3 a)) ∧ H y = some (li (l3 b)) ∧ H z = some (li (l3 c)) ∧ Ln.One a b c ∧ F.N a ≤ F.N b ∧ F.N b ≤ F.N c ∧ F.N c ≤ L ∧ F.N a + F.N b + F.N c = F.N u + F.N v + F.N w := by
  obtain ⟨x, y, z, rfl⟩ : ∃ x y z, as' = [x, y, z] := by
    match as', hp.length_eq with
    | [x, y, z], _ => exact ⟨x, y, z, rfl⟩
  have h1 := List.pairwise_cons.mp hs
  have hxy := h1.1 y (List.mem_cons_self ..)
  have hyz := (List.pairwise_cons.mp h1.2).1 z (List.mem_cons_self ..)
  rcases perm3 hp with ⟨rfl, rfl, rfl⟩ | ⟨rfl, rfl, rfl⟩ | ⟨rfl, rfl, rfl⟩ | ⟨rfl, rfl, rfl⟩ | ⟨rfl, rfl, rfl⟩ | ⟨rfl, rfl, rfl⟩
  · rw [gOf_at hu, gOf_at hv] at hxy
    rw [gOf_at hv, gOf_at hw] at hyz
    exact ⟨_, _, _, u, v, w, rfl, hu, hv, hw, ho, hxy, hyz, bw, by omega⟩
  · rw [gOf_at hu, gOf_at hw] at hxy
    rw [gOf_at hw, gOf_at hv] at hyz
    exact ⟨_, _, _, u, w, v, rfl, hu, hw, hv, ho.rot, hxy, hyz, bv, by omega⟩
  · rw [gOf_at hv, gOf_at hu] at hxy
    rw [gOf_at hu, gOf_at hw] at hyz
    exact ⟨_, _, _, v, u, w, rfl, hv, hu, hw, ho.swap, hxy, hyz, bw, by omega⟩
  · rw [gOf_at hv, gOf_at hw] at hxy
    rw [gOf_at hw, gOf_at hu] at hyz
    exact ⟨_, _, _, v, w, u, rfl, hv, hw, hu, ho.swap.rot, hxy, hyz, bu, by omega⟩
  · rw [gOf_at hw, gOf_at hu] at hxy
    rw [gOf_at hu, gOf_at hv] at hyz
    exact ⟨_, _, _, w, u, v, rfl, hw, hu, hv, ho.rot.swap, hxy, hyz, bv, by omega⟩
  · rw [gOf_at hw, gOf_at hv] at hxy
    rw [gOf_at hv, gOf_at hu] at hyz
    exact ⟨_, _, _, w, v, u, rfl, hw, hv, hu, ho.rot.swap.rot, hxy, hyz, bu, by omega⟩
/-- short vectors have few bits -/
theorem bt_le {a b : Int} {n : Nat} (h0 : 0 ≤ a) (h : a ≤ b) (hb : Bt n b) : Bt n a := bits_of_natAbs_le (by omega) hb
theorem sq_bt {x C N D : Int} {n : Nat} (hD : 0 < D) (h : D * (x * x) ≤ C * N) (hb : Bt n (C * N)) : Bt n x := by
  have h1 := Ln.sq_nonneg x
  have h2 : 1 * (x * x) ≤ D * (x * x) := Int.mul_le_mul_of_nonneg_right hD h1
  refine bits_of_natAbs_le ?_ hb
  by_cases hx : x = 0
  · subst hx
    simp
  · have h3 : x.natAbs ≤ x.natAbs * x.natAbs := Nat.le_mul_of_pos_left _ (by omega)
    have h4 := Int.natAbs_mul_self' x
    have h5 : ((x.natAbs * x.natAbs : Nat) : Int) = x * x := by rw [Int.natCast_mul]; exact h4
    omega
theorem tb_of {F : Ln.Fm} (P : F.Pos) (F6 : FB 129 F) {t : Ln.T3} {L : Int} (hL : Bt 135 L) (h : F.N t ≤ L) : TB 400 t := by
  have h0 : 0 ≤ F.N t := Ln.ps_nn P _ _ _
  have bN : Bt 135 (F.N t) := bt_le h0 h hL
  have hD := Ln.ps_dt P
  have c1 : Bt 400 ((F.b * F.c - F.d * F.d) * F.N t) := Nat.le_trans (bits_mul (bits_sub (bits_mul F6.b F6.c) (bits_mul F6.d F6.d)) bN) (by decide)
  have c2 : Bt 400 ((F.a * F.c - F.e * F.e) * F.N t) := Nat.le_trans (bits_mul (bits_sub (bits_mul F6.a F6.c) (bits_mul F6.e F6.e)) bN) (by decide)
  have c3 : Bt 400 ((F.a * F.b - F.f * F.f) * F.N t) := Nat.le_trans (bits_mul (bits_sub (bits_mul F6.a F6.b) (bits_mul F6.f F6.f)) bN) (by decide)
  exact ⟨sq_bt hD (Ln.bd_x P t.1 t.2.1 t.2.2) c1, sq_bt hD (Ln.bd_y P t.1 t.2.1 t.2.2) c2, sq_bt hD (Ln.bd_z P t.1 t.2.1 t.2.2) c3⟩
section
variable {P : Program} {w : World} {K : PySem.W.Frag} {mg : Str → Option Value} {base : Heap}
/-- a def whose code is known -/
theorem fn_okC {x qual : Str} {st : Stmt} {f c : Addr} {oc : Value} {od an : Option Addr} {osl : Array (Option Value)} {kV doc pm ct : Value} {N ps : List Str} {k : Nat} {sp : Sp} (l : K.lookup f = some ⟨oc, od, .func (PySem.W.fnOf x qual (defArgs st) (defBody st) (defScope st) .none kV doc pm an (.ref c) ct), osl⟩)
    (hcd : PySem.W.codeIn K (.ref c) qual = true) (S : FnScope N ps (defScope st)) (len : ∀ vs H Q E, sp vs H Q E → vs.length = ps.length)
    (hbody : ∀ (A : Around) (outer : List Env) (s : Shared) (H : Hp) (vs : List V) (Q : VK) (E : XK), Room k (A.deeper (envOfC qual (defScope st) s.heap.objs.size f (.ref c))) → sp vs H Q E →
      ∃ t, PSs (cxOf CX0 P w K mg base N qual (defScope st) f (.ref c) A outer s H E).nox (defBody st) t ∧ t { nx := fun _ H' => Q .non H', rt := Q } (start N vs) H) : FnOk P w K mg base CX0 (k + 1) f (PySem.W.fnOf x qual (defArgs st) (defBody st) (defScope st) .none kV doc pm an (.ref c) ct) ps sp := by
  refine fn_of l hcd S len fun A outer s H vs Q E hr hsp => ?_
  obtain ⟨t, h, q⟩ := hbody A outer s H vs Q E hr hsp
  exact ⟨t, h.nox, q⟩
theorem scBas : FnScope ["form", "found", "a", "b", "c"] ["form"] (defScope sBas) := ⟨rfl, rfl, rfl, by decide +kernel, rfl, by decide +kernel, by decide +kernel⟩
theorem only_form (y : Str) (h : (([(xN, NameKind.local), (formN, NameKind.free), (Str.ofString "length", NameKind.globalImplicit)] : List (Str × NameKind)).lookup y = some .cell ∨ ([(xN, NameKind.local), (formN, NameKind.free), (Str.ofString "length", NameKind.globalImplicit)] : List (Str × NameKind)).lookup y = some .free)) : y = formN := by
  simp only [List.lookup_cons, List.lookup_nil] at h
  cases h1 : y == xN with
  | true =>
    rw [h1] at h
    rcases h with z | z <;> cases z
  | false =>
    rw [h1] at h
    cases h2 : y == formN with
    | true => exact eq_of_beq h2
    | false =>
      rw [h2] at h
      cases h3 : y == Str.ofString "length" with
      | true =>
        rw [h3] at h
        rcases h with z | z <;> cases z
      | false =>
        rw [h3] at h
        rcases h with z | z <;> cases z
abbrev lamN : List (Str × NameKind) := [(xN, NameKind.local), (formN, NameKind.free), (Str.ofString "length", NameKind.globalImplicit)]
theorem lam_free (n : Nat) : ∀ y ∈ lamN, y.2 = NameKind.free → ∃ c, (PySem.cellsFrom (n + 1) (defScope sBas).names []).lookup y.1 = some c := by
  intro y hy hf
  rcases List.mem_cons.mp hy with rfl | hy
  · cases hf
  · rcases List.mem_cons.mp hy with rfl | hy
    · exact ⟨_, rfl⟩
    · rcases List.mem_cons.mp hy with rfl | hy
      · cases hf
      · cases hy
theorem pe_unit {X : Cx} {i j k : Int} {p q r : Nat} {p1 p2 p3 pos : Pos} : PE X (.List [.Constant (.int i) p p1, .Constant (.int j) q p2, .Constant (.int k) r p3] pos) (tLst (tCons (tC (.int i)) (tCons (tC (.int j)) (tCons (tC (.int k)) tNil)))) := pe_lst (pa_cons pe_int (pa_cons pe_int (pa_cons pe_int pa_nil)))
def NoStar (e : Expr) : Prop := ∀ (es : List Expr) (env : Env), starEach (e :: es) env = (false, eval e env) :: starEach es env
theorem ns_list (es : List Expr) (pos : Pos) : NoStar (.List es pos) := fun _ _ => rfl
theorem pe_lst3 {X : Cx} {e1 e2 e3 : Expr} {t1 t2 t3 : TE} {pos : Pos} (h1 : PE X e1 t1) (h2 : PE X e2 t2) (h3 : PE X e3 t3) (n1 : NoStar e1) (n2 : NoStar e2) (n3 : NoStar e3) : PE X (.List [e1, e2, e3] pos) (tLst (tCons t1 (tCons t2 (tCons t3 tNil)))) := pe_lst (pa_cons h1 (pa_cons h2 (pa_cons h3 pa_nil (n3 _ _)) (n2 _ _)) (n1 _ _))
abbrev tU (a b c : Int) : TE := tLst (tCons (tC (.int a)) (tCons (tC (.int b)) (tCons (tC (.int c)) tNil)))
/-- the loop's invariant and measure -/
def BW (F : Ln.Fm) (fa T : Addr) (H : Hp) (m : Nat) (σ : L2.St) (H' : Hp) : Prop := ∃ (rf ra rb rc : Addr) (u v w : Ln.T3) (va vb vc : Option V), σ = [some (.ref fa), some (.ref rf), va, vb, vc] ∧ V3 H' rf ra rb rc u v w ∧ Ln.One u v w ∧
  F.N u ≤ F.a + F.b + F.c ∧ F.N v ≤ F.a + F.b + F.c ∧ F.N w ≤ F.a + F.b + F.c ∧ TabS H' T lamP lamQ ∧ SameB T H H' ∧ m = (F.N u + F.N v + F.N w).toNat
/-- the first row by its pieces -/
@[irreducible] def asV (i : Nat) : Expr := match defBody sBas with
  | .Assign _ (.List es _) _ :: _ => es.getD i (.Constant .none 0 ⟨0, 0, 0, 0⟩)
  | _ => .Constant .none 0 ⟨0, 0, 0, 0⟩
@[irreducible] def asP1 : Pos := match defBody sBas with
  | .Assign [.Name _ p] _ _ :: _ => p
  | _ => ⟨0, 0, 0, 0⟩
@[irreducible] def asP2 : Pos := match defBody sBas with
  | .Assign _ (.List _ p) _ :: _ => p
  | _ => ⟨0, 0, 0, 0⟩
@[irreducible] def asP3 : Pos := match defBody sBas with
  | .Assign _ _ p :: _ => p
  | _ => ⟨0, 0, 0, 0⟩
def whl : Stmt := (defBody sBas).getD 1 (.Pass ⟨0, 0, 0, 0⟩)
theorem body_eq : defBody sBas = [.Assign [.Name (Str.ofString "found") asP1] (.List [asV 0, asV 1, asV 2] asP2) asP3, whl] := by kernel_rfl
theorem ns_as (i : Nat) (hi : i < 3) : NoStar (asV i) := by
  match i, hi with
  | 0, _ => with_unfolding_all exact ns_list _ _
  | 1, _ => with_unfolding_all exact ns_list _ _
  | 2, _ => with_unfolding_all exact ns_list _ _
theorem as0 {X : Cx} : PE X (asV 0) (tU 1 0 0) := by with_unfolding_all exact pe_unit
theorem as1 {X : Cx} : PE X (asV 1) (tU 0 1 0) := by with_unfolding_all exact pe_unit
theorem as2 {X : Cx} : PE X (asV 2) (tU 0 0 1) := by with_unfolding_all exact pe_unit
theorem sw_lst {es : List Expr} {p : Pos} {tg : Option Expr} {l : Nat} {env : Env} : swapsWith (.List es p) tg l env = pure false := rfl
@[irreducible] def tFirst : TE := tLst (tCons (tU 1 0 0) (tCons (tU 0 1 0) (tCons (tU 0 0 1) tNil)))
theorem pe_first {X : Cx} : PE X (.List [asV 0, asV 1, asV 2] asP2) tFirst := by
  unfold tFirst
  refine pe_lst3 ?h1 ?h2 ?h3 ?n1 ?n2 ?n3
  case h1 => exact as0
  case h2 => exact as1
  case h3 => exact as2
  case n1 => exact ns_as 0 (by decide)
  case n2 => exact ns_as 1 (by decide)
  case n3 => exact ns_as 2 (by decide)
theorem tFirst_of {σ : L2.St} {H : Hp} {Q : VK} (h : ∀ ra, H ra = none → ∀ rb, upd H ra (li (l3 (1, 0, 0))) rb = none → ∀ rc, upd (upd H ra (li (l3 (1, 0, 0)))) rb (li (l3 (0, 1, 0))) rc = none → ∀ rf, upd (upd (upd H ra (li (l3 (1, 0, 0)))) rb (li (l3 (0, 1, 0)))) rc (li (l3 (0, 0, 1))) rf = none →
    Q (.ref rf) (upd (upd (upd (upd H ra (li (l3 (1, 0, 0)))) rb (li (l3 (0, 1, 0)))) rc (li (l3 (0, 0, 1)))) rf (.lst [V.ref ra, V.ref rb, V.ref rc]))) : tFirst σ H Q := by
  unfold tFirst
  have s3 : 3 ≤ sizeLine := small (by decide)
  exact ⟨s3, fun ra na => ⟨s3, fun rb nb => ⟨s3, fun rc nc => ⟨s3, fun rf nf => h ra na rb nb rc nc rf nf⟩⟩⟩⟩
theorem ps_first {X : Cx} (hN : X.N.Nodup) (hi : X.N[1]? = some (Str.ofString "found")) (hx : Loc X.env.scope (Str.ofString "found")) (hf : X.fn (Str.ofString "found") = true ∨ X.env.scope.names.lookup (Str.ofString "found") = some .local) : PS X (.Assign [.Name (Str.ofString "found") asP1] (.List [asV 0, asV 1, asV 2] asP2) asP3) (tAsg tFirst (gName 1)) := ps_set hN hi hx pe_first sw_lst hf
theorem one0 : Ln.One (1, 0, 0) (0, 1, 0) (0, 0, 1) := .inl (by decide)
theorem ok_bas {f c T : Addr} {oc : Value} {od an : Option Addr} {osl : Array (Option Value)} {kV doc pm ct : Value} (l : K.lookup f = some ⟨oc, od, .func (PySem.W.fnOf "short_basis" "short_basis" (defArgs sBas) (defBody sBas) (defScope sBas) .none kV doc pm an (.ref c) ct), osl⟩)
    (hcd : PySem.W.codeIn K (.ref c) "short_basis" = true) (TX : TxtL mg) (LB : LamB mg base c T) (CN2 : Cal P w K mg base 2 "length" ["form", "x"] (spLen K)) (CN : Cal P w K mg base 5 "length" ["form", "x"] (spLen K)) (CS : Cal P w K mg base 5 "shortened" ["form", "x", "a"] (spSho K)) (CB : Cal P w K mg base 5 "shortened_by_both" ["form", "x", "a", "b"] (spShb K)) :
    FnOk P w K mg base CX0 6 f (PySem.W.fnOf "short_basis" "short_basis" (defArgs sBas) (defBody sBas) (defScope sBas) .none kV doc pm an (.ref c) ct) ["form"] (spBas K T) := by
  obtain ⟨f0, fd0, G0, b0, m0, k0⟩ := CN2
  obtain ⟨f1, fd1, G1, b1, m1, k1⟩ := CN
  obtain ⟨f2, fd2, G2, b2, m2, k2⟩ := CS
  obtain ⟨f3, fd3, G3, b3, m3, k3⟩ := CB
  refine fn_okC (st := sBas) l hcd scBas (fun vs H Q E h => ?_) (fun A outer s H vs Q E hr h => ?_)
  · obtain ⟨fa, F, rfl, _⟩ := h
    rfl
  · obtain ⟨fa, F, rfl, hF, F6, hP, hT, k⟩ := h
    rw [body_eq]
    refine ⟨_, pss_cons (ps_first scBas.nd rfl (Or.inl rfl) (.inl rfl))
      (pss_one (ps_while PassesOwn.never (pt_val pe_bl)
        (pss_cons (ps_set (i := 1) scBas.nd rfl (Or.inl rfl) (pe_sortk (by rfl) TX.sorted PyProof.Rows.boot_sorted (pa_cons (pv 1) pa_nil) (pk_cons (pe_lam (T := T) (qual := lamQ) rfl rfl LB rfl (lam_free _)) pk_nil)))
        (pss_cons (ps_set (i := 2) scBas.nd rfl (Or.inl rfl) (pe_ix ix_list (pv 1) pe_int (fun _ _ => rfl)))
        (pss_cons (ps_set (i := 3) scBas.nd rfl (Or.inl rfl) (pe_call G2 hr rfl m2 k2 b2 .nil pass0 (pa_cons (pv 0) (pa_cons (pe_ix ix_list (pv 1) pe_int (fun _ _ => rfl)) (pa_cons (pv 2) pa_nil)))))
        (pss_cons (ps_set (i := 4) scBas.nd rfl (Or.inl rfl) (pe_ix ix_list (pv 1) pe_int (fun _ _ => rfl)))
        (pss_cons (ps_if (pt_cmpR op_ge (pe_call G1 hr rfl m1 k1 b1 .nil pass0 (pa_cons (pv 0) (pa_cons (pv 3) pa_nil))) (pe_call G1 hr rfl m1 k1 b1 .nil pass0 (pa_cons (pv 0) (pa_cons (pv 2) pa_nil))) (nomark _))
          (pss_cons (ps_set (i := 4) scBas.nd rfl (Or.inl rfl) (pe_call G3 hr rfl m3 k3 b3 .nil pass0 (pa_cons (pv 0) (pa_cons (pv 4) (pa_cons (pv 2) (pa_cons (pv 3) pa_nil))))))
          (pss_one (ps_if (pt_cmpR op_ge (pe_call G1 hr rfl m1 k1 b1 .nil pass0 (pa_cons (pv 0) (pa_cons (pv 4) pa_nil))) (pe_call G1 hr rfl m1 k1 b1 .nil pass0 (pa_cons (pv 0) (pa_cons (pv 3) pa_nil))) (nomark _))
            (pss_one (ps_ret (pe_lst (pa_cons (pv 2) (pa_cons (pv 3) (pa_cons (pv 4) pa_nil)))))) pss_nil))) pss_nil)
        (pss_one (ps_set (i := 1) scBas.nd rfl (Or.inl rfl) (pe_lst (pa_cons (pv 2) (pa_cons (pv 3) (pa_cons (pv 4) pa_nil))))))))))))), ?read⟩
    case read =>
      have s3 : 3 ≤ sizeLine := small (by decide)
      obtain ⟨ps0, hT0⟩ := hT.tbl
      have hLb : Bt 135 (F.a + F.b + F.c) := Nat.le_trans (bits_add (bits_add F6.a F6.b) F6.c) (by decide)
      have hLb3 : Bt 135 (F.a + F.b + F.c + (F.a + F.b + F.c) + (F.a + F.b + F.c)) := by
        have h1 := bits_add (bits_add F6.a F6.b) F6.c
        exact Nat.le_trans (bits_add (bits_add h1 h1) h1) (by decide)
      have ea : F.N (1, 0, 0) = F.a := by
        unfold Ln.Fm.N Ln.nf
        simp
      have eb : F.N (0, 1, 0) = F.b := by
        unfold Ln.Fm.N Ln.nf
        simp
      have ec : F.N (0, 0, 1) = F.c := by
        unfold Ln.Fm.N Ln.nf
        simp
      have pa := Ln.ps_a hP
      have pb := Ln.ps_b hP
      have pc := Ln.ps_c hP
      refine tFirst_of fun ra na rb nb rc nc rf nf => ?_
      have sa := Same.upd (o := li (l3 (1, 0, 0))) na
      have sb := Same.upd (o := li (l3 (0, 1, 0))) nb
      have sc := Same.upd (o := li (l3 (0, 0, 1))) nc
      have sf := Same.upd (o := HO.lst [V.ref ra, V.ref rb, V.ref rc]) nf
      have sAll := ((sa.trans sb).trans sc).trans sf
      refine ⟨BW F fa T H, ⟨_, rf, ra, rb, rc, (1, 0, 0), (0, 1, 0), (0, 0, 1), none, none, none, rfl, ⟨upd_same, sf _ _ (sc _ _ (sb _ _ upd_same)), sf _ _ (sc _ _ upd_same), sf _ _ upd_same⟩, one0, by rw [ea]; omega, by rw [eb]; omega, by rw [ec]; omega, hT.same sAll, sAll.but, rfl⟩, ?_⟩
      rintro m σ H1 ⟨rf, ra, rb, rc, u, v, w', va, vb, vc, rfl, VV, ho, bu, bv, bw, hT1, sB1, rfl⟩
      refine ⟨_, rfl, ?_⟩
      show (if true = true then _ else _)
      rw [if_pos rfl]
      refine ⟨fun σ' H' => ∃ m', m' < (F.N u + F.N v + F.N w').toNat ∧ BW F fa T H m' σ' H', fun σ' H' h => h, ?_⟩
      obtain ⟨ps1, hT1'⟩ := hT1.tbl
      refine ⟨_, rfl, hT1, fun H2 fl c' ctv sB2 tF hfl => ?_⟩
      have V2 := VV.sameB hT1' sB2
      have sB12 := sB1.trans sB2
      have hF2 : SqL K H2 fa ((l6 F).map V.int) := sqB hT0 sB12 hF
      have tU' : ∀ {t : Ln.T3}, F.N t ≤ F.a + F.b + F.c → TB 400 t := fun h => tb_of hP F6 hLb h
      refine ⟨rf, fl, [ra, rb, rc], gOf F H2, rfl, rfl, V2.l, by show 2 ≤ 3; decide, by show 3 < 64; decide, ?key, fun H3 D as' sm3 hD pm so => ?rest⟩
      case key =>
        refine key_lam (scope := _) (qual := lamQ) (c' := c') (fa := fa) rfl hr.depth rfl rfl rfl (by decide +kernel) rfl rfl only_form rfl rfl rfl rfl (.inr (.inl rfl)) rfl (fun v => rfl) hfl tF.2 fun s' H' a ha sm => ?_
        refine ⟨_, pe_call G0 (hr.in1.in1.deeper _) rfl m0 k0 b0 .nil pass0 (pa_cons (pv 1) (pa_cons (pv 0) pa_nil)), ?_⟩
        have hF' : SqL K H' fa ((l6 F).map V.int) := sm.seq hF2
        have go : ∀ t : Ln.T3, H2 a = some (li (l3 t)) → F.N t ≤ F.a + F.b + F.c → (tCall (spLen K) [] E0 (tCons (tVar 1) (tCons (tVar 0) tNil))) [some (V.ref a), some (V.ref fa)] H' (fun v H'' => v = .int (gOf F H2 a) ∧ H'' = H') := fun t ht hb => by
          refine ⟨_, rfl, _, rfl, fa, a, F, t, rfl, hF', SqL.of (sm _ _ ht), F6.mono (by decide), (tU' hb).mono (by decide), ?_, rfl⟩
          rw [gOf_at ht]
        rcases List.mem_cons.mp ha with rfl | ha
        · exact go u V2.a bu
        · rcases List.mem_cons.mp ha with rfl | ha
          · exact go v V2.b bv
          · have e := List.mem_singleton.mp ha
            subst e
            exact go w' V2.c bw
      case rest =>
        obtain ⟨x, y, z, a, b, c0, rfl, hx, hy, hz, ho', hab, hbc, hcL, hsum⟩ := sorted3 V2.a V2.b V2.c ho pm so bu bv bw
        have hx3 := sm3 _ _ hx
        have hy3 := sm3 _ _ hy
        have hz3 := sm3 _ _ hz
        have hF3 : SqL K H3 fa ((l6 F).map V.int) := sm3.seq hF2
        have na' : 0 < F.N a := ho'.pa hP
        have hT3 : TabS H3 T lamP lamQ := .inr ⟨c', sm3 _ _ tF.1, sm3 _ _ tF.2⟩
        have sB3 : SameB T H H3 := sB12.trans sm3.but
        refine ⟨_, rfl, D, _, _, _, rfl, rfl, SqL.of hD, at_of (j := 0) rfl rfl, ?_⟩
        refine ⟨_, rfl, _, rfl, D, _, _, _, rfl, rfl, SqL.of hD, at_of (j := 1) rfl rfl, _, rfl, fa, y, x, F, b, a, rfl, hF3, SqL.of hy3, SqL.of hx3, F6.mono (by decide), (tU' (by omega)).mono (by decide), (tU' (by omega)).mono (by decide), na', fun H4 r4 hr4 s4 => ?_⟩
        have hshb : F.N (Ln.sh F b a) ≤ F.N b := Ln.sh_le na'
        have ho4 : Ln.One a (Ln.sh F b a) c0 := ho'.b _
        have nb4 : 0 < F.N (Ln.sh F b a) := ho4.swap.pa hP
        have nc4 : 0 < F.N c0 := ho4.rot.swap.pa hP
        have hF4 : SqL K H4 fa ((l6 F).map V.int) := s4.seq hF3
        refine ⟨_, rfl, D, _, _, _, rfl, rfl, SqL.of (s4 _ _ hD), at_of (j := 2) rfl rfl, ?_⟩
        refine ⟨_, rfl, _, rfl, fa, r4, F, Ln.sh F b a, rfl, hF4, SqL.of hr4, F6.mono (by decide), (tU' (by omega)).mono (by decide), ?_⟩
        refine ⟨_, rfl, _, rfl, fa, x, F, a, rfl, hF4, SqL.of (s4 _ _ hx3), F6.mono (by decide), (tU' (by omega)).mono (by decide), _, _, rfl, rfl, _, rfl, ?_⟩
        refine ite2 (fun h => ?_) (fun h => ?_)
        · have h' : F.N a ≤ F.N (Ln.sh F b a) := of_decide_eq_true h
          have hpl := Ln.plane hP ho4
          refine ⟨_, rfl, _, rfl, _, rfl, _, rfl, fa, z, x, r4, F, c0, a, Ln.sh F b a, rfl, hF4, SqL.of (s4 _ _ hz3), SqL.of (s4 _ _ hx3), SqL.of hr4, F6.mono (by decide), tU' (by omega), tU' (by omega), tU' (by omega), na', hpl, fun H5 r5 hr5 s5 => ?_⟩
          have hsb := Ln.sb_le hP ho4
          have ho5 : Ln.One a (Ln.sh F b a) (Ln.sb F c0 a (Ln.sh F b a)) := Ln.sb_one ho4
          have nc5 : 0 < F.N (Ln.sb F c0 a (Ln.sh F b a)) := ho5.rot.swap.pa hP
          have T5 : TB 400 (Ln.sb F c0 a (Ln.sh F b a)) := tb_of hP F6 hLb3 (by omega)
          have hF5 : SqL K H5 fa ((l6 F).map V.int) := s5.seq hF4
          refine ⟨_, rfl, _, rfl, fa, r5, F, Ln.sb F c0 a (Ln.sh F b a), rfl, hF5, SqL.of hr5, F6.mono (by decide), T5.mono (by decide), ?_⟩
          refine ⟨_, rfl, _, rfl, fa, r4, F, Ln.sh F b a, rfl, hF5, SqL.of (s5 _ _ hr4), F6.mono (by decide), (tU' (by omega)).mono (by decide), _, _, rfl, rfl, _, rfl, ?_⟩
          refine ite2 (fun h2 => ?_) (fun h2 => ?_)
          · have h2' : F.N (Ln.sh F b a) ≤ F.N (Ln.sb F c0 a (Ln.sh F b a)) := of_decide_eq_true h2
            refine ⟨_, rfl, _, rfl, _, rfl, s3, fun r nr => ?_⟩
            have sr := Same.upd (o := HO.lst [V.ref x, V.ref r4, V.ref r5]) nr
            have s45 := s4.trans s5
            refine k _ r x r4 r5 a (Ln.sh F b a) (Ln.sb F c0 a (Ln.sh F b a)) ⟨upd_same, sr _ _ (s45 _ _ hx3), sr _ _ (s5 _ _ hr4), sr _ _ hr5⟩ ⟨ho5, Ln.flat na' h' (Ln.sh_half na').1 (Ln.sh_half na').2, Ln.red_sb na' h' hpl h2'⟩ (tU' (by omega)) (tU' (by omega)) T5 (sB3.trans ((s45.trans sr).but))
          · have h2' : ¬ F.N (Ln.sh F b a) ≤ F.N (Ln.sb F c0 a (Ln.sh F b a)) := fun q => h2 (decide_eq_true q)
            refine ⟨_, rfl, _, rfl, _, rfl, s3, fun r nr => ?_⟩
            have sr := Same.upd (o := HO.lst [V.ref x, V.ref r4, V.ref r5]) nr
            have s45 := (s4.trans s5).trans sr
            exact ⟨_, by omega, r, x, r4, r5, a, Ln.sh F b a, Ln.sb F c0 a (Ln.sh F b a), _, _, _, rfl, ⟨upd_same, s45 _ _ hx3, sr _ _ (s5 _ _ hr4), sr _ _ hr5⟩, ho5, by omega, by omega, by omega, hT3.same s45, sB3.trans s45.but, rfl⟩
        · have h' : ¬ F.N a ≤ F.N (Ln.sh F b a) := fun q => h (decide_eq_true q)
          refine ⟨_, rfl, _, rfl, _, rfl, s3, fun r nr => ?_⟩
          have sr := Same.upd (o := HO.lst [V.ref x, V.ref r4, V.ref z]) nr
          have s4r := s4.trans sr
          exact ⟨_, by omega, r, x, r4, z, a, Ln.sh F b a, c0, _, _, _, rfl, ⟨upd_same, s4r _ _ hx3, sr _ _ hr4, s4r _ _ hz3⟩, ho4, by omega, by omega, by omega, hT3.same s4r, sB3.trans s4r.but, rfl⟩
end
end Cr
set_option Elab.async false
set_option maxRecDepth 100000
set_option maxHeartbeats 1000000
namespace Cr
open PySem PySem.Spec PyProof.Rows L2
open PySem.W (Codec)
abbrev sWal : Stmt := top 19
abbrev sFit : Stmt := top 20
abbrev sLil : Stmt := top 21
abbrev sCrd : Stmt := top 22
section
variable {P : Program} {w : World} {K : PySem.W.Frag} {mg : Str → Option Value} {base : Heap}
/-! ### short_form -/
theorem scSfo : FnScope ["form", "found", "a", "b", "c"] ["form"] (defScope sSfo) := ⟨rfl, rfl, rfl, by decide +kernel, rfl, by decide +kernel, by decide +kernel⟩
theorem ok_sfo {f T : Addr} {fd : FuncData} (Fn : Fun K "short_form" "short_form" sSfo f fd) (CB : Cal P w K mg base 6 "short_basis" ["form"] (spBas K T)) (CN : Cal P w K mg base 6 "length" ["form", "x"] (spLen K)) (CT : Cal P w K mg base 6 "times" ["form", "x", "y"] (spTim K)) :
    FnOk P w K mg base CX0 7 f fd ["form"] (spSfo K T) := by
  obtain ⟨f1, fd1, G1, b1, m1, k1⟩ := CB
  obtain ⟨f2, fd2, G2, b2, m2, k2⟩ := CN
  obtain ⟨f3, fd3, G3, b3, m3, k3⟩ := CT
  refine Fn.ok scSfo (fun vs H Q E h => ?_) (fun cdv A outer s H vs Q E hr h => ?_)
  · obtain ⟨fa, F, rfl, _⟩ := h
    rfl
  · obtain ⟨fa, F, rfl, hF, F6, hP, hT, k⟩ := h
    refine ⟨_, pss_cons (ps_set (i := 1) scSfo.nd rfl (Or.inl rfl) (pe_call G1 hr rfl m1 k1 b1 .nil pass0 (pa_cons (pv 0) pa_nil)))
      (pss_cons (ps_set (i := 2) scSfo.nd rfl (Or.inl rfl) (pe_ix ix_list (pv 1) pe_int (fun _ _ => rfl)))
      (pss_cons (ps_set (i := 3) scSfo.nd rfl (Or.inl rfl) (pe_ix ix_list (pv 1) pe_int (fun _ _ => rfl)))
      (pss_cons (ps_set (i := 4) scSfo.nd rfl (Or.inl rfl) (pe_ix ix_list (pv 1) pe_int (fun _ _ => rfl)))
      (pss_one (ps_ret (pe_lst (pa_cons (pe_call G2 hr rfl m2 k2 b2 .nil pass0 (pa_cons (pv 0) (pa_cons (pv 2) pa_nil)))
        (pa_cons (pe_call G2 hr rfl m2 k2 b2 .nil pass0 (pa_cons (pv 0) (pa_cons (pv 3) pa_nil)))
        (pa_cons (pe_call G2 hr rfl m2 k2 b2 .nil pass0 (pa_cons (pv 0) (pa_cons (pv 4) pa_nil)))
        (pa_cons (pe_call G3 hr rfl m3 k3 b3 .nil pass0 (pa_cons (pv 0) (pa_cons (pv 3) (pa_cons (pv 4) pa_nil))))
        (pa_cons (pe_call G3 hr rfl m3 k3 b3 .nil pass0 (pa_cons (pv 0) (pa_cons (pv 2) (pa_cons (pv 4) pa_nil))))
        (pa_cons (pe_call G3 hr rfl m3 k3 b3 .nil pass0 (pa_cons (pv 0) (pa_cons (pv 2) (pa_cons (pv 3) pa_nil)))) pa_nil)))))))))))), ?_⟩
    obtain ⟨ps0, hT0⟩ := hT.tbl
    refine ⟨_, rfl, fa, F, rfl, hF, F6, hP, hT, fun H1 r ra rb rc a b c VV S ta tb tc sB => ?_⟩
    have hF1 := sqB hT0 sB hF
    have F6' : FB 100000 F := F6.mono (by decide)
    have ta' : TB 100000 a := ta.mono (by decide)
    have tb' : TB 100000 b := tb.mono (by decide)
    have tc' : TB 100000 c := tc.mono (by decide)
    refine ⟨_, rfl, r, _, _, _, rfl, rfl, SqL.of VV.l, at_of (j := 0) rfl rfl, ?_⟩
    refine ⟨_, rfl, r, _, _, _, rfl, rfl, SqL.of VV.l, at_of (j := 1) rfl rfl, ?_⟩
    refine ⟨_, rfl, r, _, _, _, rfl, rfl, SqL.of VV.l, at_of (j := 2) rfl rfl, ?_⟩
    refine ⟨_, rfl, _, rfl, fa, ra, F, a, rfl, hF1, SqL.of VV.a, F6', ta', ?_⟩
    refine ⟨_, rfl, _, rfl, fa, rb, F, b, rfl, hF1, SqL.of VV.b, F6', tb', ?_⟩
    refine ⟨_, rfl, _, rfl, fa, rc, F, c, rfl, hF1, SqL.of VV.c, F6', tc', ?_⟩
    refine ⟨_, rfl, _, rfl, _, rfl, fa, rb, rc, F, b, c, rfl, hF1, SqL.of VV.b, SqL.of VV.c, F6', tb', tc', ?_⟩
    refine ⟨_, rfl, _, rfl, _, rfl, fa, ra, rc, F, a, c, rfl, hF1, SqL.of VV.a, SqL.of VV.c, F6', ta', tc', ?_⟩
    refine ⟨_, rfl, _, rfl, _, rfl, fa, ra, rb, F, a, b, rfl, hF1, SqL.of VV.a, SqL.of VV.b, F6', ta', tb', ?_⟩
    refine ⟨small (by show 6 ≤ 1000; decide), fun q nq => k _ q a b c upd_same S ⟨?_, ?_, ?_, ?_, ?_, ?_⟩ (sB.trans (Same.upd nq).but)⟩
    · exact Nat.le_trans (N_bt F6 ta) (by decide)
    · exact Nat.le_trans (N_bt F6 tb) (by decide)
    · exact Nat.le_trans (N_bt F6 tc) (by decide)
    · exact Nat.le_trans (tm_bt F6 tb tc) (by decide)
    · exact Nat.le_trans (tm_bt F6 ta tc) (by decide)
    · exact Nat.le_trans (tm_bt F6 ta tb) (by decide)
/-! ### walked, fitting -/
def spWal : Sp := fun vs H Q _ => ∃ (p q r st sp : Int) (m : Nat), vs = [.int p, .int q, .int r, .int st, .int sp] ∧ m ≤ 131073 ∧ Ln.Wk p q r st sp m ∧ Bt 9000 p ∧ Bt 9000 q ∧ (∀ i : Nat, i ≤ m → Bt 9001 (st + i * sp)) ∧
  ∀ (H' : Hp) (D : Addr), H' D = some (li (Ln.wkL st sp m)) → H D = Option.none → Same H H' → Q (.ref D) H'
def spFit : Sp := fun vs H Q _ => ∃ (p q r : Int) (k : Nat), vs = [.int p, .int q, .int r] ∧ 0 < p ∧ q * q - p * r ≤ p * p * (Ln.WID * Ln.WID) ∧ Bt 9000 p ∧ Bt k q ∧ 18 ≤ k ∧ k ≤ 9000 ∧
  ∀ (H' : Hp) (D : Addr) (L : List Int), H' D = some (li L) → H D = Option.none → Ln.Fits p q r L → (∀ n, n ∈ L → Bt (k + 1) n) → L.length ≤ 262146 → Same H H' → Q (.ref D) H'
theorem scWal : FnScope ["p", "q", "r", "start", "step", "found", "n"] ["p", "q", "r", "start", "step"] (defScope sWal) := ⟨rfl, rfl, rfl, by decide +kernel, rfl, by decide +kernel, by decide +kernel⟩
theorem wk_snoc (st sp : Int) (m : Nat) : Ln.wkL st sp (m + 1) = Ln.wkL st sp m ++ [st + m * sp] := by
  unfold Ln.wkL
  rw [List.range_succ, List.map_append]
  rfl
theorem ok_wal {f : Addr} {fd : FuncData} (Fn : Fun K "walked" "walked" sWal f fd) : FnOk P w K mg base CX0 1 f fd ["p", "q", "r", "start", "step"] spWal := by
  refine Fn.ok scWal (fun vs H Q E h => ?_) (fun cdv A outer s H vs Q E hr h => ?_)
  · obtain ⟨p, q, r, st, sp, m, rfl, _⟩ := h
    rfl
  · obtain ⟨p, q, r, st, sp, m, rfl, hm, W, bp, bq, bi, k⟩ := h
    refine ⟨_, pss_cons (ps_set (i := 5) scWal.nd rfl (Or.inl rfl) (pe_lst pa_nil))
      (pss_cons (ps_set (i := 6) scWal.nd rfl (Or.inl rfl) (pv 3))
      (pss_cons (ps_while PassesOwn.never (pt_cmpR op_le (pe_op op_add (pe_op op_add (pe_op op_mulB (pe_op op_mulB (pv 0) (pv 6)) (pv 6)) (pe_op op_mulB (pe_op op_mulB pe_int (pv 1)) (pv 6))) (pv 2)) pe_int (nomark _))
        (pss_cons (ps_expr (pe_bm PySem.F.plainAttrs_list PySem.F.slot_list_append PySem.F.type_list_append mt_append (pv 5) (pa_cons (pv 6) pa_nil)))
        (pss_one (ps_aug (i := 6) scWal.nd rfl (Or.inl rfl) (pv 4) ip_add))))
      (pss_one (ps_ret (pv 5))))), ?_⟩
    refine ⟨small (by decide), fun D nD => ⟨_, rfl, ?_⟩⟩
    refine ⟨fun n σ H' => ∃ i : Nat, i ≤ m ∧ n = m - i ∧ σ = [some (.int p), some (.int q), some (.int r), some (.int st), some (.int sp), some (.ref D), some (.int (st + i * sp))] ∧ H' D = some (li (Ln.wkL st sp i)) ∧ Same H H', ⟨_, 0, Nat.zero_le _, rfl, ?_, upd_same, Same.upd nD⟩, ?_⟩
    · have e : st + ((0 : Nat) : Int) * sp = st := by simp
      rw [e]
      rfl
    rintro n σ H1 ⟨i, hi, rfl, rfl, hD, sm⟩
    have bn := bi i hi
    refine ⟨_, rfl, _, rfl, _, _, rfl, rfl, mB bp bn, _, rfl, _, _, rfl, rfl, mB (bits_mul bp bn) bn, ?_⟩
    refine ⟨_, rfl, _, _, rfl, rfl, mB bt2 bq, _, rfl, _, _, rfl, rfl, mB (bits_mul bt2 bq) bn, _, _, rfl, rfl, ?_⟩
    refine ⟨_, rfl, _, _, rfl, rfl, _, _, rfl, rfl, _, rfl, ?_⟩
    refine ite2 (fun h => ?_) (fun h => ?_)
    · have h' : Ln.gq p q r (st + i * sp) ≤ 0 := of_decide_eq_true h
      have hlt : i < m := by
        refine Nat.lt_of_le_of_ne hi fun e => ?_
        have := W.out
        rw [← e] at this
        omega
      refine ⟨fun σ' H' => ∃ n', n' < m - i ∧ ∃ i : Nat, i ≤ m ∧ n' = m - i ∧ σ' = [some (.int p), some (.int q), some (.int r), some (.int st), some (.int sp), some (.ref D), some (.int (st + i * sp))] ∧ H' D = some (li (Ln.wkL st sp i)) ∧ Same H H', fun σ' H' z => z, ?_⟩
      refine ⟨_, rfl, .inl ⟨rfl, _, SqL.of hD⟩, _, rfl, D, _, _, rfl, rfl, hD, smallL (by rw [List.length_map, Ln.len_wk]; omega), ?_⟩
      refine ⟨_, rfl, _, rfl, _, _, rfl, rfl, m - (i + 1), by omega, i + 1, hlt, rfl, ?_, ?_, fun b o eb => ?_⟩
      · have e : st + ((i + 1 : Nat) : Int) * sp = st + i * sp + sp := by
          rw [Int.natCast_add, Int.add_mul]
          omega
        rw [e]
        rfl
      · rw [upd_same, wk_snoc]
        show some (HO.lst _) = some (HO.lst _)
        rw [List.map_append]
        rfl
      · rw [upd_ne (ne_of_none eb nD)]
        exact sm b o eb
    · have h' : ¬ Ln.gq p q r (st + i * sp) ≤ 0 := fun z => h (decide_eq_true z)
      have e : i = m := by
        refine Nat.le_antisymm hi (Nat.le_of_not_lt fun z => h' (W.fit i z))
      subst e
      exact ⟨_, rfl, k H1 D hD nD sm⟩
theorem scFit : FnScope ["p", "q", "r", "middle"] ["p", "q", "r"] (defScope sFit) := ⟨rfl, rfl, rfl, by decide +kernel, rfl, by decide +kernel, by decide +kernel⟩
theorem bt18 {i : Int} (h : i.natAbs ≤ 131074) : Bt 18 i := bits_of_natAbs_le (b := 131074) h (by decide)
theorem ok_fit {f : Addr} {fd : FuncData} (Fn : Fun K "fitting" "fitting" sFit f fd) (CW : Cal P w K mg base 1 "walked" ["p", "q", "r", "start", "step"] spWal) : FnOk P w K mg base CX0 2 f fd ["p", "q", "r"] spFit := by
  obtain ⟨f1, fd1, G1, b1, m1, k1⟩ := CW
  refine Fn.ok scFit (fun vs H Q E h => ?_) (fun cdv A outer s H vs Q E hr h => ?_)
  · obtain ⟨p, q, r, n, rfl, _⟩ := h
    rfl
  · obtain ⟨p, q, r, n, rfl, hp, hw, bp, bq, h18, h9, k⟩ := h
    refine ⟨_, pss_cons (ps_set (i := 3) scFit.nd rfl (Or.inl rfl) (pe_op op_fdivB (pe_un un_neg (pv 1)) (pv 0)))
      (pss_one (ps_ret (pe_op op_cat (pe_call G1 hr rfl m1 k1 b1 .nil pass0 (pa_cons (pv 0) (pa_cons (pv 1) (pa_cons (pv 2) (pa_cons (pv 3) (pa_cons (pe_un un_neg pe_int) pa_nil))))))
        (pe_call G1 hr rfl m1 k1 b1 .nil pass0 (pa_cons (pv 0) (pa_cons (pv 1) (pa_cons (pv 2) (pa_cons (pe_op op_add (pv 3) pe_int) (pa_cons pe_int pa_nil))))))))), ?_⟩
    obtain ⟨w1, l1, W1⟩ := Ln.wk_down hp hw
    obtain ⟨w2, l2, W2⟩ := Ln.wk_up hp hw
    have bm : Bt n (-q / p) := div_bt hp (bits_neg bq)
    have near : ∀ i : Int, i.natAbs ≤ 131074 → Bt (n + 1) (-q / p + i) := fun i hi => Nat.le_trans (bits_add bm (bt18 hi)) (by rw [Nat.max_eq_left h18]; exact Nat.le_refl _)
    have c1 : ∀ i : Nat, i ≤ w1 → Bt (n + 1) (-q / p + i * -1) := fun i hi => near _ (by omega)
    have c2 : ∀ i : Nat, i ≤ w2 → Bt (n + 1) (-q / p + 1 + i * 1) := fun i hi => by
      rw [Int.add_assoc]
      exact near _ (by omega)
    refine ⟨_, rfl, _, rfl, _, rfl, _, _, rfl, rfl, ⟨hp, bp⟩, ?_⟩
    refine ⟨_, rfl, _, rfl, _, rfl, _, rfl, _, rfl, p, q, r, -q / p, -1, w1, rfl, l1, W1, bp, Nat.le_trans bq h9, fun i hi => Nat.le_trans (c1 i hi) (by omega), fun H1 D1 hD1 nD1 s1 => ?_⟩
    refine ⟨_, rfl, _, rfl, _, rfl, _, rfl, _, _, rfl, rfl, p, q, r, -q / p + 1, 1, w2, rfl, l2, W2, bp, Nat.le_trans bq h9, fun i hi => Nat.le_trans (c2 i hi) (by omega), fun H2 D2 hD2 nD2 s2 => ?_⟩
    have q1 : (Ln.wkL (-q / p) (-1) w1).length = w1 := Ln.len_wk ..
    have q2 : (Ln.wkL (-q / p + 1) 1 w2).length = w2 := Ln.len_wk ..
    refine ⟨D1, D2, _, _, rfl, rfl, s2 _ _ hD1, hD2, Nat.le_of_lt (smallL (by rw [List.length_map, List.length_map]; omega)), fun D nD => ?_⟩
    have s12 := s1.trans s2
    refine k _ D (Ln.wkL (-q / p) (-1) w1 ++ Ln.wkL (-q / p + 1) 1 w2) ?_ ?_ (Ln.fits_of hp W1 W2) (fun x hx => ?_) (by rw [List.length_append]; omega) (s12.trans (Same.upd nD))
    · rw [upd_same]
      show some (HO.lst _) = some (HO.lst _)
      rw [List.map_append]
    · cases e : H D with
      | none => rfl
      | some o => 
        rw [s12 _ _ e] at nD
        cases nD
    · rcases List.mem_append.mp hx with hx | hx
      · obtain ⟨i, hi, rfl⟩ := Ln.mem_wk.mp hx
        exact c1 i (by omega)
      · obtain ⟨i, hi, rfl⟩ := Ln.mem_wk.mp hx
        exact c2 i (by omega)
end
end Cr
set_option Elab.async false
set_option maxRecDepth 100000
set_option maxHeartbeats 1000000
namespace Cr
open PySem PySem.Spec PyProof.Rows L2
open PySem.W (Codec)
abbrev sLns : Stmt := top 23
section
variable {P : Program} {w : World} {K : PySem.W.Frag} {mg : Str → Option Value} {base : Heap}
theorem same_back {H H' : Hp} {D : Addr} (s : Same H H') (n : H' D = Option.none) : H D = Option.none := by
  cases e : H D with
  | none => rfl
  | some o =>
    rw [s _ _ e] at n
    cases n
/-! ### lengths_in_line -/
abbrev hf (F : Ln.Fm) (y z : Int) : Int := F.f * y + F.e * z
abbrev rs (F : Ln.Fm) (y z : Int) : Int := F.b * y * y + 2 * F.d * y * z + F.c * z * z
def spLil (K : PySem.W.Frag) : Sp := fun vs H Q _ => ∃ (fa : Addr) (F : Ln.Fm) (b y z : Int), vs = [.ref fa, .int b, .int y, .int z] ∧ SqL K H fa ((l6 F).map V.int) ∧ FB 1000 F ∧ Ln.Sf F ∧ 0 ≤ b ∧ b ≤ 4294967295 ∧ Bt 2021 y ∧ Bt 19 z ∧
  ∀ (H' : Hp) (D : Addr) (xs : List Int), H' D = some (li (xs.map fun x => F.N (x, y, z))) → H D = Option.none → Ln.Fits F.a (hf F y z) (rs F y z - b) xs → xs.length ≤ 262146 → Same H H' → Q (.ref D) H'
theorem scLil : FnScope ["form", "bound", "y", "z", "half", "rest", "x"] ["form", "bound", "y", "z"] (defScope sLil) := ⟨rfl, rfl, rfl, by decide +kernel, rfl, by decide +kernel, by decide +kernel⟩
theorem blkLil : BlkOk ["form", "bound", "y", "z", "half", "rest", "x"] (defScope sLil) { kind := ScopeKind.function, names := [(Str.ofString ".0", NameKind.local), (Str.ofString "x", NameKind.local), (Str.ofString "form", NameKind.free), (Str.ofString "half", NameKind.free), (Str.ofString "rest", NameKind.free)], isGenerator := false, isCoroutine := false } [("x", 6)] := blkOk_by (by decide +kernel)
theorem ok_lil {f : Addr} {fd : FuncData} (Fn : Fun K "lengths_in_line" "lengths_in_line" sLil f fd) (CF : Cal P w K mg base 2 "fitting" ["p", "q", "r"] spFit) : FnOk P w K mg base CX0 3 f fd ["form", "bound", "y", "z"] (spLil K) := by
  obtain ⟨f1, fd1, G1, b1, m1, k1⟩ := CF
  refine Fn.ok scLil (fun vs H Q E h => ?_) (fun cdv A outer s H vs Q E hr h => ?_)
  · obtain ⟨fa, F, b, y, z, rfl, _⟩ := h
    rfl
  · obtain ⟨fa, F, b, y, z, rfl, hF, F6, S, b0, bb, by', bz, k⟩ := h
    refine ⟨_, pss_cons (ps_set (i := 4) scLil.nd rfl (Or.inr rfl) (pe_op op_add (pe_op op_mulB (pe_ix ix_list (pv 0) pe_int (fun _ _ => rfl)) (pv 2)) (pe_op op_mulB (pe_ix ix_list (pv 0) pe_int (fun _ _ => rfl)) (pv 3))))
      (pss_cons (ps_set (i := 5) scLil.nd rfl (Or.inr rfl) (pe_op op_add (pe_op op_add (pe_op op_mulB (pe_op op_mulB (pe_ix ix_list (pv 0) pe_int (fun _ _ => rfl)) (pv 2)) (pv 2)) (pe_op op_mulB (pe_op op_mulB (pe_op op_mulB pe_int (pe_ix ix_list (pv 0) pe_int (fun _ _ => rfl))) (pv 2)) (pv 3))) (pe_op op_mulB (pe_op op_mulB (pe_ix ix_list (pv 0) pe_int (fun _ _ => rfl)) (pv 3)) (pv 3))))
      (pss_one (ps_ret (pe_lc rfl scLil.nd (pi_list (pe_call G1 hr rfl m1 k1 b1 .nil pass0 (pa_cons (pe_ix ix_list (pv 0) pe_int (fun _ _ => rfl)) (pa_cons (pv 4) (pa_cons (pe_op op_sub (pv 5) (pv 1)) pa_nil))))) blkLil
        (fun s H C cl fp => pg_name (i := 6) scLil.nd rfl (Or.inl rfl)) (fun s H C cl fp => pts_nil)
        (fun s H C cl fp => pe_op op_add (pe_op op_add (pe_op op_mulB (pe_op op_mulB (pe_ix (r := rIxL K) ix_list (pv 0) pe_int (fun _ _ => rfl)) (pv 6)) (pv 6)) (pe_op op_mulB (pe_op op_mulB pe_int (pv 4)) (pv 6))) (pv 5)))))), ?_⟩
    have bh : Bt 3022 (hf F y z) := Nat.le_trans (bits_add (bits_mul F6.f by') (bits_mul F6.e bz)) (by decide)
    refine ⟨_, rfl, fa, _, _, _, rfl, rfl, hF, at_int (j := 5) rfl (show 5 < 6 by decide), _, rfl, _, _, rfl, rfl, mB F6.f by', ?_⟩
    refine ⟨_, rfl, fa, _, _, _, rfl, rfl, hF, at_int (j := 4) rfl (show 4 < 6 by decide), _, rfl, _, _, rfl, rfl, mB F6.e bz, _, _, rfl, rfl, ?_⟩
    refine ⟨_, rfl, fa, _, _, _, rfl, rfl, hF, at_int (j := 1) rfl (show 1 < 6 by decide), _, rfl, _, _, rfl, rfl, mB F6.b by', _, rfl, _, _, rfl, rfl, mB (bits_mul F6.b by') by', ?_⟩
    refine ⟨_, rfl, fa, _, _, _, rfl, rfl, hF, at_int (j := 3) rfl (show 3 < 6 by decide), _, _, rfl, rfl, mB bt2 F6.d, _, rfl, _, _, rfl, rfl, mB (bits_mul bt2 F6.d) by', _, rfl, _, _, rfl, rfl, mB (bits_mul (bits_mul bt2 F6.d) by') bz, _, _, rfl, rfl, ?_⟩
    refine ⟨_, rfl, fa, _, _, _, rfl, rfl, hF, at_int (j := 2) rfl (show 2 < 6 by decide), _, rfl, _, _, rfl, rfl, mB F6.c bz, _, rfl, _, _, rfl, rfl, mB (bits_mul F6.c bz) bz, _, _, rfl, rfl, ?_⟩
    refine ⟨_, rfl, fa, _, _, _, rfl, rfl, hF, at_int (j := 0) rfl (show 0 < 6 by decide), _, rfl, _, rfl, _, rfl, _, _, rfl, rfl, F.a, hf F y z, rs F y z - b, 3022, rfl, S.a0, Ln.wid_x S b0 bb, Nat.le_trans F6.a (by decide), bh, by decide, by decide, fun H1 L xs hL nL FX bX lX s1 => ⟨L, rfl, ⟨_, SqL.of hL⟩, fun D hD => ?_⟩⟩
    refine lc_list (K := K) (a := L) (xs := xs.map V.int) (fun i H' => H' D = some (li ((xs.take i).map fun x => F.N (x, y, z))) ∧ Same H1 H') ⟨upd_same, Same.upd hD⟩ (fun i H' _ q => SqL.of (q.2 _ _ hL)) ?_ ?_
    · rintro i v H' hv ⟨q1, q2⟩
      obtain ⟨x, hx, rfl⟩ := get_ints hv
      have hi : i < xs.length := (List.getElem?_eq_some_iff.mp hx).1
      have bx := bX x (List.mem_of_getElem? hx)
      have s2 := s1.trans q2
      refine ⟨rfl, _, rfl, fa, _, _, _, rfl, rfl, s2.seq hF, at_int (j := 0) rfl (show 0 < 6 by decide), _, rfl, _, _, rfl, rfl, mB F6.a bx, _, rfl, _, _, rfl, rfl, mB (bits_mul F6.a bx) bx, ?_⟩
      refine ⟨_, rfl, _, _, rfl, rfl, mB bt2 bh, _, rfl, _, _, rfl, rfl, mB (bits_mul bt2 bh) bx, _, _, rfl, rfl, _, rfl, _, _, rfl, rfl, ?_⟩
      refine grow hD q1 q2 (by rw [List.length_map, List.length_map, List.length_take]; omega) ?_
      rw [map_snoc (fun x => F.N (x, y, z)) hx, List.map_append]
      show _ = _ ++ [V.int (F.a * x * x + 2 * hf F y z * x + rs F y z)]
      rw [Ln.N_line]
      rfl
    · rintro H' ⟨q1, q2⟩
      rw [List.length_map, List.take_length] at q1
      exact k H' D xs q1 (same_back s1 hD) FX lX (s1.trans q2)
/-! ### is_crowded -/
def spCrd (K : PySem.W.Frag) : Sp := fun vs H Q _ => ∃ (fa : Addr) (F : Ln.Fm) (b : Int), vs = [.ref fa, .int b] ∧ SqL K H fa ((l6 F).map V.int) ∧ FB 1000 F ∧ Q (.bl (decide (F.a * (2049 * 2049) ≤ b))) H
theorem scCrd : FnScope ["form", "bound"] ["form", "bound"] (defScope sCrd) := ⟨rfl, rfl, rfl, by decide +kernel, rfl, by decide +kernel, by decide +kernel⟩
theorem ok_crd {f : Addr} {fd : FuncData} (Fn : Fun K "is_crowded" "is_crowded" sCrd f fd) (T : TxtL mg) : FnOk P w K mg base CX0 1 f fd ["form", "bound"] (spCrd K) := by
  refine Fn.ok scCrd (fun vs H Q E h => ?_) (fun cdv A outer s H vs Q E hr h => ?_)
  · obtain ⟨fa, F, b, rfl, _⟩ := h
    rfl
  · obtain ⟨fa, F, b, rfl, hF, F6, k⟩ := h
    obtain ⟨t, eI⟩ := T.indices
    refine ⟨_, pss_one (ps_ret (pe_cmpR op_le (pe_op op_mulB (pe_ix ix_list (pv 0) pe_int (fun _ _ => rfl)) (pe_op op_pow (pe_op op_add (pe_op op_fdivB (pe_glob (v := .int 4096) rfl eI ⟨_, rfl⟩) pe_int) pe_int) pe_int)) (pv 1) (nomark _))), ?_⟩
    refine ⟨_, rfl, fa, _, _, _, rfl, rfl, hF, at_int (j := 0) rfl (show 0 < 6 by decide), _, _, rfl, rfl, ⟨by decide, by decide⟩, _, _, rfl, rfl, _, _, rfl, rfl, ⟨by decide, by decide, by decide⟩, ?_⟩
    refine ⟨_, _, rfl, rfl, mB (n := 30) F6.a (by decide), _, rfl, _, _, rfl, rfl, ?_⟩
    exact k
/-! ### lengths -/
def spLns (K : PySem.W.Frag) : Sp := fun vs H Q _ => ∃ (fa : Addr) (F : Ln.Fm) (b : Int), vs = [.ref fa, .int b] ∧ SqL K H fa ((l6 F).map V.int) ∧ FB 1000 F ∧ Ln.Sf F ∧ 0 ≤ b ∧ b ≤ 4294967295 ∧
  ∀ (H' : Hp) (D : Addr) (T : List Ln.T3), H' D = some (li (T.map F.N)) → T.Nodup → (∀ t, t ∈ T → F.N t ≤ b) → (T.length ≤ 4097 → ∀ t, t ∈ T ↔ F.N t ≤ b) → Same H H' → Q (.ref D) H'
theorem scLns : FnScope ["form", "bound", "beside", "found", "z", "y"] ["form", "bound"] (defScope sLns) := ⟨rfl, rfl, rfl, by decide +kernel, rfl, by decide +kernel, by decide +kernel⟩
theorem FB.mem {n : Nat} {F : Ln.Fm} (h : FB n F) : ∀ x, x ∈ l6 F → Bt n x := by
  intro x hx
  simp only [l6, List.mem_cons, List.not_mem_nil, or_false] at hx
  rcases hx with rfl | rfl | rfl | rfl | rfl | rfl
  · exact h.a
  · exact h.b
  · exact h.c
  · exact h.d
  · exact h.e
  · exact h.f
theorem FB.adj {n : Nat} {F : Ln.Fm} (h : FB n F) : FB (n + n + 1) F.adj := by
  have m := adj_bt (c := l6 F) (n := n) (Nat.le_refl 6) h.mem
  exact ⟨m _ (List.mem_cons_self ..), m _ (List.mem_cons_of_mem _ (List.mem_cons_self ..)), m _ (List.mem_cons_of_mem _ (List.mem_cons_of_mem _ (List.mem_cons_self ..))), m _ (List.mem_cons_of_mem _ (List.mem_cons_of_mem _ (List.mem_cons_of_mem _ (List.mem_cons_self ..)))), m _ (List.mem_cons_of_mem _ (List.mem_cons_of_mem _ (List.mem_cons_of_mem _ (List.mem_cons_of_mem _ (List.mem_cons_self ..))))), m _ (List.mem_cons_of_mem _ (List.mem_cons_of_mem _ (List.mem_cons_of_mem _ (List.mem_cons_of_mem _ (List.mem_cons_of_mem _ (List.mem_cons_self ..))))))⟩
theorem dtr_D (F : Ln.Fm) : Sm.dtr (l6 F) = F.D := by
  rw [← dtr_is]
  exact Ln.Fm.D_is F
theorem D_bt {F : Ln.Fm} (h : FB 1000 F) : Bt 9000 F.D := by
  rw [← Ln.Fm.D_is]
  have a := h.adj
  exact Nat.le_trans (bits_add (bits_add (bits_mul h.a a.a) (bits_mul h.f a.f)) (bits_mul h.e a.e)) (by decide)
theorem not_take {L : List Int} (hn : L.Nodup) {i : Nat} {x : Int} (h : L[i]? = some x) : ¬ x ∈ L.take i := by
  intro q
  obtain ⟨j, hj, e⟩ := List.getElem_of_mem q
  rw [List.length_take] at hj
  rw [List.getElem_take] at e
  obtain ⟨hi, e2⟩ := List.getElem?_eq_some_iff.mp h
  have := (List.getElem_inj hn).mp (e.trans e2.symm)
  omega
theorem mem_snoc {L : List Int} {i : Nat} {x y : Int} (h : L[i]? = some x) : y ∈ L.take (i + 1) ↔ y ∈ L.take i ∨ y = x := by
  rw [My.take_snoc h, List.mem_append, List.mem_singleton]
theorem ok_lns {f : Addr} {fd : FuncData} (Fn : Fun K "lengths" "lengths" sLns f fd) (T : TxtL mg) (CA : Cal P w K mg base 3 "adjugate" ["form"] (spAdj K)) (CD : Cal P w K mg base 3 "determinant" ["form"] (spDet K)) (CF : Cal P w K mg base 3 "fitting" ["p", "q", "r"] spFit) (CL : Cal P w K mg base 3 "lengths_in_line" ["form", "bound", "y", "z"] (spLil K)) :
    FnOk P w K mg base CX0 4 f fd ["form", "bound"] (spLns K) := by
  obtain ⟨f1, fd1, G1, b1, m1, k1⟩ := CA
  obtain ⟨f2, fd2, G2, b2, m2, k2⟩ := CD
  obtain ⟨f3, fd3, G3, b3, m3, k3⟩ := CF
  obtain ⟨f4, fd4, G4, b4, m4, k4⟩ := CL
  refine Fn.ok scLns (fun vs H Q E h => ?_) (fun cdv A outer s H vs Q E hr h => ?_)
  · obtain ⟨fa, F, b, rfl, _⟩ := h
    rfl
  · obtain ⟨fa, F, b, rfl, hF, F6, S, b0, bb, k⟩ := h
    obtain ⟨t, eI⟩ := T.indices
    refine ⟨_, pss_cons (ps_set (i := 2) scLns.nd rfl (Or.inl rfl) (pe_call G1 hr rfl m1 k1 b1 .nil pass0 (pa_cons (pv 0) pa_nil)))
      (pss_cons (ps_set (i := 3) scLns.nd rfl (Or.inl rfl) (pe_lst pa_nil))
      (pss_cons (ps_for PassesOwn.never rfl (pi_list (pe_call G3 hr rfl m3 k3 b3 .nil pass0 (pa_cons (pe_call G2 hr rfl m2 k2 b2 .nil pass0 (pa_cons (pv 0) pa_nil)) (pa_cons pe_int (pa_cons (pe_op op_mulB (pe_un un_neg (pv 1)) (pe_ix ix_list (pv 2) pe_int (fun _ _ => rfl))) pa_nil))))) (pg_name (i := 4) scLns.nd rfl (Or.inl rfl))
        (pss_one (ps_for PassesOwn.never rfl (pi_list (pe_call G3 hr rfl m3 k3 b3 .nil pass0 (pa_cons (pe_ix ix_list (pv 2) pe_int (fun _ _ => rfl)) (pa_cons (pe_op op_mulB (pe_un un_neg (pe_ix ix_list (pv 2) pe_int (fun _ _ => rfl))) (pv 4))
            (pa_cons (pe_op op_sub (pe_op op_mulB (pe_op op_mulB (pe_ix ix_list (pv 2) pe_int (fun _ _ => rfl)) (pv 4)) (pv 4)) (pe_op op_mulB (pe_ix ix_list (pv 0) pe_int (fun _ _ => rfl)) (pv 1))) pa_nil))))) (pg_name (i := 5) scLns.nd rfl (Or.inl rfl))
          (pss_cons (ps_expr (pe_bm PySem.F.plainAttrs_list PySem.F.slot_list_extend PySem.F.type_list_extend mt_extend (pv 3) (pa_cons (pe_call G4 hr rfl m4 k4 b4 .nil pass0 (pa_cons (pv 0) (pa_cons (pv 1) (pa_cons (pv 5) (pa_cons (pv 4) pa_nil))))) pa_nil)))
          (pss_one (ps_if (pt_cmpR op_gt (pe_callB call_len_seq (by rfl) T.len PySem.boot_len (pa_cons (pv 3) pa_nil)) (pe_op op_add (pe_glob (v := .int 4096) rfl eI ⟨_, rfl⟩) pe_int) (nomark _))
            (pss_one (ps_ret (pv 3))) pss_nil))))))
      (pss_one (ps_ret (pv 3))))), ?_⟩
    have b4 : ∀ x, x ∈ l6 F → Bt 4000 x := (F6.mono (by decide)).mem
    have bA : FB 2001 F.adj := F6.adj
    have bB : Bt 33 b := Nat.le_trans (bits_of_natAbs_le (b := 4294967295) (by omega) (by decide)) (Nat.le_refl 33)
    refine ⟨_, rfl, fa, l6 F, rfl, hF, Nat.le_refl 6, b4, fun ba nba => ?_⟩
    have sa := Same.upd (o := li (adjL (l6 F))) nba
    refine ⟨small (by decide), fun D nD => ?_⟩
    have hba : upd H ba (li (adjL (l6 F))) ba = some (li (l6 F.adj)) := upd_same
    generalize upd H ba (li (adjL (l6 F))) = H1 at *
    have sD := Same.upd (o := HO.lst []) nD
    refine ⟨_, rfl, fa, l6 F, rfl, (sa.trans sD).seq hF, Nat.le_refl 6, b4, fun H2 s2 => ?_⟩
    rw [dtr_D]
    have s12 : Same H1 H2 := sD.trans s2
    have hD2 : H2 D = some (li []) := s2 _ _ upd_same
    refine ⟨_, rfl, _, rfl, _, rfl, ba, _, _, _, rfl, rfl, SqL.of (s12 _ _ hba), at_int (j := 2) rfl (show 2 < 6 by decide), _, _, rfl, rfl, mB (bits_neg bB) bA.c, ?_⟩
    refine ⟨F.D, 0, -b * F.adj.c, 18, rfl, S.d0, Ln.wid_z S b0 bb, D_bt F6, by decide, by decide, by decide, fun H3 zl Zs hzl nzl FZ bZ lZ s3 => ⟨zl, rfl, ⟨_, SqL.of hzl⟩, ?_⟩⟩
    have nzD : D ≠ zl := ne_of_none hD2 nzl
    refine for_list (K := K) (a := zl) (xs := Zs.map V.int) (fun i σ H' => ∃ (vz vy : Option V) (T : List Ln.T3), σ = [some (.ref fa), some (.int b), some (.ref ba), some (.ref D), vz, vy] ∧ H' D = some (li (T.map F.N)) ∧ H' zl = some (li Zs) ∧ Same H1 H' ∧ T.length ≤ 4097 ∧ Ln.Tri F b T (fun y z => z ∈ Zs.take i ∧ Ln.gq F.adj.c (-F.adj.d * z) (F.adj.b * z * z - F.a * b) y ≤ 0))
      ⟨none, none, [], rfl, s3 _ _ hD2, hzl, s12.trans s3, by decide, Ln.Tri.nil.imp fun x y z _ => ⟨fun q => q.elim, fun q => by simp at q⟩⟩ (fun i σ H' _ ⟨_, _, _, _, _, q, _⟩ => SqL.of q) ?_ ?_
    · rintro i v σ H4 hv ⟨vz, vy, T, rfl, hD4, hz4, s4, lT, tri⟩
      obtain ⟨z, hz, rfl⟩ := get_ints hv
      have bz := bZ z (List.mem_of_getElem? hz)
      have hb4 := s4 _ _ hba
      have hF4 := (sa.trans s4).seq hF
      refine ⟨_, rfl, ba, _, _, _, rfl, rfl, SqL.of hb4, at_int (j := 2) rfl (show 2 < 6 by decide), ?_⟩
      refine ⟨_, rfl, ba, _, _, _, rfl, rfl, SqL.of hb4, at_int (j := 3) rfl (show 3 < 6 by decide), _, rfl, _, rfl, _, _, rfl, rfl, mB (bits_neg bA.d) bz, ?_⟩
      refine ⟨_, rfl, ba, _, _, _, rfl, rfl, SqL.of hb4, at_int (j := 1) rfl (show 1 < 6 by decide), _, rfl, _, _, rfl, rfl, mB bA.b bz, _, rfl, _, _, rfl, rfl, mB (bits_mul bA.b bz) bz, ?_⟩
      refine ⟨_, rfl, fa, _, _, _, rfl, rfl, hF4, at_int (j := 0) rfl (show 0 < 6 by decide), _, rfl, _, _, rfl, rfl, mB F6.a bB, _, _, rfl, rfl, ?_⟩
      refine ⟨F.adj.c, -F.adj.d * z, F.adj.b * z * z - F.a * b, 2020, rfl, S.c0, Ln.wid_y S b0 bb, Nat.le_trans bA.c (by decide), Nat.le_trans (bits_mul (bits_neg bA.d) bz) (by decide), by decide, by decide, fun H5 yl Ys hyl nyl FY bY lY s5 => ⟨yl, rfl, ⟨_, SqL.of hyl⟩, ?_⟩⟩
      have nyD : D ≠ yl := ne_of_none hD4 nyl
      refine for_list (K := K) (a := yl) (xs := Ys.map V.int) (fun j σ H' => ∃ (vy : Option V) (T : List Ln.T3), σ = [some (.ref fa), some (.int b), some (.ref ba), some (.ref D), some (.int z), vy] ∧ H' D = some (li (T.map F.N)) ∧ H' zl = some (li Zs) ∧ H' yl = some (li Ys) ∧ Same H1 H' ∧ T.length ≤ 4097 ∧ Ln.Tri F b T (fun y z' => (z' ∈ Zs.take i ∧ Ln.gq F.adj.c (-F.adj.d * z') (F.adj.b * z' * z' - F.a * b) y ≤ 0) ∨ (z' = z ∧ y ∈ Ys.take j)))
        ⟨vy, T, rfl, s5 _ _ hD4, s5 _ _ hz4, hyl, s4.trans s5, lT, tri.imp fun x y z' _ => ⟨fun q => .inl q, fun q => q.elim id fun q => by simp at q⟩⟩ (fun i σ H' _ ⟨_, _, _, _, _, q, _⟩ => SqL.of q) ?_ ?_
      · rintro j v σ H6 hv ⟨vy', T', rfl, hD6, hz6, hy6, s6, lT', tri'⟩
        obtain ⟨y, hy, rfl⟩ := get_ints hv
        have by' := bY y (List.mem_of_getElem? hy)
        refine ⟨_, rfl, .inl ⟨rfl, _, SqL.of hD6⟩, _, rfl, _, rfl, _, rfl, _, rfl, fa, F, b, y, z, rfl, (sa.trans s6).seq hF, F6, S, b0, bb, by', bz, fun H7 r xs hr7 nr7 FX lX s7 => ?_⟩
        have nrD : D ≠ r := ne_of_none hD6 nr7
        have hlen : (T' ++ xs.map fun x => (x, y, z)).length = T'.length + xs.length := by rw [List.length_append, List.length_map]
        have tri2 := tri'.step (y0 := y) (z0 := z) (fun q => by
          rcases q with q | q
          · exact not_take FZ.nd hz q.1
          · exact not_take FY.nd hy q.2) FX
        refine ⟨D, r, _, _, rfl, rfl, s7 _ _ hD6, hr7, Nat.le_of_lt (smallL (by rw [List.length_map, List.length_map, List.length_map, List.length_map]; omega)), ?_⟩
        have eN : (T'.map F.N).map V.int ++ (xs.map fun x => F.N (x, y, z)).map V.int = ((T' ++ xs.map fun x => (x, y, z)).map F.N).map V.int := by
          rw [List.map_append, List.map_append, List.map_map (f := fun x => (x, y, z))]
          rfl
        rw [eN]
        have s8 : Same H1 (upd H7 D (li ((T' ++ xs.map fun x => (x, y, z)).map F.N))) := fun c o ec => by
          rw [upd_ne (ne_of_none ec nD)]
          exact s7 _ _ (s6 _ _ ec)
        have hD8 : upd H7 D (li ((T' ++ xs.map fun x => (x, y, z)).map F.N)) D = some (li ((T' ++ xs.map fun x => (x, y, z)).map F.N)) := upd_same
        have hz8 : upd H7 D (li ((T' ++ xs.map fun x => (x, y, z)).map F.N)) zl = some (li Zs) := by
          rw [upd_ne nzD.symm]
          exact s7 _ _ hz6
        have hy8 : upd H7 D (li ((T' ++ xs.map fun x => (x, y, z)).map F.N)) yl = some (li Ys) := by
          rw [upd_ne nyD.symm]
          exact s7 _ _ hy6
        refine ⟨_, rfl, D, _, rfl, .inl (SqL.of hD8), _, _, rfl, rfl, _, _, rfl, rfl, _, rfl, ?_⟩
        rw [List.length_map, List.length_map]
        refine ite2 (fun h => ?_) (fun h => ?_)
        · have h' : (4097 : Int) < (((T' ++ xs.map fun x => (x, y, z)).length : Nat) : Int) := of_decide_eq_true h
          exact ⟨_, rfl, k _ D _ hD8 tri2.nd (fun t ht => ((tri2.mem t.1 t.2.1 t.2.2).mp ht).1) (fun q => by omega) (sa.trans s8)⟩
        · have h' : ¬ (4097 : Int) < (((T' ++ xs.map fun x => (x, y, z)).length : Nat) : Int) := fun q => h (decide_eq_true q)
          refine ⟨_, _, rfl, hD8, hz8, hy8, s8, by omega, tri2.imp fun x y' z' _ => ?_⟩
          rw [mem_snoc hy]
          constructor
          · rintro ((q | q) | ⟨rfl, rfl⟩)
            · exact .inl q
            · exact .inr ⟨q.1, .inl q.2⟩
            · exact .inr ⟨rfl, .inr rfl⟩
          · rintro (q | ⟨rfl, q | rfl⟩)
            · exact .inl (.inl q)
            · exact .inl (.inr ⟨rfl, q⟩)
            · exact .inr ⟨rfl, rfl⟩
      · rintro σ H6 ⟨vy', T', rfl, hD6, hz6, hy6, s6, lT', tri'⟩
        refine ⟨_, _, T', rfl, hD6, hz6, s6, lT', tri'.imp fun x y z' _ => ?_⟩
        rw [mem_snoc hz, List.length_map, List.take_length, FY.mem]
        constructor
        · rintro (q | ⟨rfl, q⟩)
          · exact ⟨.inl q.1, q.2⟩
          · exact ⟨.inr rfl, q⟩
        · rintro ⟨q | rfl, q2⟩
          · exact .inl ⟨q, q2⟩
          · exact .inr ⟨rfl, q2⟩
    · rintro σ H4 ⟨vz, vy, T, rfl, hD4, hz4, s4, lT, tri⟩
      rw [List.length_map, List.take_length] at tri
      refine ⟨_, rfl, k H4 D T hD4 tri.nd (fun t ht => ((tri.mem t.1 t.2.1 t.2.2).mp ht).1) (fun _ t => ⟨fun ht => ((tri.mem t.1 t.2.1 t.2.2).mp ht).1, fun ht => (tri.mem t.1 t.2.1 t.2.2).mpr ⟨ht, ?_, ?_⟩⟩) (sa.trans s4)⟩
      · exact (FZ.mem _).mpr (Ln.in_z S ht)
      · exact Ln.in_y S ht
end
end Cr
set_option Elab.async false
set_option maxRecDepth 100000
set_option maxHeartbeats 1000000
namespace Cr
open PySem PySem.Spec PyProof.Rows L2
open PySem.W (Codec)
abbrev sAns : Stmt := top 24
def spAns (K : PySem.W.Frag) (T : Addr) : Sp := fun vs H Q _ => ∃ (z : Int) (a : Addr) (c : List Int), vs = [.int z, .ref a] ∧ SqL K H a (c.map V.int) ∧ c.length ≤ 7 ∧ 0 ≤ z ∧ z ≤ 4294967295 ∧ TabS H T lamP lamQ ∧ ∀ (H' : Hp) (r : Addr), H' r = some (li (PyWqambr.lines z c)) → Q (.ref r) H'
/-! ### counts, as a dict holds them -/
def km (c : List (Int × Int)) : List (Key × V) := c.map fun p => (Sum.inl p.1, V.int p.2)
def cv (c : List (Int × Int)) (x : Int) : Int := ((c.find? fun p => decide (p.1 = x)).map (·.2)).getD 0
theorem inl_dec (a b : Int) : decide ((Sum.inl a : Key) = Sum.inl b) = decide (a = b) := decide_eq_decide.mpr ⟨fun e => Sum.inl.inj e, fun e => by rw [e]⟩
theorem val_km : ∀ (c : List (Int × Int)) (x : Int), valV (km c) (Sum.inl x) = (c.find? fun p => decide (p.1 = x)).map fun p => V.int p.2
  | [], x => rfl
  | (k, n) :: c, x => by
    have ih := val_km c x
    unfold valV at ih ⊢
    show (((Sum.inl k, V.int n) :: km c).find? fun kv => decide (kv.1 = Sum.inl x)).map (·.2) = _
    rw [List.find?_cons, List.find?_cons]
    dsimp only
    rw [inl_dec]
    cases decide (k = x)
    · exact ih
    · rfl
theorem get_km (c : List (Int × Int)) (x : Int) : (valV (km c) (Sum.inl x)).getD (V.int 0) = V.int (cv c x) := by
  rw [val_km]
  unfold cv
  cases c.find? fun p => decide (p.1 = x) <;> rfl
theorem put_ne {κ : Type} [DecidableEq κ] {k x : κ} {u v : V} {r : List (κ × V)} (h : ¬ k = x) : putK ((k, u) :: r) x v = (k, u) :: putK r x v := by
  unfold putK
  rw [List.any_cons]
  simp only [h, decide_false, Bool.false_or]
  split
  · rw [List.map_cons]
    simp only [h, if_false]
  · rfl
theorem put_km : ∀ {c : List (Int × Int)} {x : Int}, c.Pairwise (fun p q => p.1 < q.1) → putK (km c) (Sum.inl x) (V.int (cv c x + 1)) = km (Ln.up c x)
  | [], x, _ => rfl
  | (k, n) :: c, x, h => by
    have h1 := List.pairwise_cons.mp h
    by_cases e : k = x
    · subst e
      have ev : cv ((k, n) :: c) k = n := by
        unfold cv
        rw [List.find?_cons]
        simp
      rw [ev, show Ln.up ((k, n) :: c) k = (k, n + 1) :: c from if_pos rfl]
      unfold putK
      show (if ((Sum.inl k, V.int n) :: km c).any _ = true then ((Sum.inl k, V.int n) :: km c).map _ else _) = _
      rw [List.any_cons]
      simp only [decide_true, Bool.true_or, if_true, List.map_cons]
      show _ = (Sum.inl k, V.int (n + 1)) :: km c
      congr 1
      unfold km
      rw [List.map_map]
      refine List.map_congr_left fun p hp => ?_
      have := h1.1 p hp
      show (if (Sum.inl p.1 : Key) = Sum.inl k then _ else _) = _
      rw [if_neg fun z => by have := Sum.inl.inj z; omega]
    · have ev : cv ((k, n) :: c) x = cv c x := by
        unfold cv
        rw [List.find?_cons]
        simp [e]
      rw [ev, show Ln.up ((k, n) :: c) x = (k, n) :: Ln.up c x from if_neg e]
      show putK ((Sum.inl k, V.int n) :: km c) _ _ = (Sum.inl k, V.int n) :: km (Ln.up c x)
      rw [put_ne fun z => e (Sum.inl.inj z), put_km h1.2]
theorem val_at : ∀ {c : List (Int × Int)} {p : Int × Int}, c.Pairwise (fun p q => p.1 < q.1) → p ∈ c → valV (km c) (Sum.inl p.1) = some (V.int p.2)
  | (k, n) :: c, p, h, hp => by
    have h1 := List.pairwise_cons.mp h
    rw [val_km, List.find?_cons]
    rcases List.mem_cons.mp hp with rfl | hp
    · simp
    · have : k < p.1 := h1.1 p hp
      have e : decide (k = p.1) = false := decide_eq_false (by omega)
      dsimp only
      rw [e]
      have := val_at h1.2 hp
      rw [val_km] at this
      exact this
theorem told_snoc {c : List (Int × Int)} {i : Nat} {p : Int × Int} (h : c[i]? = some p) : Ln.told (c.take (i + 1)) = Ln.told (c.take i) ++ (if 0 < p.1 then [p.1, p.2] else []) := by
  rw [My.take_snoc h]
  unfold Ln.told
  rw [List.filter_append, List.flatMap_append]
  congr 1
  by_cases q : 0 < p.1
  · rw [if_pos q, List.filter_cons_of_pos (by simpa using q)]
    rfl
  · rw [if_neg q, List.filter_cons_of_neg (by simpa using q)]
    rfl
theorem told_len (c : List (Int × Int)) : (Ln.told c).length ≤ 2 * c.length := by
  unfold Ln.told
  induction c with
  | nil => decide
  | cons p c ih =>
    by_cases q : 0 < p.1
    · rw [List.filter_cons_of_pos (by simpa using q), List.flatMap_cons, List.length_append, List.length_cons]
      simp only [List.length_cons, List.length_nil]
      omega
    · rw [List.filter_cons_of_neg (by simpa using q), List.length_cons]
      omega
/-! ### the cell's form -/
def fC (c : List Int) : Ln.Fm := ⟨My.cf c 0, My.cf c 1, My.cf c 2, My.cf c 3, My.cf c 4, My.cf c 5⟩
theorem fC_adj (c : List Int) : Ln.ofMat (Cy.adj (CyG.crystalIn c []).cell.mat) = (fC c).adj := by
  obtain ⟨e1, e2, e3, e4, e5, e6⟩ := Ln.adj_e (Ln.sym_cell (CyG.crystalIn c []).cell)
  unfold Ln.ofMat
  rw [e1, e2, e3, e4, e5, e6, Sm.mat_is]
  show (⟨My.cf c 1 * My.cf c 2 - My.cf c 3 * My.cf c 3, My.cf c 0 * My.cf c 2 - My.cf c 4 * My.cf c 4, My.cf c 0 * My.cf c 1 - My.cf c 5 * My.cf c 5, My.cf c 4 * My.cf c 5 - My.cf c 0 * My.cf c 3, My.cf c 5 * My.cf c 3 - My.cf c 4 * My.cf c 1, My.cf c 4 * My.cf c 3 - My.cf c 5 * My.cf c 2⟩ : Ln.Fm) = ⟨My.cf c 1 * My.cf c 2 - My.cf c 3 * My.cf c 3, My.cf c 0 * My.cf c 2 - My.cf c 4 * My.cf c 4, My.cf c 0 * My.cf c 1 - My.cf c 5 * My.cf c 5, My.cf c 5 * My.cf c 4 - My.cf c 0 * My.cf c 3, My.cf c 5 * My.cf c 3 - My.cf c 1 * My.cf c 4, My.cf c 4 * My.cf c 3 - My.cf c 2 * My.cf c 5⟩
  rw [Int.mul_comm (My.cf c 4) (My.cf c 5), Int.mul_comm (My.cf c 4) (My.cf c 1), Int.mul_comm (My.cf c 5) (My.cf c 2)]
section
variable {P : Program} {w : World} {K : PySem.W.Frag} {mg : Str → Option Value} {base : Heap}
theorem scAns : FnScope ["bound", "cell", "form", "found", "counts", "number", "answer"] ["bound", "cell"] (defScope sAns) := ⟨rfl, rfl, rfl, by decide +kernel, rfl, by decide +kernel, by decide +kernel⟩
theorem ok_ans {f T : Addr} {fd : FuncData} (Fn : Fun K "lines" "lines" sAns f fd) (TX : TxtL mg) (CC : Cal P w K mg base 7 "is_cell" ["cell"] (spL K Sm.cellB)) (CR : Cal P w K mg base 7 "is_right" ["cell"] (spRgt K)) (CA : Cal P w K mg base 7 "adjugate" ["form"] (spAdj K)) (CS : Cal P w K mg base 7 "short_form" ["form"] (spSfo K T)) (CD : Cal P w K mg base 7 "is_crowded" ["form", "bound"] (spCrd K)) (CL : Cal P w K mg base 7 "lengths" ["form", "bound"] (spLns K)) :
    FnOk P w K mg base CX0 8 f fd ["bound", "cell"] (spAns K T) := by
  obtain ⟨f1, fd1, G1, b1, m1, k1⟩ := CC
  obtain ⟨f2, fd2, G2, b2, m2, k2⟩ := CR
  obtain ⟨f3, fd3, G3, b3, m3, k3⟩ := CA
  obtain ⟨f4, fd4, G4, b4, m4, k4⟩ := CS
  obtain ⟨f5, fd5, G5, b5, m5, k5⟩ := CD
  obtain ⟨f6, fd6, G6, b6, m6, k6⟩ := CL
  refine Fn.ok scAns (fun vs H Q E h => ?_) (fun cdv A outer s H vs Q E hr h => ?_)
  · obtain ⟨z, a, c, rfl, _⟩ := h
    rfl
  · obtain ⟨z, a, c, rfl, hA, hl, z0, zb, hT, k⟩ := h
    obtain ⟨t1, eN⟩ := TX.told
    obtain ⟨t2, eD⟩ := TX.nodesc
    obtain ⟨t3, eM⟩ := TX.many
    obtain ⟨t4, eI⟩ := TX.indices
    have hu := hu_of hr
    refine ⟨_, pss_cons (ps_if (pt_not (pt_val (pe_call G1 hr rfl m1 k1 b1 .nil pass0 (pa_cons (pv 1) pa_nil)))) (pss_one (ps_ret (pe_lst (pa_cons (pe_glob (v := .int (-1)) rfl eN ⟨_, rfl⟩) pa_nil)))) pss_nil)
      (pss_cons (ps_if (pt_not (pt_val (pe_call G2 hr rfl m2 k2 b2 .nil pass0 (pa_cons (pv 1) pa_nil)))) (pss_one (ps_ret (pe_lst (pa_cons (pe_glob (v := .int (-2)) rfl eD ⟨_, rfl⟩) pa_nil)))) pss_nil)
      (pss_cons (ps_set (i := 2) scAns.nd rfl (Or.inl rfl) (pe_call G4 hr rfl m4 k4 b4 .nil pass0 (pa_cons (pe_call G3 hr rfl m3 k3 b3 .nil pass0 (pa_cons (pv 1) pa_nil)) pa_nil)))
      (pss_cons (ps_if (pt_val (pe_call G5 hr rfl m5 k5 b5 .nil pass0 (pa_cons (pv 2) (pa_cons (pv 0) pa_nil)))) (pss_one (ps_ret (pe_lst (pa_cons (pe_glob (v := .int (-9)) rfl eM ⟨_, rfl⟩) pa_nil)))) pss_nil)
      (pss_cons (ps_set (i := 3) scAns.nd rfl (Or.inl rfl) (pe_call G6 hr rfl m6 k6 b6 .nil pass0 (pa_cons (pv 2) (pa_cons (pv 0) pa_nil))))
      (pss_cons (ps_if (pt_cmpR op_gt (pe_callB call_len_seq (by rfl) TX.len PySem.boot_len (pa_cons (pv 3) pa_nil)) (pe_op op_add (pe_glob (v := .int 4096) rfl eI ⟨_, rfl⟩) pe_int) (nomark _)) (pss_one (ps_ret (pe_lst (pa_cons (pe_glob (v := .int (-9)) rfl eM ⟨_, rfl⟩) pa_nil)))) pss_nil)
      (pss_cons (ps_set (i := 4) scAns.nd rfl (Or.inl rfl) pe_dnewK)
      (pss_cons (ps_for PassesOwn.never rfl (pi_list (pe_callB cr_sortedA (by rfl) TX.sorted PyProof.Rows.boot_sorted (pa_cons (pv 3) pa_nil))) (pg_name (i := 5) scAns.nd rfl (Or.inl rfl))
        (pss_one (ps_dput hu (pv 4) (pv 5) (pe_op op_add (pe_dget2 hu (pv 4) (pv 5) pe_int ⟨rfl, rfl, rfl, rfl⟩) pe_int) rfl)))
      (pss_cons (ps_set (i := 6) scAns.nd rfl (Or.inl rfl) (pe_lst (pa_cons pe_int pa_nil)))
      (pss_cons (ps_lock (ps_for PassesOwn.never rfl (pi_keys (pv 4)) (pg_name (i := 5) scAns.nd rfl (Or.inl rfl))
        (pss_one (ps_if (pt_cmpR op_gt (pv 5) pe_int (nomark _))
          (pss_one (ps_expr (pe_bm PySem.F.plainAttrs_list PySem.F.slot_list_extend PySem.F.type_list_extend mt_extend (pv 6) (pa_cons (pe_lst (pa_cons (pv 5) (pa_cons (pe_dget hu (pv 4) (pv 5) (fun _ _ => rfl)) pa_nil))) pa_nil)))) pss_nil))))
      (pss_one (ps_ret (pv 6)))))))))))), ?_⟩
    have s1 : 1 ≤ sizeLine := small (by decide)
    have no : ∀ (n : Int) H', PyWqambr.lines z c = [n] → ∀ r, H' r = Option.none → Q (.ref r) (upd H' r (.lst [V.int n])) := fun n H' e r _ => k _ r (by rw [upd_same, e]; rfl)
    refine ⟨_, rfl, a, c, rfl, hA, by omega, fun H1 sm1 => ⟨_, rfl, ?_⟩⟩
    refine ite2 (fun h1 => ?_) (fun h1 => ?_)
    · have h1' : CyG.okCell c = false := by rw [← Sm.cell_ok]; simpa using h1
      exact ⟨s1, fun r nr => no (-1) H1 (Ln.lines_no1 h1') r nr⟩
    have h1' : Sm.cellB c = true := by simpa using h1
    have hc : CyG.okCell c = true := by rw [← Sm.cell_ok]; exact h1'
    unfold Sm.cellB at h1'
    simp only [Bool.and_eq_true, decide_eq_true_eq] at h1'
    have hbd := Sm.small_bd h1'.2.1
    refine ⟨_, rfl, a, c, rfl, sm1.seq hA, h1'.1, hbd, fun H2 sm2 => ⟨_, rfl, ?_⟩⟩
    refine ite2 (fun h2 => ?_) (fun h2 => ?_)
    · have h2' : Cy.rightMat (CyG.crystalIn c []).cell.mat = false := by rw [Sm.right_is]; simpa using h2
      exact ⟨s1, fun r nr => no (-2) H2 (Ln.lines_no2 hc h2') r nr⟩
    have h2' : Cy.rightMat (CyG.crystalIn c []).cell.mat = true := by rw [Sm.right_is]; simpa using h2
    have PD : Ln.Pd (Cy.adj (CyG.crystalIn c []).cell.mat) := Ln.pd_adj (Ln.pd_right (Ln.sym_cell _) h2')
    have hP : (fC c).adj.Pos := by
      rw [← fC_adj]
      exact PD.ps
    have hb64 : ∀ x, x ∈ c → Bt 64 x := fun x hx => bt_small (hbd x hx)
    have h6 : 6 ≤ c.length := by omega
    have sm12 := sm1.trans sm2
    refine ⟨_, rfl, a, c, rfl, sm12.seq hA, h6, fun x hx => Nat.le_trans (hb64 x hx) (by decide), fun ar nar => ?_⟩
    have sar := Same.upd (o := li (adjL c)) nar
    have FA : FB 129 (fC c).adj := by
      have m := adj_bt h6 hb64
      exact ⟨m _ (List.mem_cons_self ..), m _ (List.mem_cons_of_mem _ (List.mem_cons_self ..)), m _ (List.mem_cons_of_mem _ (List.mem_cons_of_mem _ (List.mem_cons_self ..))), m _ (List.mem_cons_of_mem _ (List.mem_cons_of_mem _ (List.mem_cons_of_mem _ (List.mem_cons_self ..)))), m _ (List.mem_cons_of_mem _ (List.mem_cons_of_mem _ (List.mem_cons_of_mem _ (List.mem_cons_of_mem _ (List.mem_cons_self ..))))), m _ (List.mem_cons_of_mem _ (List.mem_cons_of_mem _ (List.mem_cons_of_mem _ (List.mem_cons_of_mem _ (List.mem_cons_of_mem _ (List.mem_cons_self ..))))))⟩
    refine ⟨ar, (fC c).adj, rfl, SqL.of upd_same, FA, hP, hT.same (sm12.trans sar), fun H3 fr u v w' hfr SH F6 _ => ?_⟩
    have ho := SH.one
    have S : Ln.Sf ((fC c).adj.gr u v w') := ⟨Ln.gr_pos hP ho, SH.ba, SH.cb⟩
    have eG : (Ln.ofMat (Cy.adj (CyG.crystalIn c []).cell.mat)).gr u v w' = (fC c).adj.gr u v w' := by rw [fC_adj]
    generalize hG : (fC c).adj.gr u v w' = G at *
    refine ⟨_, rfl, _, rfl, fr, G, z, rfl, SqL.of hfr, F6, _, rfl, ?_⟩
    refine ite2 (fun h3 => ?_) (fun h3 => ?_)
    · have h3' : G.a * (2049 * 2049) ≤ z := of_decide_eq_true h3
      obtain ⟨L, l1, l2, l3⟩ := Ln.crowd S.a0 h3'
      exact ⟨s1, fun r nr => no (-9) H3 (Ln.lines_end hc h2' z0 ho l1 (by rw [eG]; exact l2) l3) r nr⟩
    refine ⟨_, rfl, _, rfl, fr, G, z, rfl, SqL.of hfr, F6, S, z0, zb, fun H4 D L hD nd le all sm4 => ?_⟩
    refine ⟨_, rfl, D, _, rfl, .inl (SqL.of hD), _, _, rfl, rfl, _, _, rfl, rfl, _, rfl, ?_⟩
    rw [List.length_map, List.length_map]
    refine ite2 (fun h4 => ?_) (fun h4 => ?_)
    · have h4' : (4097 : Int) < ((L.length : Nat) : Int) := of_decide_eq_true h4
      exact ⟨s1, fun r nr => no (-9) H4 (Ln.lines_end hc h2' z0 ho nd (by rw [eG]; exact le) (by omega)) r nr⟩
    have h4' : ¬ (4097 : Int) < ((L.length : Nat) : Int) := fun q => h4 (decide_eq_true q)
    have hL : L.length ≤ 4097 := by omega
    -- counts = {}; for number in sorted(found)
    intro d nd'
    have sd := Same.upd (o := HO.dK []) nd'
    refine ⟨_, rfl, D, L.map G.N, rfl, SqL.of (sd _ _ hD), Nat.le_of_lt (smallL (by rw [List.length_map]; omega)), fun Z p pm so np => ⟨p, rfl, ⟨_, SqL.of upd_same⟩, ?_⟩⟩
    have hZl : Z.length ≤ 4097 := by
      rw [pm.length_eq, List.length_map]
      exact hL
    have ans : PyWqambr.lines z c = 0 :: Ln.told (Cy.counted Z) := Ln.lines_end2 hc h2' z0 ho nd (by rw [eG]; exact all hL) hL so (by rw [eG]; exact pm)
    have hd0 : upd H4 d (HO.dK []) d = some (.dK (km (Cy.counted []))) := upd_same
    have ndp : d ≠ p := ne_of_none hd0 np
    refine for_list (K := K) (a := p) (xs := Z.map V.int) (fun i σ H' => ∃ vn : Option V, σ = [some (.int z), some (.ref a), some (.ref fr), some (.ref D), some (.ref d), vn, none] ∧ H' d = some (.dK (km (Cy.counted (Z.take i)))) ∧ H' p = some (li Z))
      ⟨none, rfl, by rw [upd_ne ndp]; exact hd0, upd_same⟩ (fun i σ H' _ ⟨_, _, _, q⟩ => SqL.of q) ?_ ?_
    · rintro i y σ H5 hy ⟨vn, rfl, hd5, hp5⟩
      obtain ⟨x, hx, rfl⟩ := get_ints hy
      have hi : i < Z.length := (List.getElem?_eq_some_iff.mp hx).1
      have et := My.take_snoc hx
      have so' : (Z.take (i + 1)).Pairwise (· ≤ ·) := so.sublist (List.take_sublist ..)
      rw [et] at so'
      have hc5 : (Cy.counted (Z.take i)).length ≤ 4097 := by
        have := Ln.cnt_len (Z.take i)
        rw [List.length_take] at this
        omega
      refine ⟨_, rfl, d, rfl, .inl ⟨_, .inl hd5⟩, _, rfl, _, DGet.k (k := Sum.inl x) hd5, ?_⟩
      rw [get_km]
      refine ⟨_, _, rfl, rfl, _, rfl, _, rfl, d, _, rfl, DPut.k (k := Sum.inl x) hd5 (smallL (by unfold km; rw [List.length_map]; omega)), ?_⟩
      rw [put_km (Ln.cnt_rise (List.Pairwise.sublist (List.take_sublist ..) so)), ← Ln.cnt_snoc so', ← et]
      exact ⟨_, rfl, upd_same, by rw [upd_ne ndp.symm]; exact hp5⟩
    rintro σ H5 ⟨vn, rfl, hd5, hp5⟩
    rw [List.length_map, List.take_length] at hd5
    -- answer = [0]; for number in counts
    refine ⟨s1, fun aw naw => ?_⟩
    have nda : d ≠ aw := ne_of_none hd5 naw
    have rise := Ln.cnt_rise so
    have hcl : (Cy.counted Z).length ≤ 4097 := Nat.le_trans (Ln.cnt_len Z) hZl
    refine ⟨d, .dK (km (Cy.counted Z)), by rw [upd_ne nda]; exact hd5, trivial, fun od => ?_⟩
    refine ⟨_, rfl, d, od, rfl, .inl ⟨_, upd_same, ?_⟩⟩
    refine for_keys (d := d) (o := od) (kvs := km (Cy.counted Z)) (fun i σ H' => ∃ vn : Option V, σ = [some (.int z), some (.ref a), some (.ref fr), some (.ref D), some (.ref d), vn, some (.ref aw)] ∧ H' d = some (.frz od (.dK (km (Cy.counted Z)))) ∧ H' aw = some (li (0 :: Ln.told ((Cy.counted Z).take i))))
      ⟨vn, rfl, upd_same, by rw [upd_ne nda.symm, upd_same]; rfl⟩ (fun i σ H' _ ⟨_, _, q, _⟩ => q) ?_ ?_
    · rintro i ky v σ H6 hk ⟨vn', rfl, hd6, ha6⟩
      obtain ⟨q, hq, e⟩ : ∃ q, (Cy.counted Z)[i]? = some q ∧ (Sum.inl q.1, V.int q.2) = (ky, v) := by
        unfold km at hk
        rw [List.getElem?_map] at hk
        exact Option.map_eq_some_iff.mp hk
      cases e
      have snoc := told_snoc hq
      refine ⟨_, rfl, _, _, rfl, rfl, _, rfl, ?_⟩
      refine ite2 (fun h5 => ?_) (fun h5 => ?_)
      · have h5' : 0 < q.1 := of_decide_eq_true h5
        rw [if_pos h5'] at snoc
        refine ⟨_, rfl, .inl ⟨rfl, _, SqL.of ha6⟩, _, rfl, _, rfl, _, rfl, d, _, rfl, .inl ⟨_, Sum.inl q.1, .inr ⟨od, hd6⟩, rfl, (val_at rise (List.mem_of_getElem? hq)).symm⟩, small (by show 2 ≤ 1000; decide), fun b nb => ?_⟩
        have nab : aw ≠ b := ne_of_none ha6 nb
        have ndb : d ≠ b := ne_of_none hd6 nb
        refine ⟨aw, b, _, _, rfl, rfl, by rw [upd_ne nab]; exact ha6, upd_same, ?_, ?_⟩
        · refine Nat.le_of_lt (smallL ?_)
          have h1 := told_len ((Cy.counted Z).take i)
          rw [List.length_take] at h1
          rw [List.length_map, List.length_cons]
          show _ + 1 + 2 ≤ 1000000
          omega
        · refine ⟨_, rfl, by rw [upd_ne nda, upd_ne ndb]; exact hd6, ?_⟩
          rw [upd_same, snoc]
          show some (HO.lst _) = some (HO.lst _)
          rw [List.map_cons, List.map_cons, List.map_append]
          rfl
      · have h5' : ¬ 0 < q.1 := fun z => h5 (decide_eq_true z)
        rw [if_neg h5', List.append_nil] at snoc
        exact ⟨_, rfl, hd6, by rw [snoc]; exact ha6⟩
    · rintro σ H6 ⟨vn', rfl, hd6, ha6⟩
      refine ⟨hd6, _, rfl, k _ aw ?_⟩
      have el : (km (Cy.counted Z)).length = (Cy.counted Z).length := by
        unfold km
        rw [List.length_map]
      rw [el, List.take_length] at ha6
      rw [upd_ne nda.symm, ha6, ans]
end
end Cr
set_option Elab.async false
set_option maxRecDepth 100000
set_option maxHeartbeats 4000000
namespace Cr
open PySem PySem.Spec PyProof.Rows L2
open PySem.W (Codec)
/-! ### what the top has written, and the row's head -/
theorem len_of {least most : Nat} {p : Int → Bool} {l : List Int} (h : Codec.inList least most p l = true) : l.length ≤ most := by
  unfold Codec.inList Codec.inLen Codec.inNat at h
  simp only [Bool.and_eq_true, decide_eq_true_eq] at h
  exact h.1.2
theorem all_mk {P : Program} {w : World} {K : PySem.W.Frag} {h : Heap} {mg : Str → Option Value} {cT tT fa f_are_within f_are_small f_is_cell f_adjugate f_determinant f_is_right f_times f_length f_less f_shortened f_shortened_by_both f_short_basis f_short_form f_walked f_fitting f_lengths_in_line f_is_crowded f_lengths f_lines : Addr} {t_number t_indices t_told t_nodesc t_many : Tok} (X : K.In h) (G : h.Ns mainGlobals mg) (hfa : mg "lines" = some (.ref fa))
    {od_are_within an_are_within od_are_small an_are_small od_is_cell an_is_cell od_adjugate an_adjugate od_determinant an_determinant od_is_right an_is_right od_times an_times od_length an_length od_less an_less od_shortened an_shortened od_shortened_by_both an_shortened_by_both od_short_basis an_short_basis od_short_form an_short_form od_walked an_walked od_fitting an_fitting od_lengths_in_line an_lengths_in_line od_is_crowded an_is_crowded od_lengths an_lengths od_lines an_lines : Option Addr} {sl_are_within sl_are_small sl_is_cell sl_adjugate sl_determinant sl_is_right sl_times sl_length sl_less sl_shortened sl_shortened_by_both sl_short_basis sl_short_form sl_walked sl_fitting sl_lengths_in_line sl_is_crowded sl_lengths sl_lines : Array (Option Value)} {oc_are_within kV_are_within dc_are_within pm_are_within cd_are_within ct_are_within oc_are_small kV_are_small dc_are_small pm_are_small cd_are_small ct_are_small oc_is_cell kV_is_cell dc_is_cell pm_is_cell cd_is_cell ct_is_cell oc_adjugate kV_adjugate dc_adjugate pm_adjugate cd_adjugate ct_adjugate oc_determinant kV_determinant dc_determinant pm_determinant cd_determinant ct_determinant oc_is_right kV_is_right dc_is_right pm_is_right cd_is_right ct_is_right oc_times kV_times dc_times pm_times cd_times ct_times oc_length kV_length dc_length pm_length cd_length ct_length oc_less kV_less dc_less pm_less cd_less ct_less oc_shortened kV_shortened dc_shortened pm_shortened cd_shortened ct_shortened oc_shortened_by_both kV_shortened_by_both dc_shortened_by_both pm_shortened_by_both cd_shortened_by_both ct_shortened_by_both oc_short_basis kV_short_basis dc_short_basis pm_short_basis ct_short_basis oc_short_form kV_short_form dc_short_form pm_short_form cd_short_form ct_short_form oc_walked kV_walked dc_walked pm_walked cd_walked ct_walked oc_fitting kV_fitting dc_fitting pm_fitting cd_fitting ct_fitting oc_lengths_in_line kV_lengths_in_line dc_lengths_in_line pm_lengths_in_line cd_lengths_in_line ct_lengths_in_line oc_is_crowded kV_is_crowded dc_is_crowded pm_is_crowded cd_is_crowded ct_is_crowded oc_lengths kV_lengths dc_lengths pm_lengths cd_lengths ct_lengths oc_lines kV_lines dc_lines pm_lines cd_lines ct_lines : Value}
    (a_number : PySem.W.nsIn K mainGlobals "LARGEST_NUMBER" = some (some (.int 1048575 t_number)))
    (a_indices : PySem.W.nsIn K mainGlobals "MOST_INDICES" = some (some (.int 4096 t_indices)))
    (a_told : PySem.W.nsIn K mainGlobals "NOT_AS_TOLD" = some (some (.int (-1) t_told)))
    (a_nodesc : PySem.W.nsIn K mainGlobals "NO_DESCRIPTION" = some (some (.int (-2) t_nodesc)))
    (a_many : PySem.W.nsIn K mainGlobals "TOO_MANY" = some (some (.int (-9) t_many)))
    (n_len : PySem.W.nsIn K mainGlobals "len" = some none)
    (n_all : PySem.W.nsIn K mainGlobals "all" = some none)
    (n_range : PySem.W.nsIn K mainGlobals "range" = some none)
    (n_sorted : PySem.W.nsIn K mainGlobals "sorted" = some none)
    (a_are_within : PySem.W.nsIn K mainGlobals "are_within" = some (some (.ref f_are_within))) (l_are_within : K.lookup f_are_within = some ⟨oc_are_within, od_are_within, .func (PySem.W.fnOf "are_within" "are_within" (defArgs sWit) (defBody sWit) (defScope sWit) .none kV_are_within dc_are_within pm_are_within an_are_within cd_are_within ct_are_within), sl_are_within⟩) (c_are_within : PySem.W.codeIn K cd_are_within "are_within" = true) (k_are_within : PySem.W.keepIn K (.ref f_are_within) = true)
    (a_are_small : PySem.W.nsIn K mainGlobals "are_small" = some (some (.ref f_are_small))) (l_are_small : K.lookup f_are_small = some ⟨oc_are_small, od_are_small, .func (PySem.W.fnOf "are_small" "are_small" (defArgs sSml) (defBody sSml) (defScope sSml) .none kV_are_small dc_are_small pm_are_small an_are_small cd_are_small ct_are_small), sl_are_small⟩) (c_are_small : PySem.W.codeIn K cd_are_small "are_small" = true) (k_are_small : PySem.W.keepIn K (.ref f_are_small) = true)
    (a_is_cell : PySem.W.nsIn K mainGlobals "is_cell" = some (some (.ref f_is_cell))) (l_is_cell : K.lookup f_is_cell = some ⟨oc_is_cell, od_is_cell, .func (PySem.W.fnOf "is_cell" "is_cell" (defArgs sCel) (defBody sCel) (defScope sCel) .none kV_is_cell dc_is_cell pm_is_cell an_is_cell cd_is_cell ct_is_cell), sl_is_cell⟩) (c_is_cell : PySem.W.codeIn K cd_is_cell "is_cell" = true) (k_is_cell : PySem.W.keepIn K (.ref f_is_cell) = true)
    (a_adjugate : PySem.W.nsIn K mainGlobals "adjugate" = some (some (.ref f_adjugate))) (l_adjugate : K.lookup f_adjugate = some ⟨oc_adjugate, od_adjugate, .func (PySem.W.fnOf "adjugate" "adjugate" (defArgs sAdj) (defBody sAdj) (defScope sAdj) .none kV_adjugate dc_adjugate pm_adjugate an_adjugate cd_adjugate ct_adjugate), sl_adjugate⟩) (c_adjugate : PySem.W.codeIn K cd_adjugate "adjugate" = true) (k_adjugate : PySem.W.keepIn K (.ref f_adjugate) = true)
    (a_determinant : PySem.W.nsIn K mainGlobals "determinant" = some (some (.ref f_determinant))) (l_determinant : K.lookup f_determinant = some ⟨oc_determinant, od_determinant, .func (PySem.W.fnOf "determinant" "determinant" (defArgs sDet) (defBody sDet) (defScope sDet) .none kV_determinant dc_determinant pm_determinant an_determinant cd_determinant ct_determinant), sl_determinant⟩) (c_determinant : PySem.W.codeIn K cd_determinant "determinant" = true) (k_determinant : PySem.W.keepIn K (.ref f_determinant) = true)
    (a_is_right : PySem.W.nsIn K mainGlobals "is_right" = some (some (.ref f_is_right))) (l_is_right : K.lookup f_is_right = some ⟨oc_is_right, od_is_right, .func (PySem.W.fnOf "is_right" "is_right" (defArgs sRgt) (defBody sRgt) (defScope sRgt) .none kV_is_right dc_is_right pm_is_right an_is_right cd_is_right ct_is_right), sl_is_right⟩) (c_is_right : PySem.W.codeIn K cd_is_right "is_right" = true) (k_is_right : PySem.W.keepIn K (.ref f_is_right) = true)
    (a_times : PySem.W.nsIn K mainGlobals "times" = some (some (.ref f_times))) (l_times : K.lookup f_times = some ⟨oc_times, od_times, .func (PySem.W.fnOf "times" "times" (defArgs sTim) (defBody sTim) (defScope sTim) .none kV_times dc_times pm_times an_times cd_times ct_times), sl_times⟩) (c_times : PySem.W.codeIn K cd_times "times" = true) (k_times : PySem.W.keepIn K (.ref f_times) = true)
    (a_length : PySem.W.nsIn K mainGlobals "length" = some (some (.ref f_length))) (l_length : K.lookup f_length = some ⟨oc_length, od_length, .func (PySem.W.fnOf "length" "length" (defArgs sLen) (defBody sLen) (defScope sLen) .none kV_length dc_length pm_length an_length cd_length ct_length), sl_length⟩) (c_length : PySem.W.codeIn K cd_length "length" = true) (k_length : PySem.W.keepIn K (.ref f_length) = true)
    (a_less : PySem.W.nsIn K mainGlobals "less" = some (some (.ref f_less))) (l_less : K.lookup f_less = some ⟨oc_less, od_less, .func (PySem.W.fnOf "less" "less" (defArgs sLes) (defBody sLes) (defScope sLes) .none kV_less dc_less pm_less an_less cd_less ct_less), sl_less⟩) (c_less : PySem.W.codeIn K cd_less "less" = true) (k_less : PySem.W.keepIn K (.ref f_less) = true)
    (a_shortened : PySem.W.nsIn K mainGlobals "shortened" = some (some (.ref f_shortened))) (l_shortened : K.lookup f_shortened = some ⟨oc_shortened, od_shortened, .func (PySem.W.fnOf "shortened" "shortened" (defArgs sSho) (defBody sSho) (defScope sSho) .none kV_shortened dc_shortened pm_shortened an_shortened cd_shortened ct_shortened), sl_shortened⟩) (c_shortened : PySem.W.codeIn K cd_shortened "shortened" = true) (k_shortened : PySem.W.keepIn K (.ref f_shortened) = true)
    (a_shortened_by_both : PySem.W.nsIn K mainGlobals "shortened_by_both" = some (some (.ref f_shortened_by_both))) (l_shortened_by_both : K.lookup f_shortened_by_both = some ⟨oc_shortened_by_both, od_shortened_by_both, .func (PySem.W.fnOf "shortened_by_both" "shortened_by_both" (defArgs sShb) (defBody sShb) (defScope sShb) .none kV_shortened_by_both dc_shortened_by_both pm_shortened_by_both an_shortened_by_both cd_shortened_by_both ct_shortened_by_both), sl_shortened_by_both⟩) (c_shortened_by_both : PySem.W.codeIn K cd_shortened_by_both "shortened_by_both" = true) (k_shortened_by_both : PySem.W.keepIn K (.ref f_shortened_by_both) = true)
    (a_short_basis : PySem.W.nsIn K mainGlobals "short_basis" = some (some (.ref f_short_basis))) (l_short_basis : K.lookup f_short_basis = some ⟨oc_short_basis, od_short_basis, .func (PySem.W.fnOf "short_basis" "short_basis" (defArgs sBas) (defBody sBas) (defScope sBas) .none kV_short_basis dc_short_basis pm_short_basis an_short_basis (.ref cT) ct_short_basis), sl_short_basis⟩) (c_short_basis : PySem.W.codeIn K (.ref cT) "short_basis" = true) (k_short_basis : PySem.W.keepIn K (.ref f_short_basis) = true)
    (a_short_form : PySem.W.nsIn K mainGlobals "short_form" = some (some (.ref f_short_form))) (l_short_form : K.lookup f_short_form = some ⟨oc_short_form, od_short_form, .func (PySem.W.fnOf "short_form" "short_form" (defArgs sSfo) (defBody sSfo) (defScope sSfo) .none kV_short_form dc_short_form pm_short_form an_short_form cd_short_form ct_short_form), sl_short_form⟩) (c_short_form : PySem.W.codeIn K cd_short_form "short_form" = true) (k_short_form : PySem.W.keepIn K (.ref f_short_form) = true)
    (a_walked : PySem.W.nsIn K mainGlobals "walked" = some (some (.ref f_walked))) (l_walked : K.lookup f_walked = some ⟨oc_walked, od_walked, .func (PySem.W.fnOf "walked" "walked" (defArgs sWal) (defBody sWal) (defScope sWal) .none kV_walked dc_walked pm_walked an_walked cd_walked ct_walked), sl_walked⟩) (c_walked : PySem.W.codeIn K cd_walked "walked" = true) (k_walked : PySem.W.keepIn K (.ref f_walked) = true)
    (a_fitting : PySem.W.nsIn K mainGlobals "fitting" = some (some (.ref f_fitting))) (l_fitting : K.lookup f_fitting = some ⟨oc_fitting, od_fitting, .func (PySem.W.fnOf "fitting" "fitting" (defArgs sFit) (defBody sFit) (defScope sFit) .none kV_fitting dc_fitting pm_fitting an_fitting cd_fitting ct_fitting), sl_fitting⟩) (c_fitting : PySem.W.codeIn K cd_fitting "fitting" = true) (k_fitting : PySem.W.keepIn K (.ref f_fitting) = true)
    (a_lengths_in_line : PySem.W.nsIn K mainGlobals "lengths_in_line" = some (some (.ref f_lengths_in_line))) (l_lengths_in_line : K.lookup f_lengths_in_line = some ⟨oc_lengths_in_line, od_lengths_in_line, .func (PySem.W.fnOf "lengths_in_line" "lengths_in_line" (defArgs sLil) (defBody sLil) (defScope sLil) .none kV_lengths_in_line dc_lengths_in_line pm_lengths_in_line an_lengths_in_line cd_lengths_in_line ct_lengths_in_line), sl_lengths_in_line⟩) (c_lengths_in_line : PySem.W.codeIn K cd_lengths_in_line "lengths_in_line" = true) (k_lengths_in_line : PySem.W.keepIn K (.ref f_lengths_in_line) = true)
    (a_is_crowded : PySem.W.nsIn K mainGlobals "is_crowded" = some (some (.ref f_is_crowded))) (l_is_crowded : K.lookup f_is_crowded = some ⟨oc_is_crowded, od_is_crowded, .func (PySem.W.fnOf "is_crowded" "is_crowded" (defArgs sCrd) (defBody sCrd) (defScope sCrd) .none kV_is_crowded dc_is_crowded pm_is_crowded an_is_crowded cd_is_crowded ct_is_crowded), sl_is_crowded⟩) (c_is_crowded : PySem.W.codeIn K cd_is_crowded "is_crowded" = true) (k_is_crowded : PySem.W.keepIn K (.ref f_is_crowded) = true)
    (a_lengths : PySem.W.nsIn K mainGlobals "lengths" = some (some (.ref f_lengths))) (l_lengths : K.lookup f_lengths = some ⟨oc_lengths, od_lengths, .func (PySem.W.fnOf "lengths" "lengths" (defArgs sLns) (defBody sLns) (defScope sLns) .none kV_lengths dc_lengths pm_lengths an_lengths cd_lengths ct_lengths), sl_lengths⟩) (c_lengths : PySem.W.codeIn K cd_lengths "lengths" = true) (k_lengths : PySem.W.keepIn K (.ref f_lengths) = true)
    (a_lines : PySem.W.nsIn K mainGlobals "lines" = some (some (.ref f_lines))) (l_lines : K.lookup f_lines = some ⟨oc_lines, od_lines, .func (PySem.W.fnOf "lines" "lines" (defArgs sAns) (defBody sAns) (defScope sAns) .none kV_lines dc_lines pm_lines an_lines cd_lines ct_lines), sl_lines⟩) (c_lines : PySem.W.codeIn K cd_lines "lines" = true) (k_lines : PySem.W.keepIn K (.ref f_lines) = true) :
    ∃ fd : FuncData, (∀ (s : Shared) (us : List Value), us.length = (["bound", "cell"] : List Str).length → BindsTo s fd ⟨us, []⟩ ((["bound", "cell"] : List Str).zip us)) ∧ ∀ base : Heap, K.In base → base.Ns mainGlobals mg → LamB mg base cT tT → FnOk P w K mg base CX0 8 fa fd ["bound", "cell"] (spAns K tT) := by
  have e := hfa.symm.trans (PySem.W.mg_of X G a_lines)
  cases e
  have TS : TxtS mg := ⟨⟨_, PySem.W.mg_of X G a_number⟩, PySem.W.mg_none_of X G n_len, PySem.W.mg_none_of X G n_all⟩
  have TL : TxtL mg := ⟨TS, ⟨_, PySem.W.mg_of X G a_indices⟩, ⟨_, PySem.W.mg_of X G a_told⟩, ⟨_, PySem.W.mg_of X G a_nodesc⟩, ⟨_, PySem.W.mg_of X G a_many⟩, PySem.W.mg_none_of X G n_range, PySem.W.mg_none_of X G n_sorted⟩
  have F_are_within := fun_mk (st := sWit) l_are_within c_are_within k_are_within
  have b_are_within := F_are_within.binds (ps := ["numbers", "least", "most"]) fun _ _ _ _ _ _ us hl => match us, hl with | [_, _, _], _ => rfl
  have m_are_within := PySem.W.mg_of X G a_are_within
  have F_are_small := fun_mk (st := sSml) l_are_small c_are_small k_are_small
  have b_are_small := F_are_small.binds (ps := ["numbers"]) fun _ _ _ _ _ _ us hl => match us, hl with | [_], _ => rfl
  have m_are_small := PySem.W.mg_of X G a_are_small
  have F_is_cell := fun_mk (st := sCel) l_is_cell c_is_cell k_is_cell
  have b_is_cell := F_is_cell.binds (ps := ["cell"]) fun _ _ _ _ _ _ us hl => match us, hl with | [_], _ => rfl
  have m_is_cell := PySem.W.mg_of X G a_is_cell
  have F_adjugate := fun_mk (st := sAdj) l_adjugate c_adjugate k_adjugate
  have b_adjugate := F_adjugate.binds (ps := ["form"]) fun _ _ _ _ _ _ us hl => match us, hl with | [_], _ => rfl
  have m_adjugate := PySem.W.mg_of X G a_adjugate
  have F_determinant := fun_mk (st := sDet) l_determinant c_determinant k_determinant
  have b_determinant := F_determinant.binds (ps := ["form"]) fun _ _ _ _ _ _ us hl => match us, hl with | [_], _ => rfl
  have m_determinant := PySem.W.mg_of X G a_determinant
  have F_is_right := fun_mk (st := sRgt) l_is_right c_is_right k_is_right
  have b_is_right := F_is_right.binds (ps := ["cell"]) fun _ _ _ _ _ _ us hl => match us, hl with | [_], _ => rfl
  have m_is_right := PySem.W.mg_of X G a_is_right
  have F_times := fun_mk (st := sTim) l_times c_times k_times
  have b_times := F_times.binds (ps := ["form", "x", "y"]) fun _ _ _ _ _ _ us hl => match us, hl with | [_, _, _], _ => rfl
  have m_times := PySem.W.mg_of X G a_times
  have F_length := fun_mk (st := sLen) l_length c_length k_length
  have b_length := F_length.binds (ps := ["form", "x"]) fun _ _ _ _ _ _ us hl => match us, hl with | [_, _], _ => rfl
  have m_length := PySem.W.mg_of X G a_length
  have F_less := fun_mk (st := sLes) l_less c_less k_less
  have b_less := F_less.binds (ps := ["x", "y", "factor"]) fun _ _ _ _ _ _ us hl => match us, hl with | [_, _, _], _ => rfl
  have m_less := PySem.W.mg_of X G a_less
  have F_shortened := fun_mk (st := sSho) l_shortened c_shortened k_shortened
  have b_shortened := F_shortened.binds (ps := ["form", "x", "a"]) fun _ _ _ _ _ _ us hl => match us, hl with | [_, _, _], _ => rfl
  have m_shortened := PySem.W.mg_of X G a_shortened
  have F_shortened_by_both := fun_mk (st := sShb) l_shortened_by_both c_shortened_by_both k_shortened_by_both
  have b_shortened_by_both := F_shortened_by_both.binds (ps := ["form", "x", "a", "b"]) fun _ _ _ _ _ _ us hl => match us, hl with | [_, _, _, _], _ => rfl
  have m_shortened_by_both := PySem.W.mg_of X G a_shortened_by_both
  have F_short_basis := fun_mk (st := sBas) l_short_basis c_short_basis k_short_basis
  have b_short_basis := F_short_basis.binds (ps := ["form"]) fun _ _ _ _ _ _ us hl => match us, hl with | [_], _ => rfl
  have m_short_basis := PySem.W.mg_of X G a_short_basis
  have F_short_form := fun_mk (st := sSfo) l_short_form c_short_form k_short_form
  have b_short_form := F_short_form.binds (ps := ["form"]) fun _ _ _ _ _ _ us hl => match us, hl with | [_], _ => rfl
  have m_short_form := PySem.W.mg_of X G a_short_form
  have F_walked := fun_mk (st := sWal) l_walked c_walked k_walked
  have b_walked := F_walked.binds (ps := ["p", "q", "r", "start", "step"]) fun _ _ _ _ _ _ us hl => match us, hl with | [_, _, _, _, _], _ => rfl
  have m_walked := PySem.W.mg_of X G a_walked
  have F_fitting := fun_mk (st := sFit) l_fitting c_fitting k_fitting
  have b_fitting := F_fitting.binds (ps := ["p", "q", "r"]) fun _ _ _ _ _ _ us hl => match us, hl with | [_, _, _], _ => rfl
  have m_fitting := PySem.W.mg_of X G a_fitting
  have F_lengths_in_line := fun_mk (st := sLil) l_lengths_in_line c_lengths_in_line k_lengths_in_line
  have b_lengths_in_line := F_lengths_in_line.binds (ps := ["form", "bound", "y", "z"]) fun _ _ _ _ _ _ us hl => match us, hl with | [_, _, _, _], _ => rfl
  have m_lengths_in_line := PySem.W.mg_of X G a_lengths_in_line
  have F_is_crowded := fun_mk (st := sCrd) l_is_crowded c_is_crowded k_is_crowded
  have b_is_crowded := F_is_crowded.binds (ps := ["form", "bound"]) fun _ _ _ _ _ _ us hl => match us, hl with | [_, _], _ => rfl
  have m_is_crowded := PySem.W.mg_of X G a_is_crowded
  have F_lengths := fun_mk (st := sLns) l_lengths c_lengths k_lengths
  have b_lengths := F_lengths.binds (ps := ["form", "bound"]) fun _ _ _ _ _ _ us hl => match us, hl with | [_, _], _ => rfl
  have m_lengths := PySem.W.mg_of X G a_lengths
  have F_lines := fun_mk (st := sAns) l_lines c_lines k_lines
  refine ⟨PySem.W.fnOf "lines" "lines" (defArgs sAns) (defBody sAns) (defScope sAns) .none kV_lines dc_lines pm_lines an_lines cd_lines ct_lines, fun s us hu => match us, hu with | [_, _], _ => .of_eq rfl, fun base _ _ LB => ?_⟩
  have C_are_within : Cal P w K mg base 1 "are_within" ["numbers", "least", "most"] (spWit K) := ⟨_, _, ok_wit F_are_within TS, b_are_within, m_are_within, F_are_within.kp⟩
  have C_are_small : Cal P w K mg base 2 "are_small" ["numbers"] (spL K Sm.smallB) := ⟨_, _, ok_sml F_are_small TS C_are_within, b_are_small, m_are_small, F_are_small.kp⟩
  have C_is_cell : Cal P w K mg base 3 "is_cell" ["cell"] (spL K Sm.cellB) := ⟨_, _, ok_cel F_is_cell TS C_are_small, b_is_cell, m_is_cell, F_is_cell.kp⟩
  have C_adjugate : Cal P w K mg base 1 "adjugate" ["form"] (spAdj K) := ⟨_, _, ok_adj F_adjugate, b_adjugate, m_adjugate, F_adjugate.kp⟩
  have C_determinant : Cal P w K mg base 2 "determinant" ["form"] (spDet K) := ⟨_, _, ok_det F_determinant C_adjugate, b_determinant, m_determinant, F_determinant.kp⟩
  have C_is_right : Cal P w K mg base 3 "is_right" ["cell"] (spRgt K) := ⟨_, _, ok_rgt F_is_right C_determinant, b_is_right, m_is_right, F_is_right.kp⟩
  have C_times : Cal P w K mg base 1 "times" ["form", "x", "y"] (spTim K) := ⟨_, _, ok_tim F_times, b_times, m_times, F_times.kp⟩
  have C_length : Cal P w K mg base 2 "length" ["form", "x"] (spLen K) := ⟨_, _, ok_len F_length C_times, b_length, m_length, F_length.kp⟩
  have C_less : Cal P w K mg base 1 "less" ["x", "y", "factor"] (spLes K) := ⟨_, _, ok_les F_less TL, b_less, m_less, F_less.kp⟩
  have C_shortened : Cal P w K mg base 3 "shortened" ["form", "x", "a"] (spSho K) := ⟨_, _, ok_sho F_shortened (C_times.lift (by decide)) C_length (C_less.lift (by decide)), b_shortened, m_shortened, F_shortened.kp⟩
  have C_shortened_by_both : Cal P w K mg base 4 "shortened_by_both" ["form", "x", "a", "b"] (spShb K) := ⟨_, _, ok_shb F_shortened_by_both (C_times.lift (by decide)) (C_length.lift (by decide)) (C_less.lift (by decide)) C_shortened, b_shortened_by_both, m_shortened_by_both, F_shortened_by_both.kp⟩
  have C_short_basis : Cal P w K mg base 6 "short_basis" ["form"] (spBas K tT) := ⟨_, _, ok_bas l_short_basis c_short_basis TL LB C_length (C_length.lift (by decide)) (C_shortened.lift (by decide)) (C_shortened_by_both.lift (by decide)), b_short_basis, m_short_basis, F_short_basis.kp⟩
  have C_short_form : Cal P w K mg base 7 "short_form" ["form"] (spSfo K tT) := ⟨_, _, ok_sfo F_short_form C_short_basis (C_length.lift (by decide)) (C_times.lift (by decide)), b_short_form, m_short_form, F_short_form.kp⟩
  have C_walked : Cal P w K mg base 1 "walked" ["p", "q", "r", "start", "step"] spWal := ⟨_, _, ok_wal F_walked, b_walked, m_walked, F_walked.kp⟩
  have C_fitting : Cal P w K mg base 2 "fitting" ["p", "q", "r"] spFit := ⟨_, _, ok_fit F_fitting C_walked, b_fitting, m_fitting, F_fitting.kp⟩
  have C_lengths_in_line : Cal P w K mg base 3 "lengths_in_line" ["form", "bound", "y", "z"] (spLil K) := ⟨_, _, ok_lil F_lengths_in_line C_fitting, b_lengths_in_line, m_lengths_in_line, F_lengths_in_line.kp⟩
  have C_is_crowded : Cal P w K mg base 1 "is_crowded" ["form", "bound"] (spCrd K) := ⟨_, _, ok_crd F_is_crowded TL, b_is_crowded, m_is_crowded, F_is_crowded.kp⟩
  have C_lengths : Cal P w K mg base 4 "lengths" ["form", "bound"] (spLns K) := ⟨_, _, ok_lns F_lengths TL (C_adjugate.lift (by decide)) (C_determinant.lift (by decide)) (C_fitting.lift (by decide)) C_lengths_in_line, b_lengths, m_lengths, F_lengths.kp⟩
  exact ok_ans F_lines TL (C_is_cell.lift (by decide)) (C_is_right.lift (by decide)) (C_adjugate.lift (by decide)) C_short_form (C_is_crowded.lift (by decide)) (C_lengths.lift (by decide))
end Cr
open PySem PySem.W PyProof.Rows
set_option maxRecDepth 100000 in
set_option maxHeartbeats 0 in
theorem PySem.Challenge.cw_crystalsums_s09_lines_holds : PySem.Challenge.rw_crystalsums_s09_lines.Holds := by
  w_on; k_headS; (case hw => exact ⟨[.int 1, .list []], by decide +kernel, by decide +kernel⟩)
  k_fillS
  refine L2.walk_specT (r := PySem.Challenge.rw_crystalsums_s09_lines) (k := 8) (CX := L2.CX0) (ps := ["bound", "cell"]) (x := "short_basis") (c := 93) (T := 89) (sp := fun K tT => Cr.spAns K tT) (by decide +kernel) rfl rfl ⟨rfl, by decide, by decide⟩ (fun w h Y => PySem.W.kIn_of Y) rfl (fun _ => by kernel_rfl) (fun _ => by kernel_rfl) ?F ?S (fun _ _ _ _ z => z)
  case F =>
    intro w mg fa h Y KX G hmg
    refine' Cr.all_mk KX G hmg ?a_number ?a_indices ?a_told ?a_nodesc ?a_many ?n_len ?n_all ?n_range ?n_sorted ?a_are_within ?l_are_within ?c_are_within ?k_are_within ?a_are_small ?l_are_small ?c_are_small ?k_are_small ?a_is_cell ?l_is_cell ?c_is_cell ?k_is_cell ?a_adjugate ?l_adjugate ?c_adjugate ?k_adjugate ?a_determinant ?l_determinant ?c_determinant ?k_determinant ?a_is_right ?l_is_right ?c_is_right ?k_is_right ?a_times ?l_times ?c_times ?k_times ?a_length ?l_length ?c_length ?k_length ?a_less ?l_less ?c_less ?k_less ?a_shortened ?l_shortened ?c_shortened ?k_shortened ?a_shortened_by_both ?l_shortened_by_both ?c_shortened_by_both ?k_shortened_by_both ?a_short_basis ?l_short_basis ?c_short_basis ?k_short_basis ?a_short_form ?l_short_form ?c_short_form ?k_short_form ?a_walked ?l_walked ?c_walked ?k_walked ?a_fitting ?l_fitting ?c_fitting ?k_fitting ?a_lengths_in_line ?l_lengths_in_line ?c_lengths_in_line ?k_lengths_in_line ?a_is_crowded ?l_is_crowded ?c_is_crowded ?k_is_crowded ?a_lengths ?l_lengths ?c_lengths ?k_lengths ?a_lines ?l_lines ?c_lines ?k_lines
    (case a_number => k_is); (case a_indices => k_is); (case a_told => k_is); (case a_nodesc => k_is); (case a_many => k_is); (case n_len => k_is)
    (case n_all => k_is); (case n_range => k_is); (case n_sorted => k_is); (case a_are_within => k_is); (case l_are_within => k_is); (case c_are_within => k_is)
    (case k_are_within => k_is); (case a_are_small => k_is); (case l_are_small => k_is); (case c_are_small => k_is); (case k_are_small => k_is); (case a_is_cell => k_is)
    (case l_is_cell => k_is); (case c_is_cell => k_is); (case k_is_cell => k_is); (case a_adjugate => k_is); (case l_adjugate => k_is); (case c_adjugate => k_is)
    (case k_adjugate => k_is); (case a_determinant => k_is); (case l_determinant => k_is); (case c_determinant => k_is); (case k_determinant => k_is); (case a_is_right => k_is)
    (case l_is_right => k_is); (case c_is_right => k_is); (case k_is_right => k_is); (case a_times => k_is); (case l_times => k_is); (case c_times => k_is)
    (case k_times => k_is); (case a_length => k_is); (case l_length => k_is); (case c_length => k_is); (case k_length => k_is); (case a_less => k_is)
    (case l_less => k_is); (case c_less => k_is); (case k_less => k_is); (case a_shortened => k_is); (case l_shortened => k_is); (case c_shortened => k_is)
    (case k_shortened => k_is); (case a_shortened_by_both => k_is); (case l_shortened_by_both => k_is); (case c_shortened_by_both => k_is); (case k_shortened_by_both => k_is); (case a_short_basis => k_is)
    (case l_short_basis => k_is); (case c_short_basis => k_is); (case k_short_basis => k_is); (case a_short_form => k_is); (case l_short_form => k_is); (case c_short_form => k_is)
    (case k_short_form => k_is); (case a_walked => k_is); (case l_walked => k_is); (case c_walked => k_is); (case k_walked => k_is); (case a_fitting => k_is)
    (case l_fitting => k_is); (case c_fitting => k_is); (case k_fitting => k_is); (case a_lengths_in_line => k_is); (case l_lengths_in_line => k_is); (case c_lengths_in_line => k_is)
    (case k_lengths_in_line => k_is); (case a_is_crowded => k_is); (case l_is_crowded => k_is); (case c_is_crowded => k_is); (case k_is_crowded => k_is); (case a_lengths => k_is)
    (case l_lengths => k_is); (case c_lengths => k_is); (case k_lengths => k_is); (case a_lines => k_is); (case l_lines => k_is); (case c_lines => k_is)
    (case k_lines => k_is)
  case S =>
    intro K H xs a hO hwi hask hx
    obtain ⟨z0, z1, u⟩ := a
    have q : (Codec.inInt 0 4294967295 z0 && (Codec.inList 0 7 (Codec.inInt (-4611686018427387904) 4611686018427387904) z1 && true)) = true := hwi
    simp only [Bool.and_eq_true] at q
    obtain ⟨q0, q1, _⟩ := q
    have lq0 := Codec.inInt_iff.mp q0
    have lq1 : z1.length ≤ 7 := Cr.len_of q1
    cases hx with
    | cons h0 r0 =>
      cases r0 with
      | cons h1 r1 =>
        cases r1
        cases h0
        cases h1 with
        | lst s1 d1 =>
          have e1 := L2.ints_dw z1 _ d1
          subst e1
          exact ⟨z0, _, z1, rfl, s1, lq1, lq0.1, lq0.2, .inl hO, fun H' p hp => .lst (L2.SqL.of hp) (L2.dw_ints _)⟩
#print axioms PySem.Challenge.cw_crystalsums_s09_lines_holds
