import PyProof.Rows.All
import Wide.All
import OpenK.AllK
import Wide.FinOn
import PyProof.EqAt
import PyProof.EqKinds
import PyProof.TupleCall
import KE.BitLaws
import KE.KSortTupG
import KE.KNest
import PyProof.FactsAll.set_1
import KE.KDictSum
import KE.KLam
import KE.KSortKeySt
import KE.KUnpack
import PyProof.NeKinds
import PyProof.FactsAll.list_2
import PyProof.Rows.RowHeap
import PyProof.TupleOfGen
import PyProof.Draws
import PyProof.EnumMake
import KE.KNestM
import PySem.Challenge.RW_squareweb_k21_whole_pushes_in_one_way
set_option Elab.async false
set_option linter.all false
set_option maxRecDepth 100000
/-! THE HAND LAYER, for ints, bools, texts, own classes, lists, tuples, dicts, comprehensions, walks over dicts, enumerate, zip, reversed, texts, calls, loops. Paste it whole ahead of your own text; what your proof does not reach may be deleted. -/
namespace L2
open PySem PySem.Spec PyProof.Rows

/-- a key: an int or a str -/
abbrev Key := Sum Int Str
def keyIs : Key → Value → Bool
  | .inl k, v => Value.isInt k v
  | .inr x, v => Value.isStrOf x v
def keyH (w : World) : Key → Int
  | .inl k => hashInt k
  | .inr x => hashStr w x
theorem keyIs_shape : ∀ {k : Key} {v : Value}, keyIs k v = true → (∃ i t, k = Sum.inl i ∧ v = Value.int i t) ∨ (∃ x t, k = Sum.inr x ∧ v = Value.str x t)
  | .inl i, v, h => by
    obtain ⟨t, e⟩ := Value.isInt_shape (k := i) (v := v) h
    exact .inl ⟨i, t, rfl, e⟩
  | .inr x, v, h => by
    obtain ⟨t, e⟩ := Value.isStrOf_shape (x := x) (v := v) h
    exact .inr ⟨x, t, rfl, e⟩
theorem keyIs_int (i : Int) (t : Tok) : keyIs (.inl i) (.int i t) = true := by simp [keyIs, Value.isInt]
theorem keyIs_str (x : Str) (t : Tok) : keyIs (.inr x) (.str x t) = true := by simp [keyIs, Value.isStrOf]
theorem key_ll (a b : Int) : decide ((Sum.inl a : Key) = Sum.inl b) = (a == b) := by
  by_cases e : a = b
  · subst e; simp
  · have h : ¬ (Sum.inl a : Key) = Sum.inl b := fun q => e (Sum.inl.inj q)
    rw [decide_eq_false h]
    exact (beq_eq_false_iff_ne.mpr e).symm
theorem key_rr (a b : Str) : decide ((Sum.inr a : Key) = Sum.inr b) = decide (a = b) := by
  by_cases e : a = b
  · subst e; simp
  · have h : ¬ (Sum.inr a : Key) = Sum.inr b := fun q => e (Sum.inr.inj q)
    rw [decide_eq_false h, decide_eq_false e]
theorem key_lr (a : Int) (b : Str) : decide ((Sum.inl a : Key) = Sum.inr b) = false := decide_eq_false (fun q => nomatch q)
theorem key_rl (a : Str) (b : Int) : decide ((Sum.inr a : Key) = Sum.inl b) = false := decide_eq_false (fun q => nomatch q)

def mixKind (prog : Program) (w : World) : PySem.KeyKind prog w Key where
  is := keyIs
  hash := keyH w
  inj := fun v a b ha hb => by
    rcases keyIs_shape ha with ⟨i, t, rfl, rfl⟩ | ⟨x, t, rfl, rfl⟩
    · rcases keyIs_shape hb with ⟨j, u, rfl, e⟩ | ⟨y, u, rfl, e⟩
      · injection e with e1 _; rw [e1]
      · exact nomatch e
    · rcases keyIs_shape hb with ⟨j, u, rfl, e⟩ | ⟨y, u, rfl, e⟩
      · exact nomatch e
      · injection e with e1 _; rw [e1]
  byValue := fun k v h => by
    rcases keyIs_shape h with ⟨i, t, rfl, rfl⟩ | ⟨x, t, rfl, rfl⟩ <;> rfl
  pyHash := fun hv h => by
    rcases keyIs_shape hv with ⟨i, t, rfl, rfl⟩ | ⟨x, t, rfl, rfl⟩
    · exact wpAny_pyHash_int h
    · exact wpAny_pyHash_str h
  eqBool := fun hu hv h => by
    rcases keyIs_shape hu with ⟨i, t, rfl, rfl⟩ | ⟨x, t, rfl, rfl⟩
    · rcases keyIs_shape hv with ⟨j, u, rfl, rfl⟩ | ⟨y, u, rfl, rfl⟩
      · rw [key_ll] at h; exact wpAny_eqBool_int h
      · rw [key_lr] at h; exact SeqAt.EqAt.int_str i t y u _ _ _ _ h
    · rcases keyIs_shape hv with ⟨j, u, rfl, rfl⟩ | ⟨y, u, rfl, rfl⟩
      · rw [key_rl] at h; exact SeqAt.EqAt.str_int x t j u _ _ _ _ h
      · rw [key_rr] at h; exact wpAny_eqBool_str h
  «strs» := fun k x t v h => by
    rcases keyIs_shape h with ⟨i, u, rfl, e⟩ | ⟨y, u, rfl, e⟩
    · exact nomatch e
    · injection e with e1 _
      subst e1
      cases v <;> rfl

theorem mixKind_int (prog : Program) (w : World) (i : Int) (t : Tok) : (mixKind prog w).is (.inl i) (.int i t) = true := keyIs_int i t
theorem mixKind_str (prog : Program) (w : World) (x : Str) (t : Tok) : (mixKind prog w).is (.inr x) (.str x t) = true := keyIs_str x t
end L2

namespace L2
open PySem PySem.Spec PyProof.Rows

/-- a value, without the heap -/
inductive V where
  | non | bl (b : Bool) | int (i : Int) | str (x : Str) | byt (b : Array UInt8) | flt (b : UInt64) | ref (a : Addr) | ty (n : String)
  deriving DecidableEq

def RelV : V → Value → Prop
  | .non, u => u = Value.none
  | .bl b, u => u = Value.bool b
  | .int i, u => ∃ t, u = Value.int i t
  | .str x, u => ∃ t, u = Value.str x t
  | .byt b, u => ∃ t, u = Value.bytes b t
  | .flt b, u => ∃ t, u = Value.float b t
  | .ref a, u => u = Value.ref a
  | .ty n, u => u = Value.type n

abbrev Vals : List V → List Value → Prop := Paired RelV
theorem Vals.length {xs : List V} {us : List Value} (r : Vals xs us) : xs.length = us.length := Paired.length r
theorem Vals.get : ∀ {xs : List V} {us : List Value} {i : Nat} {x : V}, Vals xs us → xs[i]? = some x → ∃ u, us[i]? = some u ∧ RelV x u
  | _, _, _, _, .nil, e => by simp at e
  | _, _, 0, _, .cons r _, e => by simp at e; subst e; exact ⟨_, rfl, r⟩
  | _, _, i + 1, x, .cons _ t, e => by
    obtain ⟨u, h1, h2⟩ := Vals.get (i := i) (x := x) t (by simpa using e)
    exact ⟨u, by simpa using h1, h2⟩
theorem Vals.set {x : V} {u : Value} (r : RelV x u) : ∀ {xs : List V} {us : List Value} (i : Nat), Vals xs us → Vals (xs.set i x) (us.set i u)
  | _, _, _, .nil => .nil
  | _, _, 0, .cons _ t => .cons r t
  | _, _, i + 1, .cons q t => .cons q (Vals.set r i t)
theorem Vals.append : ∀ {xs ys : List V} {us ws : List Value}, Vals xs us → Vals ys ws → Vals (xs ++ ys) (us ++ ws)
  | _, _, _, _, .nil, s => s
  | _, _, _, _, .cons r t, s => .cons r (Vals.append t s)
theorem Vals.take : ∀ {xs : List V} {us : List Value} (n : Nat), Vals xs us → Vals (xs.take n) (us.take n)
  | _, _, 0, _ => .nil
  | _, _, _ + 1, .nil => .nil
  | _, _, n + 1, .cons r t => .cons r (Vals.take n t)
theorem Vals.drop : ∀ {xs : List V} {us : List Value} (n : Nat), Vals xs us → Vals (xs.drop n) (us.drop n)
  | _, _, 0, r => r
  | _, _, _ + 1, .nil => .nil
  | _, _, n + 1, .cons _ t => Vals.drop n t
def RelO : Option V → Option Value → Prop
  | some v, some u => RelV v u
  | none, none => True
  | _, _ => False
def KV {κ : Type} : List (κ × V) → List (κ × Value) → Prop := Paired fun (p : κ × V) (q : κ × Value) => p.1 = q.1 ∧ RelV p.2 q.2

/-- a key of a dict (00_mix): an int or a text -/
def kV : Key → V
  | .inl i => .int i
  | .inr x => .str x

/-- what stands at a tracked address -/
inductive HO where
  /-- a list -/
  | lst (xs : List V)
  /-- a tuple (never changes) -/
  | tup (xs : List V)
  /-- a dict whose keys are ints and texts; one whose keys are tuples of ints and texts (the empty one is both) -/
  | dK (kvs : List (Key × V)) | dT (kvs : List (List Key × V))
  /-- a set of ints: its members, its size -/
  | set (S : Int → Bool) (n : Nat)
  /-- an instance of the class at C, its dict at dx, its attributes -/
  | ins (C dx : Addr) (fs : List (Str × V))
  /-- the dict of the instance at x -/
  | own (x : Addr)
  /-- the dict of an exception -/
  | xd (fs : List (Str × V))
  /-- a bound method, f of x -/
  | met (f x : Addr)
  /-- a range object lo, lo + 1, .. below hi -/
  | rng (lo hi : Int)
  /-- a thing that is known to the object (the script; a dict while a loop walks it): read, never written while it is so -/
  | frz (o : Obj) (u : HO)
  /-- a code object's table -/
  | tbl (ps : Array Value)
  /-- any other thing, by what is true of its one object (a def of one's own: SetO a S n := HO.ext fun h => ..) -/
  | ext (φ : Heap → Prop)

abbrev Hp := Addr → Option HO
def upd (H : Hp) (a : Addr) (o : HO) : Hp := fun b => if b = a then some o else H b
theorem upd_same {H : Hp} {a : Addr} {o : HO} : upd H a o a = some o := by unfold upd; rw [if_pos rfl]
theorem upd_ne {H : Hp} {a b : Addr} {o : HO} (h : b ≠ a) : upd H a o b = H b := by unfold upd; rw [if_neg h]
/-- two objects of different content stand apart -/
theorem ne_of {H : Hp} {a b : Addr} {o u : HO} (h : H a = some o) (h' : H b = some u) (d : o ≠ u) : a ≠ b := by
  intro e; subst e; rw [h] at h'; exact d (Option.some.inj h')
theorem ne_of_none {H : Hp} {a b : Addr} {o : HO} (h : H a = some o) (h' : H b = none) : a ≠ b := by
  intro e; subst e; rw [h] at h'; cases h'

/-- a tuple that has no dict -/
def IsTupN (h : Heap) (a : Addr) (items : Array Value) : Prop := ∃ o, h.get? a = some o ∧ (o.cls, o.dict) = (Value.type "tuple", (none : Option Addr)) ∧ ∃ n, o.data = .seq items n
theorem IsTupN.lt {h : Heap} {a : Addr} {items : Array Value} (x : IsTupN h a items) : a < h.objs.size := let ⟨_, ho, _⟩ := x; Heap.lt_size ho
theorem IsTupN.tup {h : Heap} {a : Addr} {items : Array Value} (x : IsTupN h a items) : IsTup h a items := let ⟨o, ho, hc, r⟩ := x; ⟨o, ho, congrArg Prod.fst hc, r⟩
theorem IsTupN.new (h : Heap) (items : Array Value) : IsTupN (h.push { cls := .type "tuple", data := .seq items }) h.objs.size items := ⟨_, Heap.get?_push_size _ rfl, rfl, _, rfl⟩
section
variable (P : Program) (w : World)
def ObjOk (H : Hp) (h : Heap) (a : Addr) : HO → Prop
  | .lst xs => xs.length ≤ sizeLine ∧ ∃ (its : List Value) (n : Nat), Vals xs its ∧ h.get? a = some { cls := .type "list", data := .seq its.toArray n }
  | .tup xs => xs.length ≤ sizeLine ∧ ∃ its : List Value, Vals xs its ∧ IsTupN h a its.toArray
  | .dK kvs => kvs.length ≤ sizeLine ∧ (a == sysModules) = false ∧ ∃ vs, KV kvs vs ∧ h.DictOf (mixKind P w) a vs
  | .dT kvs => kvs.length ≤ sizeLine ∧ (a == sysModules) = false ∧ ∃ xs : List (List Key × Addr × Value),
      Paired (fun (p : List Key × V) (q : List Key × Addr × Value) => p.1 = q.1 ∧ H q.2.1 = some (.tup (p.1.map kV)) ∧ RelV p.2 q.2.2) kvs xs ∧
      ∃ o es ep, h.get? a = some o ∧ o.ExactDict ∧ o.data = .dict es ep ∧ es.toList = xs.map (entryOfKey (tupleKind (mixKind P w))) ∧ (xs.map (·.1)).Nodup
  | .set S n => h.SetOf (intKind P w) a S n
  | .ins C dx fs => H dx = some (.own a) ∧ fs.length ≤ 1000 ∧ dx ≠ a ∧ h.get? a = some (PySem.W.instObj C dx) ∧
      ∃ mA, h.Ns1 dx mA ∧ (∀ f, RelO (fs.lookup f) (mA f)) ∧ PySem.Within mA (fs.map (·.1))
  | .own _ => ∃ o, h.get? a = some o
  | .xd fs => ∃ mA, h.Ns1 a mA ∧ ∀ f, RelO (fs.lookup f) (mA f)
  | .rng lo hi => ∃ t u v, h.get? a = some { cls := .type "range", data := .fields #[.int lo t, .int hi u, .int 1 v] }
  | .frz o u => h.get? a = some o ∧ ObjOk H h a u
  | .tbl ps => h.get? a = some { cls := .none, data := .fields ps }
  | .met f x => h.get? a = some (PySem.W.methodObj (.ref f) (.ref x))
  | .ext φ => φ h ∧ (∃ o, h.get? a = some o) ∧ ∀ h1 h2 : Heap, φ h1 → (∀ o, h1.get? a = some o → h2.get? a = some o) → φ h2
/-- the abstract heap is held -/
def HOk (H : Hp) (h : Heap) : Prop := ∀ a o, H a = some o → ObjOk P w H h a o
end

section
variable {P : Program} {w : World} {H H' : Hp} {h h' : Heap} {a : Addr} {o : HO}
theorem ObjOk.lt (x : ObjOk P w H h a o) : a < h.objs.size := by
  cases o with
  | lst xs => obtain ⟨_, _, _, _, e⟩ := x; exact Heap.lt_size e
  | tup xs => obtain ⟨_, _, _, p⟩ := x; exact p.lt
  | dK kvs => obtain ⟨_, _, _, _, o, _, _, e, _⟩ := x; exact Heap.lt_size e
  | dT kvs => obtain ⟨_, _, _, _, o, _, _, e, _⟩ := x; exact Heap.lt_size e
  | set S n => obtain ⟨o, _, _, _, e, _⟩ := x; exact Heap.lt_size e
  | ins C dx fs => obtain ⟨_, _, _, e, _⟩ := x; exact Heap.lt_size e
  | own y => obtain ⟨_, e⟩ := x; exact Heap.lt_size e
  | xd fs => obtain ⟨_, ⟨_, _, _, e, _⟩, _⟩ := x; exact Heap.lt_size e
  | rng lo hi => obtain ⟨_, _, _, e⟩ := x; exact Heap.lt_size e
  | frz ob u => obtain ⟨e, _⟩ := x; exact Heap.lt_size e
  | tbl ps => exact Heap.lt_size (show h.get? a = some _ from x)
  | met f y => exact Heap.lt_size (show h.get? a = some _ from x)
  | ext φ => obtain ⟨_, ⟨_, e⟩, _⟩ := x; exact Heap.lt_size e
theorem Paired.mapP {α β : Type} {F G : α → β → Prop} : ∀ {l₁ : List α} {l₂ : List β}, Paired F l₁ l₂ → (∀ a b, F a b → G a b) → Paired G l₁ l₂
  | _, _, .nil, _ => .nil
  | _, _, .cons r t, f => .cons (f _ _ r) (Paired.mapP t f)
/-- what an object's description leans on: its own object, its own dict, the tuples -/
theorem ObjOk.stay (x : ObjOk P w H h a o) (k : ∀ b u, (b = a ∨ H b = some (.own a)) → h.get? b = some u → h'.get? b = some u)
    (ho : ∀ b, H b = some (.own a) → H' b = some (.own a)) (ht : ∀ b xs, H b = some (.tup xs) → H' b = some (.tup xs)) : ObjOk P w H' h' a o := by
  induction o with
  | lst xs => obtain ⟨z, its, n, r, e⟩ := x; exact ⟨z, its, n, r, k _ _ (.inl rfl) e⟩
  | tup xs => obtain ⟨z, its, r, ob, e, c⟩ := x; exact ⟨z, its, r, ob, k _ _ (.inl rfl) e, c⟩
  | dK kvs => obtain ⟨z, y, vs, r, ob, es, ep, e, c⟩ := x; exact ⟨z, y, vs, r, ob, es, ep, k _ _ (.inl rfl) e, c⟩
  | dT kvs =>
    obtain ⟨z, y, xs, r, ob, es, ep, e, c⟩ := x
    exact ⟨z, y, xs, Paired.mapP r fun p q z => ⟨z.1, ht _ _ z.2.1, z.2.2⟩, ob, es, ep, k _ _ (.inl rfl) e, c⟩
  | set S n => obtain ⟨ob, es, ep, t, e, c⟩ := x; exact ⟨ob, es, ep, t, k _ _ (.inl rfl) e, c⟩
  | ins C dx fs =>
    obtain ⟨d, z, ne, e, mA, ⟨od, es, ep, e2, c⟩, r⟩ := x
    exact ⟨ho _ d, z, ne, k _ _ (.inl rfl) e, mA, ⟨od, es, ep, k _ _ (.inr d) e2, c⟩, r⟩
  | own y => obtain ⟨ob, e⟩ := x; exact ⟨ob, k _ _ (.inl rfl) e⟩
  | xd fs => obtain ⟨mA, ⟨od, es, ep, e, c⟩, r⟩ := x; exact ⟨mA, ⟨od, es, ep, k _ _ (.inl rfl) e, c⟩, r⟩
  | rng lo hi => obtain ⟨t, u, v, e⟩ := x; exact ⟨t, u, v, k _ _ (.inl rfl) e⟩
  | frz ob u ih => obtain ⟨e, q⟩ := x; exact ⟨k _ _ (.inl rfl) e, ih q⟩
  | tbl ps =>
    have e : h.get? a = some { cls := .none, data := .fields ps } := x
    show h'.get? a = some { cls := .none, data := .fields ps }
    exact k a _ (.inl rfl) e
  | met f y =>
    have e : h.get? a = some (PySem.W.methodObj (.ref f) (.ref y)) := x
    show h'.get? a = some (PySem.W.methodObj (.ref f) (.ref y))
    exact k a _ (.inl rfl) e
  | ext φ => obtain ⟨p, ⟨o, e⟩, st⟩ := x; exact ⟨st _ _ p fun o q => k _ _ (.inl rfl) q, ⟨o, k _ _ (.inl rfl) e⟩, st⟩
theorem HOk.lt (x : HOk P w H h) (e : H a = some o) : a < h.objs.size := (x a o e).lt
theorem HOk.fresh (x : HOk P w H h) (e : h.objs.size ≤ a) : H a = none := by
  cases q : H a with
  | none => rfl
  | some u => exact absurd (Nat.lt_of_lt_of_le (x.lt q) e) (Nat.lt_irrefl _)
/-- every object of the heap is kept -/
theorem HOk.kept (x : HOk P w H h) (k : ∀ b u, h.get? b = some u → h'.get? b = some u) : HOk P w H h' := fun a o e =>
  (x a o e).stay (fun b u _ q => k b u q) (fun _ q => q) fun _ _ q => q
/-- a new object is laid and tracked -/
theorem HOk.laid (x : HOk P w H h) (k : ∀ b u, h.get? b = some u → h'.get? b = some u) (hp : h.objs.size ≤ a) (new : ObjOk P w (upd H a o) h' a o) : HOk P w (upd H a o) h' := fun b u e => by
  have hn := x.fresh hp
  by_cases hb : b = a
  · subst hb; rw [upd_same] at e; cases e; exact new
  · rw [upd_ne hb] at e
    exact (x b u e).stay (fun c v _ q => k c v q) (fun c q => by rw [upd_ne (ne_of_none q hn)]; exact q) fun c xs q => by rw [upd_ne (ne_of_none q hn)]; exact q
end

/-- what may be read as u: it is u, or a known u -/
def Rd (H : Hp) (a : Addr) (u : HO) : Prop := H a = some u ∨ ∃ o, H a = some (.frz o u)
theorem Rd.of {H : Hp} {a : Addr} {u : HO} (h : H a = some u) : Rd H a u := .inl h
theorem Rd.ok {P : Program} {w : World} {H : Hp} {h : Heap} {a : Addr} {u : HO} (r : Rd H a u) (x : HOk P w H h) : ObjOk P w H h a u := by
  rcases r with r | ⟨o, r⟩
  · exact x a u r
  · obtain ⟨_, q⟩ := x a _ r
    exact q
/-- what may be written -/
def Mut : Option HO → Prop
  | some (.lst _) => True
  | some (.dK _) => True
  | some (.dT _) => True
  | some (.set _ _) => True
  | some (.ins _ _ _) => True
  | some (.ext _) => True
  | _ => False
section
variable {P : Program} {w : World} {H : Hp} {h h' : Heap} {x e : Addr} {o' : HO}
/-- the object at e is changed: x itself, or the dict of the instance x -/
theorem HOk.write (ok : HOk P w H h) (mu : Mut (H x)) (he : e = x ∨ H e = some (.own x)) (k : ∀ b u, b ≠ e → h.get? b = some u → h'.get? b = some u) (heo : ∃ u, h'.get? e = some u)
    (new : ObjOk P w (upd H x o') h' x o') : HOk P w (upd H x o') h' := fun b u q => by
  have nown : ∀ c y, H c = some (.own y) → c ≠ x := fun c y r z => by subst z; rw [r] at mu; exact mu
  have ntup : ∀ c xs, H c = some (.tup xs) → c ≠ x := fun c xs r z => by subst z; rw [r] at mu; exact mu
  by_cases hb : b = x
  · subst hb; rw [upd_same] at q; cases q; exact new
  · rw [upd_ne hb] at q
    by_cases hbe : b = e
    · have q' : H b = some (.own x) := by
        rcases he with z | z
        · exact absurd (hbe.trans z) hb
        · rw [hbe]; exact z
      rw [q] at q'; cases q'
      obtain ⟨v, hv⟩ := heo
      exact ⟨v, by rw [hbe]; exact hv⟩
    · refine (ok b u q).stay (fun c v hc r => k c v ?_ r) (fun c r => by rw [upd_ne (nown c b r)]; exact r) fun c xs r => by rw [upd_ne (ntup c xs r)]; exact r
      rcases hc with rfl | hc
      · exact hbe
      · rintro rfl
        rcases he with z | z
        · exact nown c b hc z
        · rw [hc] at z; cases z; exact hb rfl
end

/-! ### kept unless tracked; of the frames at fs (the callers') the slots may change (an exception that passes writes there); of the records at ex (iterators) nothing is said -/
structure Un (fs ex : List Addr) (H H' : Hp) (h h' : Heap) : Prop where
  keep : ∀ b o, h.get? b = some o → H b = none → b ∉ fs → b ∉ ex → h'.get? b = some o
  slot : ∀ b o, h.get? b = some o → H b = none → b ∈ fs → b ∉ ex → ∃ sl, h'.get? b = some { o with slots := sl }
  free : ∀ b o, h.get? b = some o → H b = none → b ∉ ex → H' b = none
  there : ∀ b o, h.get? b = some o → b ∉ ex → ∃ o', h'.get? b = some o'
  tups : ∀ b xs, H b = some (.tup xs) → H' b = some (.tup xs)
  frzs : ∀ b o u, H b = some (.frz o u) → H' b = some (.frz o u)
  tbls : ∀ b ps, H b = some (.tbl ps) → ∃ more, H' b = some (.tbl (ps ++ more))
section
variable {fs fs' ex ex' : List Addr} {H H1 H2 : Hp} {h h1 h2 h' : Heap} {a x e : Addr} {o : HO}
theorem Un.any (u : Un fs ex H H1 h h1) {b : Addr} {ob : Obj} (q : h.get? b = some ob) (n : H b = none) (hx : b ∉ ex) : ∃ sl, h1.get? b = some { ob with slots := sl } := by
  by_cases hb : b ∈ fs
  · exact u.slot b ob q n hb hx
  · exact ⟨ob.slots, u.keep b ob q n hb hx⟩
theorem Un.trans (a : Un fs ex H H1 h h1) (b : Un fs ex H1 H2 h1 h2) : Un fs ex H H2 h h2 where
  keep := fun c ob q n hc hx => b.keep c ob (a.keep c ob q n hc hx) (a.free c ob q n hx) hc hx
  slot := fun c ob q n hc hx => by
    obtain ⟨sl, e1⟩ := a.slot c ob q n hc hx
    obtain ⟨sl', e2⟩ := b.slot c _ e1 (a.free c ob q n hx) hc hx
    exact ⟨sl', e2⟩
  free := fun c ob q n hx => by
    obtain ⟨o', e1⟩ := a.there c ob q hx
    exact b.free c o' e1 (a.free c ob q n hx) hx
  there := fun c ob q hx => by
    obtain ⟨o', e1⟩ := a.there c ob q hx
    exact b.there c o' e1 hx
  tups := fun c xs q => b.tups c xs (a.tups c xs q)
  frzs := fun c ob xs q => b.frzs c ob xs (a.frzs c ob xs q)
  tbls := fun c ps q => by
    obtain ⟨m1, e1⟩ := a.tbls c ps q
    obtain ⟨m2, e2⟩ := b.tbls c _ e1
    exact ⟨m1 ++ m2, by rw [e2, Array.append_assoc]⟩
theorem Un.kept (k : ∀ b u, h.get? b = some u → h'.get? b = some u) : Un fs ex H H h h' :=
  ⟨fun b ob q _ _ _ => k b ob q, fun b ob q _ _ _ => ⟨ob.slots, k b ob q⟩, fun _ _ _ n _ => n, fun b ob q _ => ⟨ob, k b ob q⟩, fun _ _ q => q, fun _ _ _ q => q, fun _ ps q => ⟨#[], by rw [q]; simp⟩⟩
theorem Un.refl : Un fs ex H H h h := Un.kept fun _ _ q => q
theorem Un.laid (k : ∀ b u, h.get? b = some u → h'.get? b = some u) (hp : h.objs.size ≤ a) (hn : H a = none) : Un fs ex H (upd H a o) h h' where
  keep := fun b u q _ _ _ => k b u q
  slot := fun b u q _ _ _ => ⟨u.slots, k b u q⟩
  free := fun b u q n _ => by rw [upd_ne (Nat.ne_of_lt (Nat.lt_of_lt_of_le (Heap.lt_size q) hp))]; exact n
  there := fun b u q _ => ⟨u, k b u q⟩
  tups := fun b xs q => by rw [upd_ne (ne_of_none q hn)]; exact q
  frzs := fun b u xs q => by rw [upd_ne (ne_of_none q hn)]; exact q
  tbls := fun b ps q => ⟨#[], by rw [upd_ne (ne_of_none q hn), q]; simp⟩
theorem Un.write (mu : Mut (H x)) (he : e = x ∨ H e = some (.own x)) (k : ∀ b u, b ≠ e → h.get? b = some u → h'.get? b = some u) (heo : ∃ u, h'.get? e = some u) : Un fs ex H (upd H x o) h h' := by
  have hx : ∀ b, H b = none → b ≠ x := fun b n z => by subst z; rw [n] at mu; exact mu
  have hb : ∀ b, H b = none → b ≠ e := fun b n z => by
    subst z
    rcases he with r | r
    · exact hx b n r
    · rw [n] at r; cases r
  have hm : ∀ b u, H b = some u → ¬ Mut (some u) → b ≠ x := fun b u q nm z => by subst z; rw [q] at mu; exact nm mu
  refine ⟨fun b u q n _ _ => k b u (hb b n) q, fun b u q n _ _ => ⟨u.slots, k b u (hb b n) q⟩, fun b u q n _ => by rw [upd_ne (hx b n)]; exact n, fun b u q _ => ?_,
    fun b xs q => by rw [upd_ne (hm b _ q fun z => z)]; exact q, fun b u xs q => by rw [upd_ne (hm b _ q fun z => z)]; exact q, fun b ps q => ⟨#[], by rw [upd_ne (hm b _ q fun z => z), q]; simp⟩⟩
  by_cases hbe : b = e
  · subst hbe; exact heo
  · exact ⟨u, k b u hbe q⟩
theorem Un.mono (u : Un fs ex H H1 h h1) (hs : ∀ b ∈ fs, b ∈ fs') (hx : ∀ b ∈ ex, b ∈ ex') : Un fs' ex' H H1 h h1 :=
  ⟨fun b ob q n hb he => u.keep b ob q n (fun z => hb (hs b z)) fun z => he (hx b z), fun _ _ q n _ he => u.any q n fun z => he (hx _ z), fun b ob q n he => u.free b ob q n fun z => he (hx b z), fun b ob q he => u.there b ob q fun z => he (hx b z), u.tups, u.frzs, u.tbls⟩
end

/-! ### the heap without what is tracked -/
def trk (h : Heap) (H : Hp) : List Addr := (List.range h.objs.size).filter fun a => (H a).isSome
def hidT (h : Heap) (H : Hp) : Heap := PySem.W.hideAll h (trk h H)
theorem hidT_size (h : Heap) (H : Hp) : (hidT h H).objs.size = h.objs.size := PySem.W.hideAll_size _ _
theorem hidT_get {h : Heap} {H : Hp} {b : Addr} {o : Obj} (e : h.get? b = some o) (n : H b = none) : (hidT h H).get? b = some o :=
  PySem.W.hideAll_get _ e fun hm => by
    have q : (H b).isSome = true := (List.mem_filter.mp hm).2
    rw [n] at q; simp at q
theorem of_hidT {h : Heap} {H : Hp} {b : Addr} {o : Obj} (e : (hidT h H).get? b = some o) : h.get? b = some o ∧ H b = none := by
  have e' : h.get? b = some o := PySem.W.of_hideAll (trk h H) e
  refine ⟨e', ?_⟩
  cases q : H b with
  | none => rfl
  | some x =>
    have hm : b ∈ trk h H := List.mem_filter.mpr ⟨List.mem_range.mpr (Heap.lt_size e'), by simp [q]⟩
    have z : (hidT h H).get? b = none := PySem.W.hideAll_none (trk h H) hm
    rw [z] at e; cases e

/-! ### OpenK's ledger, filled with every new object but one -/
def allNews (g h : Heap) (L : Addr) : List (Addr × Obj) := (List.range h.objs.size).filterMap fun a => if a = L ∨ (g.get? a).isSome = true then none else (h.get? a).map fun o => (a, o)
def rest (g h : Heap) (L d : Addr) : List (Addr × Obj) := (allNews g h L).filter fun p => decide (p.1 ≠ d)
end L2

namespace L2
open PySem PySem.Spec PyProof.Rows

/-- the module's facts, over the base: the heap at the law's entry without what is tracked there -/
structure Mod (K : PySem.W.Frag) (mg : Str → Option Value) (base : Heap) : Prop where
  kin : K.In base
  glob : base.Ns mainGlobals mg
  blt : ∃ mb, base.Ns builtinsNs mb ∧ ∀ x : Str, x ≠ "__name__" → mb x = bootBuiltins x
  nolimit : base.NoLimit

/-- the context: a def's body (or a comprehension's block) running. base: fixed through the whole law; s₀, H₀: the entry; outer: the frames whose slots others may change (a def's callers); stack: all frames that run;
   ex: iterators that were made ahead of the entry and are walked here (a comprehension's); fn: the names whose cells were made at the entry (a def: all; a comprehension's block: its own); calm: not within an except suite; pn: pins that every state bears; xe: what is wanted of an exception that leaves the code -/
structure Cx where
  prog : Program
  w : World
  K : PySem.W.Frag
  mg : Str → Option Value
  base : Heap
  A : Around
  N : List Str
  s_0 : Shared
  H_0 : Hp
  env : Env
  outer : List Env
  stack : List Env
  ex : List Addr
  fn : Str → Bool
  calm : Bool
  pn : List (Addr × Obj)
  xe : Value → Shared → Prop
/-- the callers' frames -/
def frs (l : List Env) : List Addr := l.filterMap (·.frame)
abbrev Cx.fs (X : Cx) : List Addr := frs X.outer

def Vis (sc : Scope) (x : Str) : Prop := sc.names.lookup x = some .local ∨ sc.names.lookup x = some .cell ∨ sc.names.lookup x = some .free
def Loc (sc : Scope) (x : Str) : Prop := sc.names.lookup x = some .local ∨ sc.names.lookup x = some .cell
def Look (env : Env) (h : Heap) (m : Str → Option Value) (x : Str) (u : Value) : Prop :=
  (env.kindOf x = some .local ∧ m x = some u) ∨ ((env.kindOf x = some .cell ∨ env.kindOf x = some .free) ∧ ∃ c, env.cells.lookup x = some c ∧ h.IsCell c (some u))

structure Cx.Ok (X : Cx) : Prop where
  mod : Mod X.K X.mg X.base
  kind : X.env.scope.kind = .function
  glob : X.env.globals = mainGlobals
  blt : X.env.builtins = builtinsNs
  above : X.s_0.heap.objs.size ≤ X.env.locals
  inj : ∀ x y c, X.env.cells.lookup x = some c → X.env.cells.lookup y = some c → x = y
  has : ∀ x, (X.env.kindOf x = some .cell ∨ X.env.kindOf x = some .free) → ∃ c, X.env.cells.lookup x = some c
  cab : ∀ x c, X.fn x = true → X.env.cells.lookup x = some c → X.s_0.heap.objs.size ≤ c
  hd : X.calm = true → X.A.handled = none
  frames : X.A.frames = some X.stack
  stk : X.stack = X.outer ∨ (X.stack = X.env :: X.outer ∧ X.env.frame = some X.env.locals)
  exf : ∀ b ∈ X.ex, b ≠ X.env.locals ∧ ∀ x c, X.env.cells.lookup x = some c → c ≠ b
  bs : ∀ b o, X.base.get? b = some o → X.s_0.heap.get? b = some o ∧ X.H_0 b = none
  bsz : X.base.objs.size ≤ X.s_0.heap.objs.size
  noex : ∀ b o, X.base.get? b = some o → b ∉ X.ex
  exfs : ∀ b ∈ X.ex, b ∉ X.fs
  funs : X.s_0.heap.FunFrames X.base X.outer
  frf : ∀ b ∈ X.fs, X.H_0 b = none

structure Inv (X : Cx) (pins : List (Addr × Obj)) (σ : List (Option V)) (H : Hp) (s : Shared) : Prop where
  ok : X.Ok
  os : s.os = X.s_0.os
  bare : AllBare s.gens
  base : Un X.fs X.ex X.H_0 H X.s_0.heap s.heap
  loc : ∃ m, s.heap.Ns X.env.locals m ∧ ∀ (i : Nat) (x : Str) (v : V), X.N[i]? = some x → σ[i]? = some (some v) → Vis X.env.scope x → ∃ u, RelV v u ∧ Look X.env s.heap m x u
  cell : ∀ x c, X.env.cells.lookup x = some c → ∃ v, s.heap.IsCell c v
  free : H X.env.locals = none
  freeC : ∀ x c, X.env.cells.lookup x = some c → H c = none
  pin : ∀ p ∈ X.pn ++ pins, s.heap.get? p.1 = some p.2 ∧ H p.1 = none ∧ p.1 ≠ X.env.locals ∧ p.1 ∉ X.fs ∧ ∀ v, p.2.data ≠ .cell v
  hok : HOk X.prog X.w H s.heap
  len : σ.length = X.N.length

section
variable {X : Cx} {pins : List (Addr × Obj)} {σ : List (Option V)} {H H' : Hp} {s : Shared} {h' : Heap}

theorem Cx.Ok.nofr (ok : X.Ok) {b : Addr} {o : Obj} (e : X.base.get? b = some o) : b ∉ X.fs := fun hb => by
  have := (ok.funs.mem hb).1
  rw [e] at this; cases this
theorem Inv.bs (I : Inv X pins σ H s) : ∀ b o, X.base.get? b = some o → s.heap.get? b = some o ∧ H b = none := fun b o e =>
  ⟨I.base.keep b o (I.ok.bs b o e).1 (I.ok.bs b o e).2 (I.ok.nofr e) (I.ok.noex b o e), I.base.free b o (I.ok.bs b o e).1 (I.ok.bs b o e).2 (I.ok.noex b o e)⟩
theorem Inv.bk (I : Inv X pins σ H s) : ∀ b o, X.base.get? b = some o → s.heap.get? b = some o := fun b o e => (I.bs b o e).1
theorem Inv.mod (I : Inv X pins σ H s) : Mod X.K X.mg X.base := I.ok.mod
theorem Inv.kIn (I : Inv X pins σ H s) : X.K.In s.heap := I.ok.mod.kin.keeps I.bk
theorem Inv.nolimit (I : Inv X pins σ H s) : s.heap.NoLimit := I.ok.mod.nolimit.keeps I.bk
/-- the frame over the base: for OpenK's rules (K.In X.base is I.mod.kin) -/
theorem Inv.fr (I : Inv X pins σ H s) : ∃ m, Fr X.base X.env.locals s.heap m :=
  let ⟨m, hn, _⟩ := I.loc
  ⟨m, hn, I.bk, Nat.le_trans I.ok.bsz I.ok.above⟩
theorem Inv.lt (I : Inv X pins σ H s) : X.env.locals < s.heap.objs.size := let ⟨_, hn, _⟩ := I.loc; hn.lt
theorem Inv.sz (I : Inv X pins σ H s) : X.s_0.heap.objs.size ≤ s.heap.objs.size := Nat.le_trans I.ok.above (Nat.le_of_lt I.lt)
theorem Inv.nofs (I : Inv X pins σ H s) {a : Addr} (h : s.heap.objs.size ≤ a) : a ∉ X.fs := fun hb => by
  obtain ⟨_, o, ho, _⟩ := I.ok.funs.mem hb
  exact absurd (Nat.lt_of_lt_of_le (Heap.lt_size ho) (Nat.le_trans I.sz h)) (Nat.lt_irrefl _)
theorem Inv.cne (I : Inv X pins σ H s) : ∀ x c, X.env.cells.lookup x = some c → c ≠ X.env.locals := fun x c e z => by
  obtain ⟨v, o, ho, hd⟩ := I.cell x c e
  obtain ⟨m, ⟨o', es, ep, ho', hd', _⟩, _⟩ := I.loc
  rw [z, ho'] at ho; cases ho; rw [hd'] at hd; cases hd
theorem Inv.funs (I : Inv X pins σ H s) : s.heap.FunFrames X.base X.outer := by
  have all : ∀ (l : List Env), (∀ b ∈ frs l, b ∈ X.fs) → X.s_0.heap.FunFrames X.base l → s.heap.FunFrames X.base l := by
    intro l
    induction l with
    | nil => intro _ _; trivial
    | cons env r ih =>
      intro hs hl
      obtain ⟨hk, ⟨L, o, hf, hn, ho, hd⟩, hr⟩ := hl
      have hL : L ∈ X.fs := hs L (by unfold frs; rw [List.filterMap_cons, hf]; exact List.mem_cons_self)
      obtain ⟨sl, e⟩ := I.base.slot L o ho (I.ok.frf L hL) hL fun z => I.ok.exfs L z hL
      exact ⟨hk, ⟨L, _, hf, hn, e, hd⟩, ih (fun b hb => hs b (by unfold frs; rw [List.filterMap_cons, hf]; exact List.mem_cons_of_mem _ hb)) hr⟩
  exact all X.outer (fun _ hb => hb) I.ok.funs

/-- the frames that run, for a call -/
theorem Inv.stack (I : Inv X pins σ H s) : s.heap.FunFrames X.base X.stack := by
  rcases I.ok.stk with e | ⟨e, hf⟩
  · rw [e]; exact I.funs
  · rw [e]
    obtain ⟨m, hn, _⟩ := I.loc
    refine .cons (by rw [I.ok.kind]; decide) hf hn ?_ I.funs
    exact Heap.get?_none_of_le (Nat.le_trans I.ok.bsz I.ok.above)
theorem Inv.stkSub (I : Inv X pins σ H s) : ∀ b ∈ frs X.stack, b ∈ X.env.locals :: X.fs := fun b hb => by
  rcases I.ok.stk with e | ⟨e, hf⟩
  · rw [e] at hb; exact List.mem_cons_of_mem _ hb
  · rw [e] at hb
    unfold frs at hb
    rw [List.filterMap_cons, hf] at hb
    exact hb
theorem Inv.stkFree (I : Inv X pins σ H s) : ∀ b ∈ frs X.stack, H b = none := fun b hb => by
  rcases List.mem_cons.mp (I.stkSub b hb) with e | hb
  · rw [e]; exact I.free
  · obtain ⟨_, o, ho, _⟩ := I.ok.funs.mem hb
    exact I.base.free b o ho (I.ok.frf b hb) fun z => I.ok.exfs b z hb

/-- THE STEP: the untracked objects but the frame and the records at ch are kept (the callers' frames up to slots), the frame's map is kept, the new abstract heap is held -/
theorem Inv.step {g' : Array GenState} {t' : Nat} {d' : Drawn} {ch : List Addr} (I : Inv X pins σ H s)
    (hch : ∀ b ∈ ch, (b ∈ X.ex ∨ X.s_0.heap.objs.size ≤ b) ∧ b ≠ X.env.locals ∧ (∀ x c, X.env.cells.lookup x = some c → c ≠ b) ∧ ∀ p ∈ X.pn ++ pins, p.1 ≠ b)
    (keep : ∀ b o, b ≠ X.env.locals → b ∉ X.fs → b ∉ ch → s.heap.get? b = some o → H b = none → h'.get? b = some o)
    (slot : ∀ b o, b ≠ X.env.locals → b ∈ X.fs → b ∉ ch → s.heap.get? b = some o → H b = none → ∃ sl, h'.get? b = some { o with slots := sl }) (free : ∀ b o, b ∉ ch → s.heap.get? b = some o → H b = none → H' b = none)
    (there : ∀ b o, b ∉ ch → s.heap.get? b = some o → ∃ o', h'.get? b = some o')
    (tups : ∀ b xs, H b = some (.tup xs) → H' b = some (.tup xs)) (frzs : ∀ b o u, H b = some (.frz o u) → H' b = some (.frz o u)) (tbls : ∀ b ps, H b = some (.tbl ps) → ∃ more, H' b = some (.tbl (ps ++ more)))
    (ns : ∀ m, s.heap.Ns X.env.locals m → h'.Ns X.env.locals m) (hok : HOk X.prog X.w H' h') (hg : AllBare g') :
    Inv X pins σ H' { s with heap := h', gens := g', drawn := d', toks := t' } := by
  have neL : ∀ b o, X.s_0.heap.get? b = some o → b ≠ X.env.locals := fun b o e => Nat.ne_of_lt (Nat.lt_of_lt_of_le (Heap.lt_size e) I.ok.above)
  have neC : ∀ b o, X.s_0.heap.get? b = some o → b ∉ X.ex → b ∉ ch := fun b o e hx hb => by
    rcases (hch b hb).1 with z | z
    · exact hx z
    · exact absurd (Nat.lt_of_lt_of_le (Heap.lt_size e) z) (Nat.lt_irrefl _)
  have cellK : ∀ x c, X.env.cells.lookup x = some c → ∀ v, s.heap.IsCell c v → h'.IsCell c v := fun x c e v ⟨o, ho, hd⟩ => by
    have nch : c ∉ ch := fun z => (hch c z).2.2.1 x c e rfl
    by_cases hc : c ∈ X.fs
    · obtain ⟨sl, q⟩ := slot c o (I.cne x c e) hc nch ho (I.freeC x c e)
      exact ⟨_, q, hd⟩
    · exact ⟨o, keep c o (I.cne x c e) hc nch ho (I.freeC x c e), hd⟩
  refine ⟨I.ok, I.os, hg, ⟨fun b o e n hb hx => ?_, fun b o e n hb hx => ?_, fun b o e n hx => ?_, fun b o e hx => ?_, fun b xs e => tups b xs (I.base.tups b xs e), fun b o xs e => frzs b o xs (I.base.frzs b o xs e), fun b ps e => ?_⟩, ?_, fun x c e => ?_, ?_, fun x c e => ?_, fun p hp => ?_, hok, I.len⟩
  · exact keep b o (neL b o e) hb (neC b o e hx) (I.base.keep b o e n hb hx) (I.base.free b o e n hx)
  · obtain ⟨sl, e1⟩ := I.base.slot b o e n hb hx
    obtain ⟨sl', e2⟩ := slot b _ (neL b o e) hb (neC b o e hx) e1 (I.base.free b o e n hx)
    exact ⟨sl', e2⟩
  · obtain ⟨o', e1⟩ := I.base.there b o e hx
    exact free b o' (neC b o e hx) e1 (I.base.free b o e n hx)
  · obtain ⟨o', e1⟩ := I.base.there b o e hx
    exact there b o' (neC b o e hx) e1
  · obtain ⟨m1, e1⟩ := I.base.tbls b ps e
    obtain ⟨m2, e2⟩ := tbls b _ e1
    exact ⟨m1 ++ m2, by rw [e2, Array.append_assoc]⟩
  · obtain ⟨m, hn, hl⟩ := I.loc
    refine ⟨m, ns m hn, fun i x v e1 e2 e3 => ?_⟩
    obtain ⟨u, r, l⟩ := hl i x v e1 e2 e3
    refine ⟨u, r, ?_⟩
    rcases l with l | ⟨k, c, e, z⟩
    · exact .inl l
    · exact .inr ⟨k, c, e, cellK x c e _ z⟩
  · obtain ⟨v, z⟩ := I.cell x c e
    exact ⟨v, cellK x c e v z⟩
  · obtain ⟨m, ⟨o, _, _, ho, _⟩, _⟩ := I.loc
    exact free _ o (fun z => (hch _ z).2.1 rfl) ho I.free
  · obtain ⟨v, o, ho, hd⟩ := I.cell x c e
    exact free c o (fun z => (hch c z).2.2.1 x c e rfl) ho (I.freeC x c e)
  · obtain ⟨e, n, ne, nf, d⟩ := I.pin p hp
    have nch : p.1 ∉ ch := fun z => (hch p.1 z).2.2.2 p hp rfl
    exact ⟨keep p.1 p.2 ne nf nch e n, free p.1 p.2 nch e n, ne, nf, d⟩
/-- .. where the frame's own object is kept too -/
theorem Inv.un {t' : Nat} (I : Inv X pins σ H s) (u : Un X.fs [] H H' s.heap h') (hok : HOk X.prog X.w H' h') : Inv X pins σ H' { s with heap := h', toks := t' } := by
  obtain ⟨m, ⟨o, es, ep, ho, r⟩, _⟩ := id I.loc
  obtain ⟨sl, hL⟩ := u.any ho I.free (by simp)
  exact I.step (g' := s.gens) (d' := s.drawn) (ch := []) (fun _ z => nomatch z) (fun b o _ hb _ e n => u.keep b o e n hb (by simp)) (fun b o _ hb _ e n => u.slot b o e n hb (by simp)) (fun b o _ e n => u.free b o e n (by simp)) (fun b o _ e => u.there b o e (by simp)) u.tups u.frzs u.tbls (fun m' hm => by
    obtain ⟨o', es', ep', ho', r'⟩ := hm
    rw [ho] at ho'; cases ho'
    exact ⟨_, es', ep', hL, r'⟩) hok I.bare
/-- behind a call (or a comprehension's block): the slots of this frame may have changed too, the records at ch may have turned -/
theorem Inv.call {g' : Array GenState} {t' : Nat} {d' : Drawn} {ch : List Addr} (I : Inv X pins σ H s) (u : Un (frs X.stack) ch H H' s.heap h') (hok : HOk X.prog X.w H' h') (hg : AllBare g')
    (hch : ∀ b ∈ ch, (b ∈ X.ex ∨ X.s_0.heap.objs.size ≤ b) ∧ b ≠ X.env.locals ∧ (∀ x c, X.env.cells.lookup x = some c → c ≠ b) ∧ ∀ p ∈ X.pn ++ pins, p.1 ≠ b) :
    Inv X pins σ H' { s with heap := h', gens := g', drawn := d', toks := t' } := by
  obtain ⟨m, ⟨o, es, ep, ho, r⟩, _⟩ := id I.loc
  obtain ⟨sl, hL⟩ := u.any ho I.free fun z => (hch _ z).2.1 rfl
  exact I.step (ch := ch) hch (fun b o hL hb hc e n => u.keep b o e n (fun z => (List.mem_cons.mp (I.stkSub b z)).elim hL hb) hc) (fun b o _ _ hc e n => u.any e n hc) (fun b o hc e n => u.free b o e n hc) (fun b o hc e => u.there b o e hc) u.tups u.frzs u.tbls (fun m' hm => by
    obtain ⟨o', es', ep', ho', r'⟩ := hm
    rw [ho] at ho'; cases ho'
    exact ⟨_, es', ep', hL, r'⟩) hok hg
/-- an untracked record of ours (an iterator) has turned -/
theorem Inv.turned {t' : Nat} {it : Addr} (I : Inv X pins σ H s) (k : ∀ b o, b ≠ it → s.heap.get? b = some o → h'.get? b = some o) (hn : H it = none) (hL : it ≠ X.env.locals)
    (h1 : it ∈ X.ex ∨ X.s_0.heap.objs.size ≤ it) (h2 : ∀ x c, X.env.cells.lookup x = some c → c ≠ it) (h3 : ∀ p ∈ X.pn ++ pins, p.1 ≠ it) : Inv X pins σ H { s with heap := h', toks := t' } := by
  have nit : ∀ b u, H b = some u → b ≠ it := fun b u e z => by rw [z, hn] at e; cases e
  refine I.step (g' := s.gens) (d' := s.drawn) (ch := [it]) (fun b hb => ?_) (fun b o _ _ hc e _ => k b o (fun z => hc (by simp [z])) e) (fun b o _ _ hc e _ => ⟨o.slots, k b o (fun z => hc (by simp [z])) e⟩) (fun _ _ _ _ n => n)
    (fun b o hc e => ⟨o, k b o (fun z => hc (by simp [z])) e⟩) (fun _ _ e => e) (fun _ _ _ e => e) (fun b ps e => ⟨#[], by rw [e]; simp⟩) (fun m hm => ?_) (fun b u e => ?_) I.bare
  · have e : b = it := by simpa using hb
    subst e
    exact ⟨h1, hL, h2, h3⟩
  · obtain ⟨o, es, ep, ho, r⟩ := hm
    exact ⟨o, es, ep, k _ o (Ne.symm hL) ho, r⟩
  · refine (I.hok b u e).stay (fun c v hc q => k c v ?_ q) (fun _ q => q) fun _ _ q => q
    rcases hc with z | z
    · rw [z]; exact nit b u e
    · exact nit c _ z
theorem Inv.tok (I : Inv X pins σ H s) (t : Nat) : Inv X pins σ H { s with toks := t } := I.un (h' := s.heap) (t' := t) Un.refl I.hok
/-- all objects kept -/
theorem Inv.kept {t' : Nat} (I : Inv X pins σ H s) (k : ∀ b u, s.heap.get? b = some u → h'.get? b = some u) : Inv X pins σ H { s with heap := h', toks := t' } := I.un (Un.kept k) (I.hok.kept k)
/-- a new object laid and tracked -/
theorem Inv.laid {a : Addr} {o : HO} {t' : Nat} (I : Inv X pins σ H s) (k : ∀ b u, s.heap.get? b = some u → h'.get? b = some u) (hp : s.heap.objs.size ≤ a) (new : ObjOk X.prog X.w (upd H a o) h' a o) :
    Inv X pins σ (upd H a o) { s with heap := h', toks := t' } := I.un (Un.laid k hp (I.hok.fresh hp)) (I.hok.laid k hp new)
/-- an object written -/
theorem Inv.write {x e : Addr} {o : HO} {t' : Nat} (I : Inv X pins σ H s) (mu : Mut (H x)) (he : e = x ∨ H e = some (.own x)) (k : ∀ b u, b ≠ e → s.heap.get? b = some u → h'.get? b = some u) (heo : ∃ u, h'.get? e = some u)
    (new : ObjOk X.prog X.w (upd H x o) h' x o) : Inv X pins σ (upd H x o) { s with heap := h', toks := t' } := I.un (Un.write mu he k heo) (I.hok.write mu he k heo new)
/-- forgetting slots, pins -/
theorem Inv.weak {σ' : List (Option V)} (I : Inv X pins σ H s) (hl : σ'.length = σ.length) (w : ∀ (i : Nat) v, σ'[i]? = some (some v) → σ[i]? = some (some v)) : Inv X pins σ' H s :=
  ⟨I.ok, I.os, I.bare, I.base, let ⟨m, hn, hl'⟩ := I.loc; ⟨m, hn, fun i x v e1 e2 e3 => hl' i x v e1 (w i v e2) e3⟩, I.cell, I.free, I.freeC, I.pin, I.hok, hl.trans I.len⟩
theorem Inv.pins_of {pins' : List (Addr × Obj)} (I : Inv X pins σ H s) (h : ∀ p ∈ pins', s.heap.get? p.1 = some p.2 ∧ H p.1 = none ∧ p.1 ≠ X.env.locals ∧ p.1 ∉ X.fs ∧ ∀ v, p.2.data ≠ .cell v) : Inv X pins' σ H s :=
  ⟨I.ok, I.os, I.bare, I.base, I.loc, I.cell, I.free, I.freeC, fun p hp => (List.mem_append.mp hp).elim (fun z => I.pin p (List.mem_append_left _ z)) (h p), I.hok, I.len⟩

theorem nodup_ix {N : List Str} (hN : N.Nodup) {i j : Nat} {x : Str} (a : N[i]? = some x) (b : N[j]? = some x) : i = j := by
  obtain ⟨h1, e1⟩ := List.getElem?_eq_some_iff.mp a
  obtain ⟨h2, e2⟩ := List.getElem?_eq_some_iff.mp b
  exact (List.getElem_inj hN).mp (e1.trans e2.symm)

/-- a name is stored; what changed -/
theorem store_ok2 {M : Model} {A : Around} {E : Value → Shared → Prop} {i : Nat} {x : Str} {v : V} {u : Value} {Q : Unit → Shared → Prop} (I : Inv X pins σ H s) (hN : X.N.Nodup) (hi : X.N[i]? = some x) (hx : Loc X.env.scope x) (r : RelV v u)
    (h : ∀ s', Inv X pins (σ.set i (some v)) H s' → (∃ a, Heap.SameBut a s.heap s'.heap ∧ (a = X.env.locals ∨ X.env.cells.lookup x = some a)) → Q () s') (hf : X.fn x = true ∨ X.env.scope.names.lookup x = some .local := by first | exact .inl rfl | exact .inr rfl | assumption) : wpAny M A (storeName X.env x u) Q E s := by
  obtain ⟨m, hn, hl⟩ := id I.loc
  have hcls : (X.env.scope.kind == .class || (X.env.scope.kind == .module && X.env.locals != X.env.globals)) = false := by rw [I.ok.kind]; rfl
  have hiσ : i < σ.length := by rw [I.len]; exact (List.getElem?_eq_some_iff.mp hi).1
  have cne := I.cne
  have tracked : ∀ {a : Addr} {h' : Heap}, (∃ o, s.heap.get? a = some o ∧ H a = none) → Heap.SameBut a s.heap h' → HOk X.prog X.w H h' := fun {a h'} ha hs b ob e => by
    obtain ⟨_, _, hfree⟩ := ha
    refine (I.hok b ob e).stay (fun c w' hc q => (hs.2 c ?_).trans q) (fun _ q => q) fun _ _ q => q
    rintro rfl
    rcases hc with rfl | hc
    · rw [hfree] at e; cases e
    · rw [hfree] at hc; cases hc
  rcases hx with hk | hk
  · refine wpAny_storeName_local hk hn (fun h' hn' hs => ?_) hcls
    obtain ⟨oL, _, _, hoL, _⟩ := id hn
    refine h _ ⟨I.ok, I.os, I.bare, ⟨fun b o e n hb hx => ?_, fun b o e n hb hx => ?_, I.base.free, fun b o e hx => ?_, I.base.tups, I.base.frzs, I.base.tbls⟩, ⟨_, hn', fun j y v' e1 e2 e3 => ?_⟩, fun y c e => ?_, I.free, I.freeC, fun p hp => ?_, tracked ⟨oL, hoL, I.free⟩ hs, by simpa using I.len⟩ ⟨_, hs, .inl rfl⟩
    · exact (hs.2 b (Nat.ne_of_lt (Nat.lt_of_lt_of_le (Heap.lt_size e) I.ok.above))).trans (I.base.keep b o e n hb hx)
    · obtain ⟨sl, e1⟩ := I.base.slot b o e n hb hx
      exact ⟨sl, (hs.2 b (Nat.ne_of_lt (Nat.lt_of_lt_of_le (Heap.lt_size e) I.ok.above))).trans e1⟩
    · obtain ⟨o', e1⟩ := I.base.there b o e hx
      exact ⟨o', (hs.2 b (Nat.ne_of_lt (Nat.lt_of_lt_of_le (Heap.lt_size e) I.ok.above))).trans e1⟩
    · by_cases hj : j = i
      · subst hj
        rw [hi] at e1; cases e1
        rw [List.getElem?_set_self hiσ] at e2
        cases e2
        exact ⟨u, r, .inl ⟨hk, by simp⟩⟩
      · rw [List.getElem?_set_ne (Ne.symm hj)] at e2
        obtain ⟨u', r', q⟩ := hl j y v' e1 e2 e3
        refine ⟨u', r', ?_⟩
        rcases q with ⟨k, e⟩ | ⟨k, c, e, z⟩
        · refine .inl ⟨k, ?_⟩
          have : y ≠ x := fun e => hj (nodup_ix hN e1 (e ▸ hi))
          simp [this, e]
        · exact .inr ⟨k, c, e, z.sameBut hs (cne y c e)⟩
    · obtain ⟨w', z⟩ := I.cell y c e
      exact ⟨w', z.sameBut hs (cne y c e)⟩
    · obtain ⟨e, n, ne, nf, d⟩ := I.pin p hp
      exact ⟨(hs.2 p.1 ne).trans e, n, ne, nf, d⟩
  · have hfn : X.fn x = true := by
      rcases hf with z | z
      · exact z
      · rw [z] at hk; cases hk
    obtain ⟨c, hc⟩ := I.ok.has x (.inl hk)
    obtain ⟨w', z⟩ := I.cell x c hc
    refine wpAny_storeName_cell I.ok.kind hk hc z (fun h' hc' hs => ?_)
    obtain ⟨oc, hoc, hocd⟩ := id z
    refine h { s with heap := h' } ⟨I.ok, I.os, I.bare, ⟨fun b o e n hb hx => ?_, fun b o e n hb hx => ?_, I.base.free, fun b o e hx => ?_, I.base.tups, I.base.frzs, I.base.tbls⟩, ⟨m, hn.sameBut hs (Ne.symm (cne x c hc)), fun j y v' e1 e2 e3 => ?_⟩, fun y c' e => ?_, I.free, I.freeC, fun p hp => ?_, tracked ⟨oc, hoc, I.freeC x c hc⟩ hs, by simpa using I.len⟩ ⟨c, hs, .inr hc⟩
    · exact (hs.2 b (Nat.ne_of_lt (Nat.lt_of_lt_of_le (Heap.lt_size e) (I.ok.cab x c hfn hc)))).trans (I.base.keep b o e n hb hx)
    · obtain ⟨sl, e1⟩ := I.base.slot b o e n hb hx
      exact ⟨sl, (hs.2 b (Nat.ne_of_lt (Nat.lt_of_lt_of_le (Heap.lt_size e) (I.ok.cab x c hfn hc)))).trans e1⟩
    · obtain ⟨o', e1⟩ := I.base.there b o e hx
      exact ⟨o', (hs.2 b (Nat.ne_of_lt (Nat.lt_of_lt_of_le (Heap.lt_size e) (I.ok.cab x c hfn hc)))).trans e1⟩
    · by_cases hj : j = i
      · subst hj
        rw [hi] at e1; cases e1
        rw [List.getElem?_set_self hiσ] at e2
        cases e2
        exact ⟨u, r, .inr ⟨.inl hk, c, hc, hc'⟩⟩
      · rw [List.getElem?_set_ne (Ne.symm hj)] at e2
        obtain ⟨u', r', q⟩ := hl j y v' e1 e2 e3
        refine ⟨u', r', ?_⟩
        rcases q with q | ⟨k, c', e, z'⟩
        · exact .inl q
        · refine .inr ⟨k, c', e, z'.sameBut hs ?_⟩
          rintro rfl
          exact hj (nodup_ix hN e1 (I.ok.inj _ _ _ e hc ▸ hi))
    · by_cases hcc : c' = c
      · subst hcc; exact ⟨_, hc'⟩
      · obtain ⟨w2, z2⟩ := I.cell y c' e
        exact ⟨w2, z2.sameBut hs hcc⟩
    · obtain ⟨e, n, ne, nf, d⟩ := I.pin p hp
      refine ⟨(hs.2 p.1 ?_).trans e, n, ne, nf, d⟩
      intro q
      rw [q, hoc] at e
      have q' : oc = p.2 := Option.some.inj e
      exact d w' (by rw [← q']; exact hocd)
theorem store_ok {M : Model} {A : Around} {E : Value → Shared → Prop} {i : Nat} {x : Str} {v : V} {u : Value} {Q : Unit → Shared → Prop} (I : Inv X pins σ H s) (hN : X.N.Nodup) (hi : X.N[i]? = some x) (hx : Loc X.env.scope x) (r : RelV v u)
    (h : ∀ s', Inv X pins (σ.set i (some v)) H s' → Q () s') (hf : X.fn x = true ∨ X.env.scope.names.lookup x = some .local := by first | exact .inl rfl | exact .inr rfl | assumption) : wpAny M A (storeName X.env x u) Q E s :=
  store_ok2 I hN hi hx r (fun s' I' _ => h s' I') hf
/-- behind a call or a block, the state as it is -/
theorem Inv.call' {s' : Shared} {ch : List Addr} (I : Inv X pins σ H s) (ho : s'.os = s.os) (u : Un (frs X.stack) ch H H' s.heap s'.heap) (hok : HOk X.prog X.w H' s'.heap) (hg : AllBare s'.gens)
    (hch : ∀ b ∈ ch, (b ∈ X.ex ∨ X.s_0.heap.objs.size ≤ b) ∧ b ≠ X.env.locals ∧ (∀ x c, X.env.cells.lookup x = some c → c ≠ b) ∧ ∀ p ∈ X.pn ++ pins, p.1 ≠ b) : Inv X pins σ H' s' := by
  obtain ⟨h', g', d', t', o'⟩ := s'
  have e : o' = s.os := ho
  subst e
  exact I.call (g' := g') (t' := t') (d' := d') u hok hg hch
end

/-! ### the judgements -/
/-- an exception: its class, its own dict's address (where it has one), the abstract heap behind it -/
abbrev XK := Value → Option Addr → Hp → Prop
abbrev St := List (Option V)
abbrev VK := V → Hp → Prop
/-- an expression's reading; a test's; an argument list's -/
abbrev TE := St → Hp → VK → Prop
abbrev TT := St → Hp → (Bool → Hp → Prop) → Prop
abbrev TA := St → Hp → (List V → Hp → Prop) → Prop
/-- what is wanted behind a statement -/
structure Ends where
  nx : St → Hp → Prop
  rt : VK
  bk : St → Hp → Prop := fun _ _ => False
  ct : St → Hp → Prop := fun _ _ => False
abbrev TS := Ends → St → Hp → Prop

def EP (X : Cx) (pins : List (Addr × Obj)) (σ : St) (Q : VK) (u : Value) (s' : Shared) : Prop := ∃ v H', Inv X pins σ H' s' ∧ RelV v u ∧ Q v H'
def TP (X : Cx) (pins : List (Addr × Obj)) (σ : St) (Q : Bool → Hp → Prop) (b : Bool) (s' : Shared) : Prop := ∃ H', Inv X pins σ H' s' ∧ Q b H'
def AP (X : Cx) (pins : List (Addr × Obj)) (σ : St) (Q : List V → Hp → Prop) (us : List Value) (s' : Shared) : Prop := ∃ vs H', Inv X pins σ H' s' ∧ Vals vs us ∧ Q vs H'
def SP (X : Cx) (pins : List (Addr × Obj)) (D : Ends) (f : Flow) (s' : Shared) : Prop :=
  match f with
  | .next => ∃ σ' H', Inv X pins σ' H' s' ∧ D.nx σ' H'
  | .brk => ∃ σ' H', Inv X pins σ' H' s' ∧ D.bk σ' H'
  | .cont => ∃ σ' H', Inv X pins σ' H' s' ∧ D.ct σ' H'
  | .ret u => ∃ v σ' H', Inv X pins σ' H' s' ∧ RelV v u ∧ D.rt v H'

def PE (X : Cx) (e : Expr) (t : TE) : Prop :=
  ∀ (pins : List (Addr × Obj)) (s : Shared) (σ : St) (H : Hp) (Q : VK), Inv X pins σ H s → t σ H Q → wpAny (model X.prog X.w) X.A (eval e X.env) (EP X pins σ Q) X.xe s
def PT (X : Cx) (e : Expr) (t : TT) : Prop :=
  ∀ (pins : List (Addr × Obj)) (s : Shared) (σ : St) (H : Hp) (Q : Bool → Hp → Prop), Inv X pins σ H s → t σ H Q → wpAny (model X.prog X.w) X.A (isTrue e X.env (eval e X.env)) (TP X pins σ Q) X.xe s
/-- a test whatever its 'whole' is (and, or) -/
def PW (X : Cx) (e : Expr) (t : TT) : Prop :=
  ∀ (whole : Sem Value) (pins : List (Addr × Obj)) (s : Shared) (σ : St) (H : Hp) (Q : Bool → Hp → Prop), Inv X pins σ H s → t σ H Q → wpAny (model X.prog X.w) X.A (isTrue e X.env whole) (TP X pins σ Q) X.xe s
theorem PW.pt {X : Cx} {e : Expr} {t : TT} (h : PW X e t) : PT X e t := h _
/-- an argument list (no star), from the left -/
def PA (X : Cx) (es : List Expr) (t : TA) : Prop :=
  ∀ (pos : Pos) (pins : List (Addr × Obj)) (s : Shared) (σ : St) (H : Hp) (Q : List V → Hp → Prop), Inv X pins σ H s → t σ H Q → wpAny (model X.prog X.w) X.A (spliced (backTo pos (starEach es X.env))) (AP X pins σ Q) X.xe s
def PS (X : Cx) (st : Stmt) (t : TS) : Prop :=
  ∀ (pins : List (Addr × Obj)) (s : Shared) (σ : St) (H : Hp) (D : Ends), Inv X pins σ H s → t D σ H → wpAny (model X.prog X.w) X.A (exec st X.env) (SP X pins D) X.xe s
def PSs (X : Cx) (st : List Stmt) (t : TS) : Prop :=
  ∀ (pins : List (Addr × Obj)) (s : Shared) (σ : St) (H : Hp) (D : Ends), Inv X pins σ H s → t D σ H → wpAny (model X.prog X.w) X.A (execs st X.env) (SP X pins D) X.xe s
/-- weaken the end -/
theorem thn {α : Type} {t : Sem α} {Q Q' : α → Shared → Prop} {M : Model} {A : Around} {E : Value → Shared → Prop} {s : Shared} (h : wpAny M A t Q E s) (hQ : ∀ a s, Q a s → Q' a s) : wpAny M A t Q' E s := wpAny_mono h hQ fun _ _ x => x
end L2

namespace L2
open PySem PySem.Spec PyProof.Rows
section
variable {X : Cx}

/-! ### names and constants -/
def tVar (i : Nat) : TE := fun σ H Q => ∃ v, σ[i]? = some (some v) ∧ Q v H
def tC (v : V) : TE := fun _ H Q => Q v H
theorem pe_var {i : Nat} {x : Str} {pos : Pos} (hN : X.N[i]? = some x) (hv : Vis X.env.scope x) (hd : (x == ("__debug__" : Str)) = false := by decide) (hcd : (x == ("__classdict__" : Str)) = false := by decide) : PE X (.Name x pos) (tVar i) := by
  intro pins s σ H Q I h
  obtain ⟨v, e, h⟩ := h
  obtain ⟨m, hn, hl⟩ := I.loc
  obtain ⟨u, r, l⟩ := hl i x v hN e hv
  have fin : EP X pins σ Q u s := ⟨v, H, I, r, h⟩
  rcases l with ⟨hk, hm⟩ | ⟨hk, c, hc, hcell⟩
  · exact wpAny_Name (wpAny_loadName_local I.ok.kind hk hn hm fin) hd
  · rcases hk with hk | hk
    · exact wpAny_Name (wpAny_loadName_cell I.ok.kind hk hc hcell fin) hd
    · exact wpAny_Name (wpAny_loadName_free I.ok.kind hk hc hcell fin hcd) hd
theorem pe_int {i j pos} : PE X (.Constant (.int i) j pos) (tC (.int i)) := fun _ _ _ H _ I h => wpAny_Constant_int ⟨.int i, H, I.tok _, ⟨_, rfl⟩, h⟩
theorem pe_bl {b j pos} : PE X (.Constant (.bool b) j pos) (tC (.bl b)) := fun _ _ _ H _ I h => Constant_bool ⟨.bl b, H, I, rfl, h⟩
/-- a global name of the def -/
def Gl (X : Cx) (x : Str) : Prop := X.env.kindOf x = some .globalImplicit
theorem ld_glob {E : Value → Shared → Prop} {pins : List (Addr × Obj)} {s : Shared} {σ : St} {H : Hp} {x : Str} {u : Value} {pos : Pos} {Q : Value → Shared → Prop} (I : Inv X pins σ H s) (hg : Gl X x) (hm : X.mg x = some u) (h : Q u s)
    (hd : (x == ("__debug__" : Str)) = false := by decide) : wpAny (model X.prog X.w) X.A (eval (.Name x pos) X.env) Q E s :=
  Calls.Name_function_global I.ok.kind hg (Calls.loadGlobal_global (by rw [I.ok.glob]; exact I.mod.glob.keeps I.bk) hm h) hd
theorem ld_blt {E : Value → Shared → Prop} {pins : List (Addr × Obj)} {s : Shared} {σ : St} {H : Hp} {x : Str} {u : Value} {pos : Pos} {Q : Value → Shared → Prop} (I : Inv X pins σ H s) (hg : Gl X x) (hm : X.mg x = none) (hv : bootBuiltins x = some u) (h : Q u s)
    (hn : x ≠ "__name__" := by decide) (hd : (x == ("__debug__" : Str)) = false := by decide) : wpAny (model X.prog X.w) X.A (eval (.Name x pos) X.env) Q E s := by
  obtain ⟨mb, h1, h2⟩ := I.mod.blt
  exact Calls.Name_function_global I.ok.kind hg (Calls.loadGlobal_builtin (by rw [I.ok.glob]; exact I.mod.glob.keeps I.bk) hm (by rw [I.ok.blt]; exact h1.keeps I.bk) ((h2 x hn).trans hv) h) hd
/-! ### arithmetic -/
variable {a b : Expr} {ta tb : TE} {pos : Pos}
/-! ### comparisons -/
/-- a comparison as a value, as a test -/
def tB (t : TE) : TT := fun σ H Q => t σ H fun x H1 => ∃ c, x = .bl c ∧ Q c H1
/-! ### and, or, not -/
variable {tA tB' : TT} {rest : List Expr}
def tOr (t u : TT) : TT := fun σ H Q => t σ H fun c H1 => if c = true then Q true H1 else u σ H1 Q
theorem pw_or1 (ha : PT X a tA) : PW X (.BoolOp .Or [a] pos) tA := by
  intro wh pins s σ H Q I h
  refine isTrue_or (thn (ha pins s σ H Q I h) fun c s1 e => ?_)
  cases c with
  | false => exact isTrue_or_nil e
  | true => exact e
theorem pw_or (ha : PT X a tA) (hb : PW X (.BoolOp .Or (b :: rest) pos) tB') : PW X (.BoolOp .Or (a :: b :: rest) pos) (tOr tA tB') := by
  intro wh pins s σ H Q I h
  refine isTrue_or (thn (ha pins s σ H _ I h) fun c s1 ⟨H1, I1, q1⟩ => ?_)
  cases c with
  | true => exact ⟨H1, I1, q1⟩
  | false => exact hb wh pins s1 σ H1 Q I1 q1
end
end L2

namespace L2
open PySem PySem.Spec PyProof.Rows

/-! ### a list, a tuple that is read: tracked, frozen, or an object of the module -/
def SqL (K : PySem.W.Frag) (H : Hp) (a : Addr) (xs : List V) : Prop :=
  Rd H a (.lst xs) ∨
    ∃ (o : Obj) (its : Array Value) (n : Nat), K.lookup a = some o ∧ o.cls = .type "list" ∧ o.dict = none ∧ o.data = .seq its n ∧ its.size ≤ sizeLine ∧ Vals xs its.toList
def SqT (K : PySem.W.Frag) (H : Hp) (a : Addr) (xs : List V) : Prop :=
  Rd H a (.tup xs) ∨
    ∃ (o : Obj) (its : Array Value) (n : Nat), K.lookup a = some o ∧ (o.cls, o.dict) = (Value.type "tuple", (none : Option Addr)) ∧ o.data = .seq its n ∧ its.size ≤ sizeLine ∧ Vals xs its.toList
def absV : Value → Option V
  | .none => some .non
  | .bool b => some (.bl b)
  | .int i _ => some (.int i)
  | .str x _ => some (.str x)
  | .bytes b _ => some (.byt b)
  | .float b _ => some (.flt b)
  | .ref a => some (.ref a)
  | .type n => some (.ty n)
  | _ => none
theorem RelV.abs {x : V} {u : Value} (r : RelV x u) : absV u = some x := by
  cases x with
  | non => cases r; rfl
  | bl _ => cases r; rfl
  | int _ => obtain ⟨t, rfl⟩ := r; rfl
  | str _ => obtain ⟨t, rfl⟩ := r; rfl
  | byt _ => obtain ⟨t, rfl⟩ := r; rfl
  | flt _ => obtain ⟨t, rfl⟩ := r; rfl
  | ref _ => cases r; rfl
  | ty _ => cases r; rfl
theorem RelV.inj {x y : V} {u : Value} (r : RelV x u) (q : RelV y u) : x = y := Option.some.inj (r.abs.symm.trans q.abs)
theorem Vals.inj : ∀ {xs ys : List V} {us : List Value}, Vals xs us → Vals ys us → xs = ys
  | _, _, _, .nil, .nil => rfl
  | _, _, _, .cons r t, .cons r' t' => by rw [r.inj r', Vals.inj t t']
section
variable {X : Cx} {pins : List (Addr × Obj)} {σ : St} {H : Hp} {s : Shared} {a : Addr} {xs ys : List V}
theorem SqL.of {K : PySem.W.Frag} (h : H a = some (.lst xs)) : SqL K H a xs := .inl (.inl h)
theorem SqT.of {K : PySem.W.Frag} (h : H a = some (.tup xs)) : SqT K H a xs := .inl (.inl h)
theorem Inv.list (I : Inv X pins σ H s) (h : SqL X.K H a xs) : ∃ its : List Value, Vals xs its ∧ PlainL s.heap a its.toArray ∧ xs.length ≤ sizeLine := by
  rcases h with h | ⟨o, its, n, hk, hc, hd, hs, hz, r⟩
  · obtain ⟨z, its, n, r, e⟩ := h.ok I.hok
    exact ⟨its, r, ⟨_, n, e, rfl, rfl, rfl⟩, z⟩
  · refine ⟨its.toList, r, ⟨o, n, I.kIn a o hk, hc, hd, by simpa using hs⟩, ?_⟩
    have e := r.length
    simp only [Array.length_toList] at e
    omega
theorem Inv.tuple (I : Inv X pins σ H s) (h : SqT X.K H a xs) : ∃ its : List Value, Vals xs its ∧ IsTup s.heap a its.toArray ∧ xs.length ≤ sizeLine := by
  rcases h with h | ⟨o, its, n, hk, hc, hs, hz, r⟩
  · obtain ⟨z, its, r, p⟩ := h.ok I.hok
    exact ⟨its, r, p.tup, z⟩
  · refine ⟨its.toList, r, ⟨o, I.kIn a o hk, congrArg Prod.fst hc, n, by simpa using hs⟩, ?_⟩
    have e := r.length
    simp only [Array.length_toList] at e
    omega
theorem Inv.list_inj (I : Inv X pins σ H s) (h : SqL X.K H a xs) (h' : SqL X.K H a ys) : xs = ys := by
  obtain ⟨its, r, ⟨o, n, e, _, _, d⟩, _⟩ := I.list h
  obtain ⟨its', r', ⟨o', n', e', _, _, d'⟩, _⟩ := I.list h'
  rw [e] at e'; cases e'
  rw [d] at d'
  injection d' with d1 _
  have : its = its' := by simpa using congrArg Array.toList d1
  subst this
  exact r.inj r'
theorem Inv.tuple_inj (I : Inv X pins σ H s) (h : SqT X.K H a xs) (h' : SqT X.K H a ys) : xs = ys := by
  obtain ⟨its, r, ⟨o, e, _, n, d⟩, _⟩ := I.tuple h
  obtain ⟨its', r', ⟨o', e', _, n', d'⟩, _⟩ := I.tuple h'
  rw [e] at e'; cases e'
  rw [d] at d'
  injection d' with d1 _
  have : its = its' := by simpa using congrArg Array.toList d1
  subst this
  exact r.inj r'
end

/-! ### another wish about exceptions -/
abbrev Cx.wish (X : Cx) (E : Value → Shared → Prop) : Cx := { X with xe := E }
/-- no exception leaves -/
abbrev Cx.nox (X : Cx) : Cx := X.wish fun _ _ => False
theorem Cx.Ok.wish {X : Cx} (ok : X.Ok) (E : Value → Shared → Prop) : (X.wish E).Ok :=
  ⟨ok.mod, ok.kind, ok.glob, ok.blt, ok.above, ok.inj, ok.has, ok.cab, ok.hd, ok.frames, ok.stk, ok.exf, ok.bs, ok.bsz, ok.noex, ok.exfs, ok.funs, ok.frf⟩
theorem Cx.Ok.unwish {X : Cx} {E : Value → Shared → Prop} (ok : (X.wish E).Ok) : X.Ok :=
  ⟨ok.mod, ok.kind, ok.glob, ok.blt, ok.above, ok.inj, ok.has, ok.cab, ok.hd, ok.frames, ok.stk, ok.exf, ok.bs, ok.bsz, ok.noex, ok.exfs, ok.funs, ok.frf⟩
section
variable {X : Cx} {pins : List (Addr × Obj)} {σ : St} {H : Hp} {s : Shared} {E : Value → Shared → Prop}
theorem Inv.wish (I : Inv X pins σ H s) (E : Value → Shared → Prop) : Inv (X.wish E) pins σ H s := ⟨I.ok.wish E, I.os, I.bare, I.base, I.loc, I.cell, I.free, I.freeC, I.pin, I.hok, I.len⟩
theorem Inv.unwish (I : Inv (X.wish E) pins σ H s) : Inv X pins σ H s := ⟨I.ok.unwish, I.os, I.bare, I.base, I.loc, I.cell, I.free, I.freeC, I.pin, I.hok, I.len⟩
theorem SP.unwish {D : Ends} {f : Flow} {s' : Shared} (h : SP (X.wish E) pins D f s') : SP X pins D f s' := by
  cases f with
  | next => obtain ⟨σ', H', I, q⟩ := h; exact ⟨σ', H', I.unwish, q⟩
  | brk => obtain ⟨σ', H', I, q⟩ := h; exact ⟨σ', H', I.unwish, q⟩
  | cont => obtain ⟨σ', H', I, q⟩ := h; exact ⟨σ', H', I.unwish, q⟩
  | ret u => obtain ⟨v, σ', H', I, r, q⟩ := h; exact ⟨v, σ', H', I.unwish, r, q⟩
theorem PE.nox {e : Expr} {t : TE} (h : PE X.nox e t) : PE X e t := fun pins s σ H Q I hw =>
  wpAny_mono (h pins s σ H Q (I.wish _) hw) (fun _ _ ⟨v, H', I', r, q⟩ => ⟨v, H', I'.unwish, r, q⟩) fun _ _ z => False.elim z
theorem PT.nox {e : Expr} {t : TT} (h : PT X.nox e t) : PT X e t := fun pins s σ H Q I hw =>
  wpAny_mono (h pins s σ H Q (I.wish _) hw) (fun _ _ ⟨H', I', q⟩ => ⟨H', I'.unwish, q⟩) fun _ _ z => False.elim z
theorem PSs.nox {st : List Stmt} {t : TS} (h : PSs X.nox st t) : PSs X st t := fun pins s σ H D I hw =>
  wpAny_mono (h pins s σ H D (I.wish _) hw) (fun _ _ q => q.unwish) fun _ _ z => False.elim z
end

/-! ### blocks and small statements -/
section
variable {X : Cx} {st : Stmt} {rest : List Stmt} {t u : TS} {e : Expr} {te : TE} {pos : Pos}
def tNext : TS := fun D σ H => D.nx σ H
def tSeq (t u : TS) : TS := fun D σ H => t { D with nx := u D } σ H
theorem pss_nil : PSs X [] tNext := fun _ _ σ H _ I h => wpAny_execs_nil ⟨σ, H, I, h⟩
theorem pss_cons (h1 : PS X st t) (h2 : PSs X rest u) : PSs X (st :: rest) (tSeq t u) := by
  intro pins s σ H D I h
  refine wpAny_execs_cons (thn (h1 pins s σ H { D with nx := u D } I h) fun f s1 q => ?_)
  cases f with
  | next =>
    obtain ⟨σ', H', I', q⟩ := q
    exact h2 pins s1 σ' H' D I' q
  | ret v => exact q
  | brk => exact q
  | cont => exact q
theorem pss_one (h1 : PS X st t) : PSs X [st] t := by
  intro pins s σ H D I h
  refine wpAny_execs_cons (thn (h1 pins s σ H D I h) fun f s1 q => ?_)
  cases f with
  | next => exact wpAny_execs_nil q
  | ret v => exact q
  | brk => exact q
  | cont => exact q
/-- in a def's body nothing is shown -/
theorem Inv.quiet {pins : List (Addr × Obj)} {σ : St} {H : Hp} {s : Shared} (I : Inv X pins σ H s) : interactive X.env = false := by simp [interactive, I.ok.kind]
/-- an expression whose value is dropped -/
def tDrop (te : TE) : TS := fun D σ H => te σ H fun _ H1 => D.nx σ H1
theorem ps_expr (he : PE X e te) (hs : swapsWith e none pos.line X.env = pure false := by rfl) : PS X (.Expr e pos) (tDrop te) := by
  intro pins s σ H D I h
  exact wpAny_Expr_any (thn (he pins s σ H _ I h) fun v s1 ⟨x, H1, I1, r1, q1⟩ => ⟨σ, H1, I1, q1⟩) I.quiet hs
def tRet (te : TE) : TS := fun D σ H => te σ H D.rt
theorem ps_ret (he : PE X e te) : PS X (.Return (some e) pos) (tRet te) := by
  intro pins s σ H D I h
  exact wpAny_Return_some (thn (he pins s σ H _ I h) fun v s1 ⟨x, H1, I1, r1, q1⟩ => ⟨x, σ, H1, I1, r1, q1⟩)
def tIfS (c : TT) (t u : TS) : TS := fun D σ H => c σ H fun b H1 => if b = true then t D σ H1 else u D σ H1
theorem ps_if {c : Expr} {a b : List Stmt} {tc : TT} (hc : PT X c tc) (ha : PSs X a t) (hb : PSs X b u) : PS X (.If c a b pos) (tIfS tc t u) := by
  intro pins s σ H D I h
  refine wpAny_If (thn (hc pins s σ H _ I h) fun d s1 ⟨H1, I1, q1⟩ => ?_)
  cases d with
  | true => exact ha pins s1 σ H1 D I1 q1
  | false => exact hb pins s1 σ H1 D I1 q1
end

/-! ### targets -/
abbrev TG := V → St → Hp → (St → Hp → Prop) → Prop
abbrev TGs := List V → St → Hp → (St → Hp → Prop) → Prop
def PG (X : Cx) (target : Expr) (t : TG) : Prop :=
  ∀ (pins : List (Addr × Obj)) (s : Shared) (σ : St) (H : Hp) (v : V) (u : Value) (Q : St → Hp → Prop), Inv X pins σ H s → RelV v u → t v σ H Q →
    wpAny (model X.prog X.w) X.A (assign target X.env u) (fun _ s' => ∃ σ' H', Inv X pins σ' H' s' ∧ Q σ' H') X.xe s
/-- several targets, one after another -/
def PGs (X : Cx) (ts : List Expr) (t : TGs) : Prop :=
  ∀ (pins : List (Addr × Obj)) (s : Shared) (σ : St) (H : Hp) (vs : List V) (us : List Value) (Q : St → Hp → Prop), Inv X pins σ H s → Vals vs us → t vs σ H Q →
    wpAny (model X.prog X.w) X.A (assignInOrder ((assignEach ts X.env).map (·.2)) us) (fun _ s' => ∃ σ' H', Inv X pins σ' H' s' ∧ Q σ' H') X.xe s
/-- o[i] = v, by values -/
abbrev TSet := V → V → V → Hp → (Hp → Prop) → Prop
def PSet (X : Cx) (t : TSet) : Prop :=
  ∀ (pins : List (Addr × Obj)) (s : Shared) (σ : St) (H : Hp) (o i v : V) (ov iv u : Value) (Q : Hp → Prop), Inv X pins σ H s → RelV o ov → RelV i iv → RelV v u → t o i v H Q →
    wpAny (model X.prog X.w) X.A (setItem ov iv u) (fun _ s' => ∃ H', Inv X pins σ H' s' ∧ Q H') X.xe s
section
variable {X : Cx} {pos : Pos}
def gName (i : Nat) : TG := fun v σ H Q => Q (σ.set i (some v)) H
theorem pg_name {i : Nat} {x : Str} (hN : X.N.Nodup) (hi : X.N[i]? = some x) (hx : Loc X.env.scope x) (hf : X.fn x = true ∨ X.env.scope.names.lookup x = some .local := by first | exact .inl rfl | exact .inr rfl | assumption) : PG X (.Name x pos) (gName i) := by
  intro pins s σ H v u Q I r h
  exact wpAny_assign_Name (store_ok I hN hi hx r (fun s' I' => ⟨_, H, I', h⟩) hf)
def gNil : TGs := fun vs σ H Q => vs = [] ∧ Q σ H
def gCons (t : TG) (u : TGs) : TGs := fun vs σ H Q => ∃ v r, vs = v :: r ∧ t v σ H fun σ' H' => u r σ' H' Q
theorem pgs_nil : PGs X [] gNil := by
  intro pins s σ H vs us Q I r h
  obtain ⟨e, h⟩ := h
  subst e
  cases r
  exact assignInOrder_nil ⟨σ, H, I, h⟩
theorem pgs_cons {e : Expr} {es : List Expr} {t : TG} {u : TGs} (h1 : PG X e t) (h2 : PGs X es u)
    (hs : (assignEach (e :: es) X.env).map (·.2) = assign e X.env :: (assignEach es X.env).map (·.2) := by rfl) : PGs X (e :: es) (gCons t u) := by
  intro pins s σ H vs us Q I r h
  obtain ⟨v, vr, e1, h⟩ := h
  subst e1
  cases r with
  | cons r rr =>
    rw [hs]
    refine assignInOrder_cons (thn (h1 pins s σ H _ _ _ I r h) fun _ s1 ⟨σ1, H1, I1, q1⟩ => ?_)
    exact h2 pins s1 σ1 H1 _ _ Q I1 rr q1
/-- (a, b, ..) = a tuple of that length -/
def gTup (K : PySem.W.Frag) (n : Nat) (t : TGs) : TG := fun v σ H Q => ∃ a xs, v = .ref a ∧ SqT K H a xs ∧ xs.length = n ∧ t xs σ H Q
theorem pg_tup {es : List Expr} {k : Nat} {t : TGs} {n : Nat} (hc : X.calm = true) (h : PGs X es t)
    (hn : (assignEach es X.env).length = n := by rfl) (hst : (assignEach es X.env).findIdx? (·.1) = none := by rfl) : PG X (.Tuple es k pos) (gTup X.K n t) := by
  intro pins s σ H v u Q I r hw
  obtain ⟨a, xs, e1, hq, hl, hw⟩ := hw
  subst e1
  cases r
  obtain ⟨its, rv, ht, hz⟩ := I.tuple hq
  refine assign_Tuple_tuple (I.ok.hd hc) ht (by simp [hn, ← hl, rv.length]) hst fun h' hx => ?_
  have I1 : Inv X pins σ H { s with heap := h' } := I.kept (t' := s.toks) fun b o e => hx b o (Nat.ne_of_lt (Heap.lt_size e)) e
  exact h pins _ σ H xs _ Q I1 (by simpa using rv) hw
/-- o[i] = .. -/
def gSub (to ti : TE) (t : TSet) : TG := fun v σ H Q => to σ H fun o H1 => ti σ H1 fun i H2 => t o i v H2 fun H3 => Q σ H3
theorem pg_sub {o i : Expr} {to ti : TE} {t : TSet} (ho : PE X o to) (hi : PE X i ti) (hs : PSet X t)
    (ha : ∀ v, assign (.Subscript o i pos) X.env v = (do
      let ov ← holding [v] (eval o X.env)
      let iv ← holding [v, ov] (eval i X.env)
      standAt pos
      holding [v, ov, iv] (setItem ov iv v)
      release [v, ov, iv] []) := by intro _; rfl) : PG X (.Subscript o i pos) (gSub to ti t) := by
  intro pins s σ H v u Q I r h
  rw [ha]
  refine wpAny_bind (wpAny_holding (thn (ho pins s σ H _ I h) fun ov s1 ⟨x, H1, I1, r1, q1⟩ => ?_))
  refine wpAny_bind (wpAny_holding (thn (hi pins s1 σ H1 _ I1 q1) fun iv s2 ⟨y, H2, I2, r2, q2⟩ => ?_))
  refine wpAny_bind (wpAny_standAt (wpAny_bind (wpAny_holding (thn (hs pins s2 σ H2 x y v ov iv u _ I2 r1 r2 r q2) fun _ s3 ⟨H3, I3, q3⟩ => ?_))))
  exact wpAny_release ⟨σ, H3, I3, q3⟩
/-- target = value -/
def tAsg (te : TE) (g : TG) : TS := fun D σ H => te σ H fun x H1 => g x σ H1 D.nx
theorem ps_asg {tg e : Expr} {te : TE} {g : TG} (he : PE X e te) (hg : PG X tg g) (hs : swapsWithSole [tg] e pos.line X.env = pure false := by rfl) (hw : swappedStores [tg] e X.env = pure none := by rfl)
    (h1 : (assignEach [tg] X.env).map (·.2) = [assign tg X.env] := by rfl) : PS X (.Assign [tg] e pos) (tAsg te g) := by
  intro pins s σ H D I h
  refine wpAny_Assign_stores (thn (he pins s σ H _ I h) fun v s1 ⟨x, H1, I1, r1, q1⟩ => ?_) hs hw
  rw [h1]
  exact thn (hg pins s1 σ H1 x v _ I1 r1 q1) fun _ s2 q => q
/-- name = value -/
theorem ps_set {i : Nat} {x : Str} {e : Expr} {te : TE} {pos' : Pos} (hN : X.N.Nodup) (hi : X.N[i]? = some x) (hx : Loc X.env.scope x) (he : PE X e te) (hs : swapsWith e (some (.Name x pos')) pos.line X.env = pure false := by rfl) (hf : X.fn x = true ∨ X.env.scope.names.lookup x = some .local := by first | exact .inl rfl | exact .inr rfl | assumption) :
    PS X (.Assign [.Name x pos'] e pos) (tAsg te (gName i)) := by
  intro pins s σ H D I h
  refine wpAny_Assign_Name (thn (he pins s σ H _ I h) fun v s1 ⟨y, H1, I1, r1, q1⟩ => ?_) hs
  exact store_ok I1 hN hi hx r1 (fun s2 I2 => ⟨_, H1, I2, q1⟩) hf
end

/-! ### while -/
section
variable {X : Cx} {pos : Pos}
/-- the invariant W with its measure -/
def tWhile (c : TT) (tb : TS) : TS := fun D σ H => ∃ W : Nat → St → Hp → Prop, (∃ m, W m σ H) ∧ ∀ m σ H, W m σ H →
  c σ H fun b H1 => if b = true then ∃ N : St → Hp → Prop, (∀ σ' H', N σ' H' → ∃ m', m' < m ∧ W m' σ' H') ∧ tb { D with nx := N, ct := N, bk := D.nx } σ H1 else D.nx σ H1
theorem ps_while {c : Expr} {body : List Stmt} {tc : TT} {tb : TS} (hp : PassesOwn (model X.prog X.w) X.A X.env X.xe) (hc : PT X c tc) (hb : PSs X body tb) : PS X (.While c body [] pos) (tWhile tc tb) := by
  intro pins s σ H D I h
  obtain ⟨W, ⟨m0, w0⟩, turn⟩ := h
  refine wpAny_While (codeAny_whileLoop (fun n s' => ∃ σ' H', Inv X pins σ' H' s' ∧ W n σ' H') ?_ m0 ⟨σ, H, I, w0⟩)
  rintro n s1 ⟨σ1, H1, I1, w1⟩
  refine wpAny_passesOwn hp (thn (hc pins s1 σ1 H1 _ I1 (turn n σ1 H1 w1)) fun b s2 ⟨H2, I2, q2⟩ => ?_)
  cases b with
  | true =>
    obtain ⟨N, hN, q2⟩ := q2
    rw [if_pos rfl]
    refine wpAny_passesOwn hp (thn (hb pins s2 σ1 H2 _ I2 q2) fun f s3 q3 => ?_)
    cases f with
    | next =>
      obtain ⟨σ3, H3, I3, n3⟩ := q3
      obtain ⟨m', hm, w3⟩ := hN σ3 H3 n3
      exact ⟨m', hm, σ3, H3, I3, w3⟩
    | cont =>
      obtain ⟨σ3, H3, I3, n3⟩ := q3
      obtain ⟨m', hm, w3⟩ := hN σ3 H3 n3
      exact ⟨m', hm, σ3, H3, I3, w3⟩
    | brk => exact q3
    | ret v => exact q3
  | false =>
    rw [if_neg Bool.false_ne_true]
    exact wpAny_execs_nil ⟨σ1, H2, I2, q2⟩
end

/-! ### what a loop or a comprehension walks -/
/-- at turn i: it yields x (the heap may grow), or it stops -/
structure It where
  go : Nat → Hp → Prop
  yld : Nat → Hp → V → Hp → Prop
  stop : Nat → Hp → Prop
/-- the iterator's own objects may turn: they are not the frame's, not pinned, younger than the entry (or a comprehension's own) -/
def FpOk (X : Cx) (pins : List (Addr × Obj)) (H : Hp) (b : Addr) : Prop :=
  H b = none ∧ b ≠ X.env.locals ∧ b ∉ X.fs ∧ (b ∈ X.ex ∨ X.s_0.heap.objs.size ≤ b) ∧ (∀ x c, X.env.cells.lookup x = some c → c ≠ b) ∧ ∀ p ∈ X.pn ++ pins, p.1 ≠ b
theorem Inv.fpOk {X : Cx} {pins : List (Addr × Obj)} {σ : St} {H H' : Hp} {s : Shared} {b : Addr} (I : Inv X pins σ H s) (hb : s.heap.objs.size ≤ b) (hn : H' b = none) : FpOk X pins H' b := by
  refine ⟨hn, Nat.ne_of_gt (Nat.lt_of_lt_of_le I.lt hb), I.nofs hb, .inr (Nat.le_trans I.sz hb), fun x c e z => ?_, fun p hp z => ?_⟩
  · obtain ⟨v, q⟩ := I.cell x c e
    exact absurd (Nat.lt_of_lt_of_le q.lt (by rw [z]; exact hb)) (Nat.lt_irrefl _)
  · exact absurd (Nat.lt_of_lt_of_le (Heap.lt_size (I.pin p hp).1) (by rw [z]; exact hb)) (Nat.lt_irrefl _)
structure Turn (P : Program) (w : World) (K : PySem.W.Frag) (tg : Expr) (J : It) (fp : List Addr) (it : Addr) (tn : Nat → Heap → Prop) : Prop where
  mem : it ∈ fp
  obj : ∀ i h, tn i h → ∀ b ∈ fp, ∃ o, h.get? b = some o ∧ ∀ v, o.data ≠ .cell v
  keep : ∀ i h h', tn i h → (∀ b ∈ fp, ∀ o, h.get? b = some o → h'.get? b = some o) → tn i h'
  item : ∀ (X : Cx), X.prog = P → X.w = w → X.K = K → X.calm = true → ∀ (i : Nat) (pins : List (Addr × Obj)) (s : Shared) (σ : St) (H : Hp) (E : Value → Shared → Prop), Inv X pins σ H s → (∀ b ∈ fp, FpOk X pins H b) → tn i s.heap → J.go i H →
    wpAny (model P w) X.A (pyNext (.ref it)) (fun r s1 => ∃ u, r = some u ∧
      wpAny (model P w) X.A (letOwnedTupleGo tg (.ref it) u) (fun _ s2 => ∃ x H', Inv X pins σ H' s2 ∧ RelV x u ∧ J.yld i H x H' ∧ tn (i + 1) s2.heap ∧ ∀ b ∈ fp, H' b = none) E s1) E s
  done : ∀ (X : Cx), X.prog = P → X.w = w → X.K = K → X.calm = true → ∀ (i : Nat) (pins : List (Addr × Obj)) (s : Shared) (σ : St) (H : Hp) (E : Value → Shared → Prop), Inv X pins σ H s → (∀ b ∈ fp, FpOk X pins H b) → tn i s.heap → J.stop i H →
    wpAny (model P w) X.A (pyNext (.ref it)) (fun r s1 => r = none ∧ Inv X pins σ H s1) E s
  self : ∀ (A : Around) (i : Nat) (s : Shared) (Q : Value → Shared → Prop) (E : Value → Shared → Prop), tn i s.heap → Q (.ref it) s → wpAny (model P w) A (pyIter (.ref it)) Q E s
abbrev TI := St → Hp → (It → Hp → Prop) → Prop
/-- an iterator has come -/
def PIE (X : Cx) (pins : List (Addr × Obj)) (σ : St) (tg : Expr) (R : It → Hp → Prop) (itv : Value) (s2 : Shared) : Prop :=
  ∃ (it : Addr) (fp : List Addr) (tn : Nat → Heap → Prop) (J : It) (H' : Hp), itv = .ref it ∧ Inv X pins σ H' s2 ∧ Turn X.prog X.w X.K tg J fp it tn ∧ tn 0 s2.heap ∧ (∀ b ∈ fp, FpOk X pins H' b) ∧ R J H'
def PI (X : Cx) (tg iter : Expr) (wi : TI) : Prop :=
  ∀ (pins : List (Addr × Obj)) (s : Shared) (σ : St) (H : Hp) (R : It → Hp → Prop), Inv X pins σ H s → wi σ H R →
    wpAny (model X.prog X.w) X.A (eval iter X.env) (fun v s1 => wpAny (model X.prog X.w) X.A (pyIter v) (PIE X pins σ tg R) X.xe s1) X.xe s

/-- the step ahead of the store is nothing for an iterator that keeps no tuple -/
theorem go_of {M : Model} {A : Around} {E : Value → Shared → Prop} {s : Shared} {tg : Expr} {it : Addr} {u : Value} {o : Obj} {n : String} {vs : Array Value} {Q : Unit → Shared → Prop} (ho : s.heap.get? it = some o) (hc : o.cls = .type n) (hd : o.data = .fields vs)
    (hn : ["enumerate", "zip", "dict_itemiterator", "dict_reverseitemiterator", "odict_iterator", "itertools.zip_longest", "itertools.pairwise"].contains n = false) (hQ : Q () s) : wpAny M A (letOwnedTupleGo tg (.ref it) u) Q E s := by
  unfold letOwnedTupleGo
  cases tg <;> first
    | exact wpAny_pure hQ
    | (cases u <;> first
        | exact wpAny_pure hQ
        | (refine wpAny_bind (wpAny_load ho ?_)
           rw [hc, hd]
           show wpAny M A (if (["enumerate", "zip", "dict_itemiterator", "dict_reverseitemiterator", "odict_iterator", "itertools.zip_longest", "itertools.pairwise"].contains n && vs[0]? == some (rawInt _)) = true then _ else _) Q E s
           rw [if_neg (by intro h; rw [hn, Bool.false_and] at h; cases h)]
           exact wpAny_pure hQ))

/-- the list at a, as it stands at each turn (a loop may append to it) -/
def Itl (K : PySem.W.Frag) (a : Addr) : It :=
  ⟨fun i H => ∃ xs x, SqL K H a xs ∧ xs[i]? = some x, fun i H x H' => H' = H ∧ ∀ xs, SqL K H a xs → xs[i]? = some x, fun i H => ∃ xs, SqL K H a xs ∧ xs.length ≤ i⟩
def Itt (K : PySem.W.Frag) (a : Addr) : It :=
  ⟨fun i H => ∃ xs x, SqT K H a xs ∧ xs[i]? = some x, fun i H x H' => H' = H ∧ ∀ xs, SqT K H a xs → xs[i]? = some x, fun i H => ∃ xs, SqT K H a xs ∧ xs.length ≤ i⟩
/-- lo, lo + 1, .. (n of them) -/
def Itr (lo : Int) (n : Nat) : It := ⟨fun i _ => i < n, fun i H x H' => H' = H ∧ x = .int (lo + i), fun i _ => n ≤ i⟩
theorem turn_list {P : Program} {w : World} {K : PySem.W.Frag} {tg : Expr} (a it : Addr) : Turn P w K tg (Itl K a) [it] it (fun i h => h.IsListIter it a i) where
  mem := by simp
  obj := fun i h st b hb => by
    have e : b = it := by simpa using hb
    subst e
    obtain ⟨o, e, c, d⟩ := st
    exact ⟨o, e, fun v z => by rw [d] at z; cases z⟩
  keep := fun i h h' st k => st.at fun o e => k it (by simp) o e
  item := by
    intro X hP hw hK hc i pins s σ H E I hf st hg
    subst hP hw hK
    obtain ⟨xs, x, hq, hx⟩ := hg
    obtain ⟨its, rv, p, hz⟩ := I.list hq
    obtain ⟨u, hu, ru⟩ := rv.get hx
    obtain ⟨f0, f1, f2, f3, f4, f5⟩ := hf it (by simp)
    refine wpAny_pyNext_list_item st p.isList (x := u) (by simpa using hu) fun h' st' sb => ?_
    have I1 : Inv X pins σ H { s with heap := h' } := I.turned (t' := s.toks) (fun b o hb e => (sb.2 b hb).trans e) f0 f1 f3 f4 f5
    obtain ⟨o, e, c, d⟩ := id st'
    exact ⟨u, rfl, go_of (s := { s with heap := h' }) e c d (by decide) ⟨x, H, I1, ru, ⟨rfl, fun ys hy => by rw [I.list_inj hy hq]; exact hx⟩, st', fun b hb => (hf b hb).1⟩⟩
  done := by
    intro X hP hw hK hc i pins s σ H E I hf st hg
    subst hP hw hK
    obtain ⟨xs, hq, hx⟩ := hg
    obtain ⟨its, rv, p, hz⟩ := I.list hq
    obtain ⟨f0, f1, f2, f3, f4, f5⟩ := hf it (by simp)
    have hl := rv.length
    exact wpAny_pyNext_list_end (I.ok.hd hc) st p.isList (by simp; omega) fun h' eb => ⟨rfl, I.turned (t' := s.toks) (fun b o hb e => eb b o hb e) f0 f1 f3 f4 f5⟩
  self := fun _ _ _ _ _ st h => wpAny_pyIter_listiter st h
theorem turn_tuple {P : Program} {w : World} {K : PySem.W.Frag} {tg : Expr} (a it : Addr) : Turn P w K tg (Itt K a) [it] it (fun i h => h.IsTupleIter it a i) where
  mem := by simp
  obj := fun i h st b hb => by
    have e : b = it := by simpa using hb
    subst e
    obtain ⟨o, e, c, d⟩ := st
    exact ⟨o, e, fun v z => by rw [d] at z; cases z⟩
  keep := fun i h h' st k => st.at fun o e => k it (by simp) o e
  item := by
    intro X hP hw hK hc i pins s σ H E I hf st hg
    subst hP hw hK
    obtain ⟨xs, x, hq, hx⟩ := hg
    obtain ⟨its, rv, p, hz⟩ := I.tuple hq
    obtain ⟨u, hu, ru⟩ := rv.get hx
    obtain ⟨f0, f1, f2, f3, f4, f5⟩ := hf it (by simp)
    refine wpAny_pyNext_tuple_item st (show s.heap.IsTuple a its.toArray from p) (x := u) (by simpa using hu) fun h' st' sb => ?_
    have I1 : Inv X pins σ H { s with heap := h' } := I.turned (t' := s.toks) (fun b o hb e => (sb.2 b hb).trans e) f0 f1 f3 f4 f5
    obtain ⟨o, e, c, d⟩ := id st'
    exact ⟨u, rfl, go_of (s := { s with heap := h' }) e c d (by decide) ⟨x, H, I1, ru, ⟨rfl, fun ys hy => by rw [I.tuple_inj hy hq]; exact hx⟩, st', fun b hb => (hf b hb).1⟩⟩
  done := by
    intro X hP hw hK hc i pins s σ H E I hf st hg
    subst hP hw hK
    obtain ⟨xs, hq, hx⟩ := hg
    obtain ⟨its, rv, p, hz⟩ := I.tuple hq
    obtain ⟨f0, f1, f2, f3, f4, f5⟩ := hf it (by simp)
    have hl := rv.length
    exact wpAny_pyNext_tuple_end (I.ok.hd hc) st (show s.heap.IsTuple a its.toArray from p) (by simp; omega) fun h' eb => ⟨rfl, I.turned (t' := s.toks) (fun b o hb e => eb b o hb e) f0 f1 f3 f4 f5⟩
  self := fun _ _ _ _ _ st h => wpAny_pyIter_tupleiter st h
theorem turn_range {P : Program} {w : World} {K : PySem.W.Frag} {tg : Expr} (it : Addr) (lo : Int) (n : Nat) : Turn P w K tg (Itr lo n) [it] it (fun i h => IsRangeIter h it (lo + (i : Nat) * 1) ((n : Int) - (i : Nat)) 1) where
  mem := by simp
  obj := fun i h st b hb => by
    have e : b = it := by simpa using hb
    subst e
    exact ⟨_, st, fun v z => by
      have z' : Data.fields _ = Data.cell v := z
      cases z'⟩
  keep := fun i h h' st k => k it (by simp) _ st
  item := by
    intro X hP hw hK hc i pins s σ H E I hf st hg
    subst hP hw hK
    obtain ⟨f0, f1, f2, f3, f4, f5⟩ := hf it (by simp)
    have W := Walks.range (prog := X.prog) (w := X.w) (I.ok.hd hc) it lo 1 n
    refine W.item i s _ _ hg st fun v h' tk hv st' kk => ?_
    obtain ⟨t, rfl⟩ := hv
    have I1 : Inv X pins σ H { s with heap := h', toks := tk } := I.turned (fun b o hb e => kk b o (by simpa using hb) e) f0 f1 f3 f4 f5
    refine ⟨_, rfl, go_of (s := { s with heap := h', toks := tk }) (n := "range_iterator") st' rfl rfl (by decide) ⟨.int (lo + i), H, I1, ⟨t, ?_⟩, ⟨rfl, rfl⟩, st', fun b hb => (hf b hb).1⟩⟩
    rw [Int.mul_one]
  done := by
    intro X hP hw hK hc i pins s σ H E I hf st hg
    subst hP hw hK
    obtain ⟨f0, f1, f2, f3, f4, f5⟩ := hf it (by simp)
    exact wpAny_pyNext_range_end (I.ok.hd hc) st (by have : n ≤ i := hg; omega) fun h' eb => ⟨rfl, I.turned (t' := s.toks) (fun b o hb e => eb b o hb e) f0 f1 f3 f4 f5⟩
  self := fun _ _ _ _ _ st h => wpAny_pyIter_rangeiter st h
end L2

namespace L2
open PySem PySem.Spec PyProof.Rows
section
variable {X : Cx} {tg : Expr}
def iList (K : PySem.W.Frag) (tl : TE) : TI := fun σ H R => tl σ H fun x H1 => ∃ a, x = .ref a ∧ (∃ xs, SqL K H1 a xs) ∧ R (Itl K a) H1
def iTup (K : PySem.W.Frag) (tl : TE) : TI := fun σ H R => tl σ H fun x H1 => ∃ a, x = .ref a ∧ (∃ xs, SqT K H1 a xs) ∧ R (Itt K a) H1
theorem pi_list {l : Expr} {tl : TE} (hl : PE X l tl) : PI X tg l (iList X.K tl) := by
  intro pins s σ H R I h
  refine thn (hl pins s σ H _ I h) fun v s1 ⟨x, H1, I1, r1, q1⟩ => ?_
  obtain ⟨a, e, ⟨xs, hq⟩, q⟩ := q1
  subst e
  cases r1
  obtain ⟨its, rv, p, hz⟩ := I1.list hq
  refine wpAny_pyIter_list p.isList ?_
  refine ⟨s1.heap.objs.size, [s1.heap.objs.size], _, _, H1, rfl, I1.kept (t' := s1.toks) fun b o e => Heap.get?_push_of_some _ e, turn_list a _, ⟨_, Heap.get?_push_size _ rfl, rfl, rfl⟩, fun b hb => ?_, q⟩
  have e : b = s1.heap.objs.size := by simpa using hb
  subst e
  exact I1.fpOk (Nat.le_refl _) (I1.hok.fresh (Nat.le_refl _))
theorem pi_tup {l : Expr} {tl : TE} (hl : PE X l tl) : PI X tg l (iTup X.K tl) := by
  intro pins s σ H R I h
  refine thn (hl pins s σ H _ I h) fun v s1 ⟨x, H1, I1, r1, q1⟩ => ?_
  obtain ⟨a, e, ⟨xs, hq⟩, q⟩ := q1
  subst e
  cases r1
  obtain ⟨its, rv, p, hz⟩ := I1.tuple hq
  refine wpAny_pyIter_tuple (show s1.heap.IsTuple a its.toArray from p) ?_
  refine ⟨s1.heap.objs.size, [s1.heap.objs.size], _, _, H1, rfl, I1.kept (t' := s1.toks) fun b o e => Heap.get?_push_of_some _ e, turn_tuple a _, ⟨_, Heap.get?_push_size _ rfl, rfl, rfl⟩, fun b hb => ?_, q⟩
  have e : b = s1.heap.objs.size := by simpa using hb
  subst e
  exact I1.fpOk (Nat.le_refl _) (I1.hok.fresh (Nat.le_refl _))
/-- a range object just made, walked -/
theorem range_it {pins : List (Addr × Obj)} {σ : St} {H : Hp} {s : Shared} {R : It → Hp → Prop} {E : Value → Shared → Prop} {lo hi : Int} {t u v : Tok} {tk : Nat} (I : Inv X pins σ H s) (h1 : -(2 ^ 62) ≤ lo) (h2 : lo < 2 ^ 62) (h3 : -(2 ^ 62) ≤ hi) (h4 : hi < 2 ^ 62)
    (q : R (Itr lo (hi - lo).toNat) H) : wpAny (model X.prog X.w) X.A (pyIter (.ref s.heap.objs.size)) (PIE X pins σ tg R) E { s with heap := s.heap.push { cls := .type "range", data := .fields #[.int lo t, .int hi u, .int 1 v] }, toks := tk } := by
  refine wpAny_pyIter_range (IsRange.new ..) (small_one h1 h2 h3 h4) ?_
  have I1 : Inv X pins σ H { s with heap := s.heap.push { cls := .type "range", data := .fields #[.int lo t, .int hi u, .int 1 v] }, toks := tk } := I.kept fun b o e => Heap.get?_push_of_some _ e
  refine ⟨(s.heap.push { cls := .type "range", data := .fields #[.int lo t, .int hi u, .int 1 v] }).objs.size, [(s.heap.push { cls := .type "range", data := .fields #[.int lo t, .int hi u, .int 1 v] }).objs.size], _, _, H, rfl,
    I1.kept (t' := tk) fun b o e => Heap.get?_push_of_some _ e, turn_range _ lo (hi - lo).toNat, ?_, fun b hb => ?_, q⟩
  · have e1 : lo + ((0 : Nat) : Int) * 1 = lo := by simp
    have e2 : (((hi - lo).toNat : Nat) : Int) - ((0 : Nat) : Int) = Builtin.Range.rangeSize lo hi 1 := by rw [rangeSize_one]; split <;> omega
    show IsRangeIter _ _ (lo + ((0 : Nat) : Int) * 1) ((((hi - lo).toNat : Nat) : Int) - ((0 : Nat) : Int)) 1
    rw [e1, e2]
    exact Heap.get?_push_size _ rfl
  · have e : b = (s.heap.push { cls := .type "range", data := .fields #[.int lo t, .int hi u, .int 1 v] }).objs.size := by simpa using hb
    subst e
    exact I1.fpOk (Nat.le_refl _) (I1.hok.fresh (Nat.le_refl _))
def iRng1 (ta : TA) : TI := fun σ H R => ta σ H fun vs H1 => ∃ j : Int, vs = [.int j] ∧ -(2 ^ 62) ≤ j ∧ j < 2 ^ 62 ∧ R (Itr 0 j.toNat) H1
def iRng2 (ta : TA) : TI := fun σ H R => ta σ H fun vs H1 => ∃ i j : Int, vs = [.int i, .int j] ∧ (-(2 ^ 62) ≤ i ∧ i < 2 ^ 62 ∧ -(2 ^ 62) ≤ j ∧ j < 2 ^ 62) ∧ R (Itr i (j - i).toNat) H1
theorem pi_range1 {a : Expr} {ta : TA} {p pos : Pos} (hg : Gl X "range") (hm : X.mg "range" = none) (ha : PA X [a] ta) (hs : starEach [a] X.env = [(false, eval a X.env)] := by rfl) : PI X tg (.Call (.Name "range" p) [a] [] pos) (iRng1 ta) := by
  intro pins s σ H R I h
  refine Call_ (ld_blt I hg hm boot_range (PyProof.Rows.callWith_type1 (thn (ha pos pins s σ H _ I h) fun us s1 ⟨vs, H1, I1, r1, q1⟩ => ?_) hs rfl))
  obtain ⟨j, e, q1, q2, q⟩ := q1
  subst e
  cases r1 with
  | cons r rr =>
    cases rr
    obtain ⟨t, rfl⟩ := r
    exact call_range_1 (range_it I1 (by omega) (by omega) q1 q2 (by simpa using q))
theorem pi_range2 {a b : Expr} {ta : TA} {p pos : Pos} (hg : Gl X "range") (hm : X.mg "range" = none) (ha : PA X [a, b] ta) (hs : starEach [a, b] X.env = [(false, eval a X.env), (false, eval b X.env)] := by rfl) (hs2 : starEach [b] X.env = [(false, eval b X.env)] := by rfl) :
    PI X tg (.Call (.Name "range" p) [a, b] [] pos) (iRng2 ta) := by
  intro pins s σ H R I h
  refine Call_ (ld_blt I hg hm boot_range (PyProof.Rows.callWith_type1 (thn (ha pos pins s σ H _ I h) fun us s1 ⟨vs, H1, I1, r1, q1⟩ => ?_) (by rw [hs, hs2]) (by rw [hs2]; rfl)))
  obtain ⟨i, j, e, ⟨q1, q2, q3, q4⟩, q⟩ := q1
  subst e
  cases r1 with
  | cons r rr =>
    cases rr with
    | cons r' rr =>
      cases rr
      obtain ⟨t, rfl⟩ := r
      obtain ⟨t', rfl⟩ := r'
      exact call_range_2 (range_it I1 q1 q2 q3 q4 q)

/-! ### for -/
/-- W: the invariant by the turn and a measure; N: what the body is to reach -/
def tFor (wi : TI) (g : TG) (tb : TS) : TS := fun D σ H => wi σ H fun J H1 => ∃ W : Nat → Nat → St → Hp → Prop, (∃ m, W 0 m σ H1) ∧ ∀ i m σ H, W i m σ H →
  (J.stop i H ∧ D.nx σ H) ∨ (J.go i H ∧ ∃ N : St → Hp → Prop, (∀ σ' H', N σ' H' → ∃ m', m' < m ∧ W (i + 1) m' σ' H') ∧ ∀ x H', J.yld i H x H' → g x σ H' fun σ2 H2 => tb { D with nx := N, ct := N, bk := D.nx } σ2 H2)
/-- the records at fp as they stand -/
def pinsAt (fp : List Addr) (h : Heap) : List (Addr × Obj) := fp.filterMap fun b => (h.get? b).map fun o => (b, o)
theorem mem_pinsAt {fp : List Addr} {h : Heap} {b : Addr} {o : Obj} (hb : b ∈ fp) (e : h.get? b = some o) : (b, o) ∈ pinsAt fp h := List.mem_filterMap.mpr ⟨b, hb, by rw [e]; rfl⟩
theorem of_pinsAt {fp : List Addr} {h : Heap} {p : Addr × Obj} (hp : p ∈ pinsAt fp h) : p.1 ∈ fp ∧ h.get? p.1 = some p.2 := by
  obtain ⟨b, hb, e⟩ := List.mem_filterMap.mp hp
  cases q : h.get? b with
  | none => rw [q] at e; cases e
  | some o =>
    rw [q] at e
    have e' : (b, o) = p := Option.some.inj e
    subst e'
    exact ⟨hb, q⟩
theorem Inv.pinned {pins : List (Addr × Obj)} {σ : St} {H : Hp} {s : Shared} {fp : List Addr} (I : Inv X pins σ H s) (hf : ∀ b ∈ fp, FpOk X pins H b) (ho : ∀ b ∈ fp, ∃ o, s.heap.get? b = some o ∧ ∀ v, o.data ≠ .cell v) : Inv X (pins ++ pinsAt fp s.heap) σ H s :=
  I.pins_of fun p hp => (List.mem_append.mp hp).elim (fun z => I.pin p (List.mem_append_right _ z)) fun z => by
    obtain ⟨hb, e⟩ := of_pinsAt z
    obtain ⟨f0, f1, f2, _⟩ := hf p.1 hb
    obtain ⟨o, e', d⟩ := ho p.1 hb
    rw [e] at e'; cases e'
    exact ⟨e, f0, f1, f2, d⟩
theorem Inv.unpinned {pins pl : List (Addr × Obj)} {σ : St} {H : Hp} {s : Shared} (I : Inv X (pins ++ pl) σ H s) : Inv X pins σ H s := I.pins_of fun p hp => I.pin p (List.mem_append_right _ (List.mem_append_left _ hp))
theorem ps_for {iter : Expr} {body : List Stmt} {wi : TI} {g : TG} {tb : TS} {pos : Pos} (hp : PassesOwn (model X.prog X.w) X.A X.env X.xe) (hc : X.calm = true) (hi : PI X tg iter wi) (hg : PG X tg g) (hb : PSs X body tb)
    (hs : ∀ x, foldedSetIterable iter X.env x = pure x := by intro _; rfl) : PS X (.For tg iter body [] pos) (tFor wi g tb) := by
  intro pins s σ H D I h
  refine wpAny_For (thn (hi pins s σ H _ I h) fun v s1 h1 => thn h1 fun itv s2 h2 => ?_) hs
  obtain ⟨it, fp, tn, J, H2, e, I2, T, st2, f2, W, ⟨m0, w0⟩, turn⟩ := h2
  subst e
  -- what stays true of the iterator's objects through the loop
  have stat : ∀ {H' : Hp}, (∀ b ∈ fp, H' b = none) → ∀ b ∈ fp, FpOk X pins H' b := fun hn b hb => ⟨hn b hb, (f2 b hb).2⟩
  refine codeAny_forLoop_any (fun n s' => ∃ i σ' H', Inv X pins σ' H' s' ∧ tn i s'.heap ∧ (∀ b ∈ fp, H' b = none) ∧ W i n σ' H') ?_ m0 ⟨0, σ, H2, I2, st2, fun b hb => (f2 b hb).1, w0⟩
  rintro n s3 ⟨i, σ3, H3, I3, st3, fr3, w3⟩
  rcases turn i n σ3 H3 w3 with ⟨stop, qn⟩ | ⟨go, N, hN, step⟩
  · refine wpAny_passesOwn hp (thn (T.done X rfl rfl rfl hc i pins s3 σ3 H3 X.xe I3 (stat fr3) st3 stop) fun r s4 ⟨hr, I4⟩ => ?_)
    subst hr
    exact wpAny_execs_nil ⟨σ3, H3, I4, qn⟩
  · refine wpAny_passesOwn hp (thn (T.item X rfl rfl rfl hc i pins s3 σ3 H3 X.xe I3 (stat fr3) st3 go) fun r s4 ⟨u, hr, h4⟩ => ?_)
    subst hr
    refine wpAny_passesOwn hp (thn h4 fun _ s5 ⟨x, H5, I5, r5, y5, st5, fr5⟩ => ?_)
    have I5' := I5.pinned (stat fr5) (T.obj _ _ st5)
    refine wpAny_passesOwn hp (thn (hg _ s5 σ3 H5 x u _ I5' r5 (step x H5 y5)) fun _ s6 ⟨σ6, H6, I6, q6⟩ => ?_)
    refine wpAny_passesOwn hp (thn (hb _ s6 σ6 H6 _ I6 q6) fun f s7 q7 => ?_)
    have again : ∀ {σ7 : St} {H7 : Hp}, Inv X (pins ++ pinsAt fp s5.heap) σ7 H7 s7 → N σ7 H7 → ∃ m, m < n ∧ ∃ i σ' H', Inv X pins σ' H' s7 ∧ tn i s7.heap ∧ (∀ b ∈ fp, H' b = none) ∧ W i m σ' H' := fun {σ7 H7} I7 n7 => by
      obtain ⟨m', hm, w7⟩ := hN σ7 H7 n7
      refine ⟨m', hm, i + 1, σ7, H7, I7.unpinned, T.keep _ _ _ st5 fun b hb o e => (I7.pin (b, o) (List.mem_append_right _ (List.mem_append_right _ (mem_pinsAt hb e)))).1, fun b hb => ?_, w7⟩
      obtain ⟨o, e, d⟩ := T.obj _ _ st5 b hb
      exact (I7.pin (b, o) (List.mem_append_right _ (List.mem_append_right _ (mem_pinsAt hb e)))).2.1
    cases f with
    | next => obtain ⟨σ7, H7, I7, n7⟩ := q7; exact again I7 n7
    | cont => obtain ⟨σ7, H7, I7, n7⟩ := q7; exact again I7 n7
    | brk => obtain ⟨σ7, H7, I7, q7⟩ := q7; exact ⟨σ7, H7, I7.unpinned, q7⟩
    | ret v => obtain ⟨x7, σ7, H7, I7, r7, q7⟩ := q7; exact ⟨x7, σ7, H7, I7.unpinned, r7, q7⟩
end

/-! ### the forms one uses -/
end L2

namespace L2
open PySem PySem.Spec PyProof.Rows

abbrev R2 := V → V → Hp → VK → Prop
/-- a two-place operation on values: f is binaryOp op, inplaceOp op or compareOp op -/
def OpR (X : Cx) (f : Value → Value → Sem Value) (r : R2) : Prop :=
  ∀ (pins : List (Addr × Obj)) (s : Shared) (σ : St) (H : Hp) (x y : V) (v u : Value) (Q : VK), Inv X pins σ H s → RelV x v → RelV y u → r x y H Q →
    wpAny (model X.prog X.w) X.A (f v u) (EP X pins σ Q) X.xe s
/-- a one-place operation -/
def UnR (X : Cx) (f : Value → Sem Value) (r : V → Hp → VK → Prop) : Prop :=
  ∀ (pins : List (Addr × Obj)) (s : Shared) (σ : St) (H : Hp) (x : V) (v : Value) (Q : VK), Inv X pins σ H s → RelV x v → r x H Q →
    wpAny (model X.prog X.w) X.A (f v) (EP X pins σ Q) X.xe s
/-- a call of a value that is known (a builtin, a type) with values -/
def CallR (X : Cx) (f : Value) (r : List V → Hp → VK → Prop) : Prop :=
  ∀ (pins : List (Addr × Obj)) (s : Shared) (σ : St) (H : Hp) (xs : List V) (us : List Value) (Q : VK), Inv X pins σ H s → Vals xs us → r xs H Q →
    wpAny (model X.prog X.w) X.A (call f us) (EP X pins σ Q) X.xe s
/-- a value's truth -/
def TruR (X : Cx) (r : V → Hp → (Bool → Hp → Prop) → Prop) : Prop :=
  ∀ (pins : List (Addr × Obj)) (s : Shared) (σ : St) (H : Hp) (x : V) (v : Value) (Q : Bool → Hp → Prop), Inv X pins σ H s → RelV x v → r x H Q →
    wpAny (model X.prog X.w) X.A (truthy v) (TP X pins σ Q) X.xe s

def tOp (r : R2) (ta tb : TE) : TE := fun σ H Q => ta σ H fun x H1 => tb σ H1 fun y H2 => r x y H2 Q
def tUn (r : V → Hp → VK → Prop) (ta : TE) : TE := fun σ H Q => ta σ H fun x H1 => r x H1 Q
/-- ints in, under C, and a value out -/
def rI (C : Int → Int → Prop) (g : Int → Int → V) : R2 := fun x y H Q => ∃ i j, x = .int i ∧ y = .int j ∧ C i j ∧ Q (g i j) H
def rI0 (g : Int → Int → V) : R2 := fun x y H Q => ∃ i j, x = .int i ∧ y = .int j ∧ Q (g i j) H
def rU (g : Int → V) : V → Hp → VK → Prop := fun x H Q => ∃ i, x = .int i ∧ Q (g i) H

section
variable {X : Cx} {a b c : Expr} {ta tb tc : TE} {pos : Pos}

theorem binT (ha : PE X a ta) (hb : PE X b tb) {pins : List (Addr × Obj)} {s : Shared} {σ : St} {H : Hp} {R : V → V → Hp → Prop} (I : Inv X pins σ H s)
    (h : ta σ H fun x H1 => tb σ H1 fun y H2 => R x y H2) {Q : Value → Shared → Prop} {f : Value → Value → Sem Value}
    (hf : ∀ v u s2 x y H2, Inv X pins σ H2 s2 → RelV x v → RelV y u → R x y H2 → wpAny (model X.prog X.w) X.A (f v u) Q X.xe s2) :
    wpAny (model X.prog X.w) X.A (eval a X.env) (fun v s₁ => wpAny (model X.prog X.w) X.A (eval b X.env) (fun u s₂ => wpAny (model X.prog X.w) X.A (f v u) Q X.xe s₂) X.xe s₁) X.xe s := by
  refine thn (ha pins s σ H _ I h) fun v s1 ⟨x, H1, I1, r1, q1⟩ => ?_
  refine thn (hb pins s1 σ H1 _ I1 q1) fun u s2 ⟨y, H2, I2, r2, q2⟩ => ?_
  exact hf v u s2 x y H2 I2 r1 r2 q2

theorem pe_op {op : Operator} {r : R2} (ho : OpR X (binaryOp op) r) (ha : PE X a ta) (hb : PE X b tb) : PE X (.BinOp a op b pos) (tOp r ta tb) := by
  intro pins s σ H Q I h
  exact wpAny_BinOp (binT ha hb I h fun v u s2 x y H2 I2 rx ry q => ho pins s2 σ H2 x y v u Q I2 rx ry q)
theorem pe_un {op : UnaryOp} {r : V → Hp → VK → Prop} (ho : UnR X (unaryOp op) r) (ha : PE X a ta) : PE X (.UnaryOp op a pos) (tUn r ta) := by
  intro pins s σ H Q I h
  exact UnaryOp_ (thn (ha pins s σ H _ I h) fun v s1 ⟨x, H1, I1, r1, q1⟩ => ho pins s1 σ H1 x v Q I1 r1 q1)
/-! ### ints -/
theorem opI {f : Value → Value → Sem Value} {C : Int → Int → Prop} {g : Int → Int → Int}
    (rule : ∀ (i j : Int) (t u : Tok) (s : Shared) (Q : Value → Shared → Prop) (E : Value → Shared → Prop), C i j → Q (.int (g i j) s.toks) { s with toks := s.toks + 1 } → wpAny (model X.prog X.w) X.A (f (.int i t) (.int j u)) Q E s) :
    OpR X f (rI C fun i j => .int (g i j)) := by
  intro pins s σ H x y v u Q I rx ry h
  obtain ⟨i, j, rfl, rfl, hc, q⟩ := h
  obtain ⟨t, rfl⟩ := rx
  obtain ⟨t', rfl⟩ := ry
  exact rule i j t t' s _ _ hc ⟨.int (g i j), H, I.tok _, ⟨_, rfl⟩, q⟩
theorem opI0 {f : Value → Value → Sem Value} {g : Int → Int → Int}
    (rule : ∀ (i j : Int) (t u : Tok) (s : Shared) (Q : Value → Shared → Prop) (E : Value → Shared → Prop), Q (.int (g i j) s.toks) { s with toks := s.toks + 1 } → wpAny (model X.prog X.w) X.A (f (.int i t) (.int j u)) Q E s) :
    OpR X f (rI0 fun i j => .int (g i j)) := by
  intro pins s σ H x y v u Q I rx ry h
  obtain ⟨i, j, rfl, rfl, q⟩ := h
  obtain ⟨t, rfl⟩ := rx
  obtain ⟨t', rfl⟩ := ry
  exact rule i j t t' s _ _ ⟨.int (g i j), H, I.tok _, ⟨_, rfl⟩, q⟩
theorem opB0 {f : Value → Value → Sem Value} {g : Int → Int → Bool}
    (rule : ∀ (i j : Int) (t u : Tok) (s : Shared) (Q : Value → Shared → Prop) (E : Value → Shared → Prop), Q (.bool (g i j)) s → wpAny (model X.prog X.w) X.A (f (.int i t) (.int j u)) Q E s) :
    OpR X f (rI0 fun i j => .bl (g i j)) := by
  intro pins s σ H x y v u Q I rx ry h
  obtain ⟨i, j, rfl, rfl, q⟩ := h
  obtain ⟨t, rfl⟩ := rx
  obtain ⟨t', rfl⟩ := ry
  exact rule i j t t' s _ _ ⟨.bl (g i j), H, I, rfl, q⟩

def CPow (i j : Int) : Prop := 0 ≤ j ∧ j ≤ 1000000 ∧ i.natAbs < 2 ^ 64
def CMul (i j : Int) : Prop := (-(2 ^ 64) < i ∧ i < 2 ^ 64) ∨ (-(2 ^ 64) < j ∧ j < 2 ^ 64)
theorem CMul.ok {i j : Int} (h : CMul i j) : IntMulOk i j := by
  rcases h with ⟨h1, h2⟩ | ⟨h1, h2⟩
  · exact .of_left (intBits_le_64 h1 h2)
  · exact .of_right (intBits_le_64 h1 h2)
theorem op_add : OpR X (binaryOp .Add) (rI0 fun i j => .int (i + j)) := opI0 fun _ _ _ _ _ _ _ q => add_int q
theorem op_sub : OpR X (binaryOp .Sub) (rI0 fun i j => .int (i - j)) := opI0 fun _ _ _ _ _ _ _ q => sub_int q
theorem op_mul : OpR X (binaryOp .Mult) (rI CMul fun i j => .int (i * j)) := opI fun _ _ _ _ _ _ _ hc q => mul_int q hc.ok
/-- % by a positive divisor of any size -/
theorem op_mod : OpR X (binaryOp .Mod) (rI (fun _ j => 0 < j) fun i j => .int (i % j)) := opI fun i j _ _ _ _ _ hc q => by
  have h1 : (0 : Int) < j := hc
  exact mod_int' (by omega) (by rw [Int.fmod_eq_emod_of_nonneg i (by omega)]; exact q)
theorem op_pow : OpR X (binaryOp .Pow) (rI CPow fun i j => .int (i ^ j.toNat)) := opI fun _ _ _ _ _ _ _ hc q => pow_int_small hc.1 hc.2.1 hc.2.2 q
theorem unI {f : Value → Sem Value} {g : Int → Int}
    (rule : ∀ (i : Int) (t : Tok) (s : Shared) (Q : Value → Shared → Prop) (E : Value → Shared → Prop), Q (.int (g i) s.toks) { s with toks := s.toks + 1 } → wpAny (model X.prog X.w) X.A (f (.int i t)) Q E s) :
    UnR X f (rU fun i => .int (g i)) := by
  intro pins s σ H x v Q I rx h
  obtain ⟨i, rfl, q⟩ := h
  obtain ⟨t, rfl⟩ := rx
  exact rule i t s _ _ ⟨.int (g i), H, I.tok _, ⟨_, rfl⟩, q⟩
theorem un_neg : UnR X (unaryOp .USub) (rU fun i => .int (-i)) := unI fun _ _ _ _ _ q => neg_int q
/-! ### bools among ints: n += (a < b) -/
end

/-! ### comparisons -/
section
variable {X : Cx} {a b c : Expr} {ta tb tc : TE} {pos : Pos}
theorem op_lt : OpR X (compareOp .Lt) (rI0 fun i j => .bl (decide (i < j))) := opB0 fun _ _ _ _ _ _ _ q => lt_int q
theorem op_gt : OpR X (compareOp .Gt) (rI0 fun i j => .bl (decide (j < i))) := opB0 fun _ _ _ _ _ _ _ q => gt_int q
/-- two rules for one operation: by cases -/
theorem OpR.or {f : Value → Value → Sem Value} {r r' : R2} (h : OpR X f r) (h' : OpR X f r') : OpR X f (fun x y H Q => r x y H Q ∨ r' x y H Q) := by
  intro pins s σ H x y v u Q I rx ry q
  rcases q with q | q
  · exact h pins s σ H x y v u Q I rx ry q
  · exact h' pins s σ H x y v u Q I rx ry q

theorem nomark (b : Expr) {op : CmpOp} (h : op ≠ .In := by decide) (h2 : op ≠ .NotIn := by decide) : behindInMarks op b = false := by
  have e1 : (op == CmpOp.In) = false := by cases op <;> first | rfl | exact absurd rfl h
  have e2 : (op == CmpOp.NotIn) = false := by cases op <;> first | rfl | exact absurd rfl h2
  cases b <;> simp [behindInMarks, e1, e2]
/-- a reading of a value as a test -/
def tTest (t : TE) : TT := fun σ H Q => t σ H fun x H' => ∃ k, x = .bl k ∧ Q k H'
theorem pt_cmpR {op : CmpOp} {r : R2} (ho : OpR X (compareOp op) r) (ha : PE X a ta) (hb : PE X b tb) (hm : behindInMarks op b = false) : PT X (.Compare a [op] [b] pos) (tTest (tOp r ta tb)) := by
  intro pins s σ H Q I h
  refine wpAny_isTrue_Compare1 (thn (ha pins s σ H _ I h) fun v s1 ⟨x, H1, I1, r1, q1⟩ => thn (hb pins s1 σ H1 _ I1 q1) fun u s2 ⟨y, H2, I2, r2, q2⟩ =>
    thn (ho pins s2 σ H2 x y v u _ I2 r1 r2 q2) fun c s3 ⟨z, H3, I3, r3, k, e, q3⟩ => ?_) hm
  subst e
  cases r3
  exact wpAny_truthy_bool ⟨H3, I3, q3⟩
/-! ### truth -/
/-- a value's truth by the abstract heap -/
def TruV (K : PySem.W.Frag) (x : V) (H : Hp) (k : Bool) : Prop :=
  match x with
  | .non => k = false
  | .bl b => k = b
  | .int i => k = (i != 0)
  | .str y => y.length ≤ sizeLine ∧ k = ((y.length : Int) != 0)
  | .byt y => y.size ≤ sizeLine ∧ k = ((y.size : Int) != 0)
  | .ref p => (∃ xs, SqL K H p xs ∧ k = !xs.isEmpty) ∨ (∃ xs, SqT K H p xs ∧ k = !xs.isEmpty) ∨ ∃ kvs, H p = some (.dK kvs) ∧ k = !kvs.isEmpty
  | _ => False
theorem isEmpty_kv {κ : Type} {kvs : List (κ × V)} {vs : List (κ × Value)} (r : KV kvs vs) : (!vs.isEmpty) = !kvs.isEmpty := by
  cases r <;> rfl
theorem isEmpty_of {xs : List V} {its : List Value} (r : Vals xs its) : (!its.toArray.isEmpty) = !xs.isEmpty := by
  cases r <;> simp
theorem line63 : (sizeLine : Nat) < 2 ^ 63 := by rw [sizeLine_eq]; decide
theorem tru_ok : TruR X (fun x H Q => ∃ k, TruV X.K x H k ∧ Q k H) := by
  intro pins s σ H x v Q I rx h
  obtain ⟨k, e, q⟩ := h
  have hl := line63
  have hs : sizeLine = 16777216 := sizeLine_eq
  cases x with
  | non =>
    cases rx
    have e' : k = false := e
    subst e'
    exact truthy_none ⟨H, I, q⟩
  | bl b =>
    cases rx
    have e' : k = b := e
    subst e'
    exact wpAny_truthy_bool ⟨H, I, q⟩
  | int i =>
    obtain ⟨t, rfl⟩ := rx
    have e' : k = (i != 0) := e
    subst e'
    exact PySem.P.truthy_int ⟨H, I, q⟩
  | str y =>
    obtain ⟨t, rfl⟩ := rx
    obtain ⟨hy, e'⟩ : y.length ≤ sizeLine ∧ k = ((y.length : Int) != 0) := e
    subst e'
    exact PySem.P.truthy_str (by omega) ⟨H, I.tok _, q⟩
  | byt y =>
    obtain ⟨t, rfl⟩ := rx
    obtain ⟨hy, e'⟩ : y.size ≤ sizeLine ∧ k = ((y.size : Int) != 0) := e
    subst e'
    exact PySem.W.truthy_bytes (by omega) ⟨H, I.tok _, q⟩
  | ref p =>
    cases rx
    have e' : (∃ xs, SqL X.K H p xs ∧ k = !xs.isEmpty) ∨ (∃ xs, SqT X.K H p xs ∧ k = !xs.isEmpty) ∨ ∃ kvs, H p = some (.dK kvs) ∧ k = !kvs.isEmpty := e
    rcases e' with ⟨xs, hx, e'⟩ | ⟨xs, hx, e'⟩ | ⟨kvs, hx, e'⟩
    · subst e'
      obtain ⟨its, r, pl, hz⟩ := I.list hx
      have hlen := r.length
      exact wpAny_truthy_list pl.isList (by simp only [List.size_toArray]; omega) ⟨H, I.tok _, by rw [isEmpty_of r]; exact q⟩
    · subst e'
      obtain ⟨its, r, pl, hz⟩ := I.tuple hx
      have hlen := r.length
      exact truthy_tuple pl (by simp only [List.size_toArray]; omega) ⟨H, I.tok _, by rw [isEmpty_of r]; exact q⟩
    · subst e'
      obtain ⟨hz, hS, vs, r, m⟩ : kvs.length ≤ sizeLine ∧ (p == sysModules) = false ∧ ∃ vs, KV kvs vs ∧ s.heap.DictOf (mixKind X.prog X.w) p vs := I.hok p _ hx
      have hlen : kvs.length = vs.length := Paired.length r
      exact wpAny_truthy_dict hS m (by omega) ⟨H, I.tok _, by rw [isEmpty_kv r]; exact q⟩
  | _ => exact (show False from e).elim
/-- any expression whose test is its value's truth (a name, a call, a subscript, a field ..: he by fun _ => rfl) -/
theorem pt_truth (ha : PE X a ta) (he : ∀ whole, isTrue a X.env whole = (do let v ← whole; standAt a.pos; holding [v] (truthy v))) :
    PT X a (fun σ H Q => ta σ H fun x H' => ∃ k, TruV X.K x H' k ∧ Q k H') := by
  intro pins s σ H Q I h
  exact isTrue_plain (thn (ha pins s σ H _ I h) fun v s1 ⟨x, H1, I1, r1, q1⟩ => tru_ok pins s1 σ H1 x v Q I1 r1 q1) (he _)

/-! ### strs and bytes -/
/-! ### scalar builtins, by CallR -/
theorem vals1 {x : V} {us : List Value} (r : Vals [x] us) : ∃ u, us = [u] ∧ RelV x u := by
  cases r with
  | cons r1 r2 => cases r2; exact ⟨_, rfl, r1⟩
theorem vals2 {x y : V} {us : List Value} (r : Vals [x, y] us) : ∃ u w', us = [u, w'] ∧ RelV x u ∧ RelV y w' := by
  cases r with
  | cons r1 r2 =>
    cases r2 with
    | cons r3 r4 => cases r4; exact ⟨_, _, rfl, r1, r3⟩
theorem call_max2 (hc : X.calm = true) : CallR X (.builtin "max") (fun xs H Q => ∃ i j, xs = [.int i, .int j] ∧ Q (.int (if j > i then j else i)) H) := by
  intro pins s σ H xs us Q I r h
  obtain ⟨i, j, rfl, q⟩ := h
  obtain ⟨u, w', rfl, ⟨t, rfl⟩, ⟨t', rfl⟩⟩ := vals2 r
  refine max_two_ints (I.ok.hd hc) fun h' tk k => ⟨_, H, I.kept k, ?_, q⟩
  by_cases hj : j > i
  · rw [if_pos hj, if_pos hj]; exact ⟨_, rfl⟩
  · rw [if_neg hj, if_neg hj]; exact ⟨_, rfl⟩
theorem call_min2 (hc : X.calm = true) : CallR X (.builtin "min") (fun xs H Q => ∃ i j, xs = [.int i, .int j] ∧ Q (.int (if j < i then j else i)) H) := by
  intro pins s σ H xs us Q I r h
  obtain ⟨i, j, rfl, q⟩ := h
  obtain ⟨u, w', rfl, ⟨t, rfl⟩, ⟨t', rfl⟩⟩ := vals2 r
  refine min_two_ints (I.ok.hd hc) fun h' tk k => ⟨_, H, I.kept k, ?_, q⟩
  by_cases hj : j < i
  · rw [if_pos hj, if_pos hj]; exact ⟨_, rfl⟩
  · rw [if_neg hj, if_neg hj]; exact ⟨_, rfl⟩
end
end L2

namespace L2
open PySem PySem.Spec PyProof.Rows

/-! ### an instance, its attributes a map -/
structure ObjM (h : Heap) (x dx C : Addr) (mA : Str → Option Value) : Prop where
  obj : h.get? x = some (PySem.W.instObj C dx)
  ns : h.Ns1 dx mA
  ne : dx ≠ x

theorem lookIn_ns {h : Heap} {dx : Addr} {mA : Str → Option Value} (n : h.Ns1 dx mA) : ∃ od, h.get? dx = some od ∧ ∀ name, PySem.W.lookIn name od = some (mA name) := by
  obtain ⟨o, es, ep, ho, hd, hk, _, hm⟩ := n
  refine ⟨o, ho, fun name => ?_⟩
  have e := hm name
  unfold nsFind findBy at e
  rw [← Array.find?_toList] at e
  unfold PySem.W.lookIn
  rw [hd]
  dsimp only
  split
  · rename_i y q
    rw [q] at e
    exact congrArg some e
  · rename_i q
    rw [q] at e
    have a : es.toList.any (·.refKey) = false := by
      rw [List.any_eq_false]
      intro y hy
      obtain ⟨z, t, hkey⟩ := hk y (Array.mem_toList_iff.mp hy)
      simp [DictEntry.refKey, hkey]
    have a' : ¬ es.toList.any (·.refKey) = true := by rw [a]; exact Bool.false_ne_true
    rw [if_neg a']
    exact congrArg some e

theorem ObjM.look {h : Heap} {x dx C : Addr} {mA : Str → Option Value} (I : ObjM h x dx C mA) : ∃ od, PySem.W.InstAt h x (PySem.W.instObj C dx) C (some od) ∧ ∀ name, PySem.W.lookIn name od = some (mA name) :=
  let ⟨od, ho, hl⟩ := lookIn_ns I.ns
  ⟨od, ⟨I.obj, rfl, rfl, ho⟩, hl⟩

section
variable {prog : Program} {w : World} {A : Around} {E : Value → Shared → Prop} {s : Shared} {K : PySem.W.Frag} {x dx C f : Addr} {mA : Str → Option Value} {name : Str} {v : Value}

end

/-! ### the attributes as a list of pairs -/
theorem RelO.some_of {v : V} {o : Option Value} (r : RelO (some v) o) : ∃ u, o = some u ∧ RelV v u := by
  cases o with
  | none => exact (show False from r).elim
  | some u => exact ⟨u, rfl, r⟩
section
variable {P : Program} {w : World} {H H' : Hp} {h h' : Heap} {a C dx : Addr} {fs fs' : List (Str × V)}
end

/-! ### what of the text a class must have -/
structure Cls (K : PySem.W.Frag) (C : Addr) : Prop where
  pg : PySem.W.plainGet K C Str.empty = true
  hd : PySem.W.hasDictIn K C = true
  po : PySem.W.plainOver K C = true
  sa : PySem.W.findIn K (.ref C) "__setattr__" = some (some (.builtin "object.__setattr__"))
theorem Cls.get {K : PySem.W.Frag} {C : Addr} (c : Cls K C) (f : Str) : PySem.W.plainGet K C f = true := c.pg
/-- a constant of the class -/
structure Con (K : PySem.W.Frag) (C : Addr) (f : Str) (v : V) (u : Value) : Prop where
  at_ : PySem.W.findIn K (.ref C) f = some (some u)
  rel : RelV v u
  get : PySem.W.specialIn K u "__get__" = some none
  cp : PySem.W.copiedNames.contains f = false
/-- a method: a plain def of the class or of one above it -/
structure Meth (K : PySem.W.Frag) (C : Addr) (m : Str) (f : Addr) : Prop where
  at_ : PySem.W.findIn K (.ref C) m = some (some (.ref f))
  fn : PySem.W.isFn K (.ref f) = true
  kp : PySem.W.keepIn K (.ref f) = true

section
variable {X : Cx} {pins : List (Addr × Obj)} {σ : St} {H : Hp} {s : Shared} {a C dx : Addr} {fs : List (Str × V)} {f : Str} {v : V} {A : Around} {E : Value → Shared → Prop}

/-- a new instance, tracked, without attributes -/
theorem Inv.made (I : Inv X pins σ H s) : Inv X pins σ (upd (upd H s.heap.objs.size (.own (s.heap.objs.size + 1))) (s.heap.objs.size + 1) (.ins C s.heap.objs.size []))
    { s with heap := (s.heap.push PySem.W.emptyDict).push (PySem.W.instObj C s.heap.objs.size) } := by
  have e1 : (s.heap.push PySem.W.emptyDict).get? s.heap.objs.size = some PySem.W.emptyDict := Heap.get?_push_size s.heap rfl
  have e2 : ((s.heap.push PySem.W.emptyDict).push (PySem.W.instObj C s.heap.objs.size)).get? (s.heap.objs.size + 1) = some (PySem.W.instObj C s.heap.objs.size) := by
    have := Heap.get?_push_size (s.heap.push PySem.W.emptyDict) (o := PySem.W.instObj C s.heap.objs.size) rfl
    rwa [Heap.size_push] at this
  have e3 : (s.heap.push PySem.W.emptyDict).Ns s.heap.objs.size (fun _ => none) := ⟨PySem.W.emptyDict, #[], _, e1, rfl, (fun e he => absurd he (by simp)), fun _ => rfl⟩
  have I1 := I.laid (a := s.heap.objs.size) (o := .own (s.heap.objs.size + 1)) (h' := s.heap.push PySem.W.emptyDict) (t' := s.toks) (fun b u q => Heap.get?_push_of_some _ q) (Nat.le_refl _) ⟨_, e1⟩
  refine I1.laid (a := s.heap.objs.size + 1) (o := .ins C s.heap.objs.size []) (t' := s.toks) (fun b u q => Heap.get?_push_of_some _ q) (Nat.le_of_eq (Heap.size_push _ _)) ?_
  have ne : s.heap.objs.size ≠ s.heap.objs.size + 1 := Nat.ne_of_lt (Nat.lt_succ_self _)
  refine ⟨by rw [upd_ne ne, upd_same], Nat.zero_le _, ne, e2, fun _ => none, (Heap.Ns1.of_empty e3).at fun o q => Heap.get?_push_of_some _ q, fun _ => True.intro, fun y hy => absurd rfl hy⟩

end

/-! ### readings and rules -/
section
variable {X : Cx} {o e value : Expr} {f : Str} {pos pos' tpos : Pos} {ta tv : TE}
end

/-! ### isinstance -/
section
variable {X : Cx} {pins : List (Addr × Obj)} {σ : St} {H : Hp} {s : Shared} {A : Around} {E : Value → Shared → Prop} {Q : Value → Shared → Prop} {c : Value} {b : Bool}
/-- the type of a value, as the fragment's deciders take it; for an instance its class -/
inductive TyOf (K : PySem.W.Frag) (H : Hp) : V → Value → Prop where
  | non : TyOf K H .non (.type "NoneType")
  | bl (x : Bool) : TyOf K H (.bl x) (.type "bool")
  | int (i : Int) : TyOf K H (.int i) (.type "int")
  | str (x : Str) : TyOf K H (.str x) (.type "str")
  | flt (x : UInt64) : TyOf K H (.flt x) (.type "float")
  | lst {a : Addr} {xs : List V} (e : H a = some (.lst xs)) : TyOf K H (.ref a) (.type "list")
  | frz {a : Addr} {o : Obj} {xs : List V} (e : H a = some (.frz o (.lst xs))) : TyOf K H (.ref a) (.type "list")
  | tup {a : Addr} {xs : List V} (e : H a = some (.tup xs)) : TyOf K H (.ref a) (.type "tuple")
  | dK {a : Addr} {kvs : List (Key × V)} (e : H a = some (.dK kvs)) : TyOf K H (.ref a) (.type "dict")
  | dT {a : Addr} {kvs : List (List Key × V)} (e : H a = some (.dT kvs)) : TyOf K H (.ref a) (.type "dict")
  | ins {a C dx : Addr} {fs : List (Str × V)} (e : H a = some (.ins C dx fs)) (cl : Cls K C) (ha : PySem.W.findIn K (.ref C) "__class__" = some (some (.builtin "object.__class__")))
      (hn : PySem.W.specialIn K (.builtin "object.__class__") "__get__" = some (some (.builtin "getset_descriptor.__get__"))) (htk : PySem.W.takesIn K (.builtin "object.__class__") = some true)
      (hm : PySem.W.mroIn K C (.type "object") = some true) : TyOf K H (.ref a) (.ref C)
end
end L2

namespace L2
open PySem PySem.Spec PyProof.Rows

/-! ### room -/
structure Room (k : Nat) (A : Around) : Prop where
  hd : A.handled = none
  dp : A.depth + 3 * k + 5 < recursionLimit
  un : A.units + 16 * k + 200 < cLine
theorem Room.mono {j k : Nat} {A : Around} (r : Room k A) (h : j ≤ k) : Room j A := ⟨r.hd, by have := r.dp; omega, by have := r.un; omega⟩
theorem Room.deeper {k : Nat} {A : Around} (r : Room (k + 1) A) (env : Env) : Room k (A.deeper env) :=
  ⟨r.hd, by have := r.dp; show A.depth + 1 + 3 * k + 5 < _; omega, by have := r.un; show A.units + 3 + 16 * k + 200 < _; omega⟩
theorem Room.in1 {k : Nat} {A : Around} (r : Room (k + 1) A) : Room k A.in1 :=
  ⟨r.hd, by have := r.dp; show A.depth + 3 * k + 5 < _; omega, by have := r.un; show A.units + 1 + 16 * k + 200 < _; omega⟩
theorem make_depth {A : Around} {C : Addr} {us : List Value} {kw : List (Str × Value)} : (A.under (.builtin "type.__call__" ⟨.ref C :: us, kw⟩)).depth = A.depth + 1 := by
  first | rfl | simp [Around.under, Code.weight, Code.isCreation, Code.isGuard, Code.isCaller, Code.frames, Code.isFrame, guardIds]
theorem make_units {A : Around} {C : Addr} {us : List Value} {kw : List (Str × Value)} : (A.under (.builtin "type.__call__" ⟨.ref C :: us, kw⟩)).units = A.units + 1 := by
  first | rfl | simp [Around.under, Code.cUnits, Code.frames, Code.isFrame]
theorem Room.make {k : Nat} {A : Around} (r : Room (k + 1) A) (C : Addr) (us : List Value) (kw : List (Str × Value)) : Room k (A.under (.builtin "type.__call__" ⟨.ref C :: us, kw⟩)) :=
  ⟨r.hd, by have := r.dp; rw [make_depth]; omega, by have := r.un; rw [make_units]; omega⟩
theorem Room.depth {k : Nat} {A : Around} (r : Room k A) : A.depth < recursionLimit := by have := r.dp; omega
theorem Room.units {k : Nat} {A : Around} (r : Room k A) : A.units + 64 < cLine := by have := r.un; omega
/-! ### argument lists and displays -/
def tNil : TA := fun _ H Q => Q [] H
def tCons (ta : TE) (tr : TA) : TA := fun σ H Q => ta σ H fun x H1 => tr σ H1 fun xs H2 => Q (x :: xs) H2
section
variable {X : Cx} {e : Expr} {es : List Expr} {te : TE} {t : TA} {pos : Pos}
theorem pa_nil : PA X [] tNil := fun _ _ _ _ H Q I h => Calls.spliced_nil ⟨[], H, I, .nil, h⟩
theorem pa_cons (ha : PE X e te) (hr : PA X es t) (hs : starEach (e :: es) X.env = (false, eval e X.env) :: starEach es X.env := by rfl) : PA X (e :: es) (tCons te t) := by
  intro pos pins s σ H Q I h
  rw [hs]
  show wpAny _ _ (spliced ((false, eval e X.env) :: backTo pos (starEach es X.env))) _ _ s
  refine Calls.spliced_cons (thn (ha pins s σ H _ I h) fun u s1 ⟨x, H1, I1, r1, q1⟩ => ?_)
  exact thn (hr pos pins s1 σ H1 _ I1 q1) fun us s2 ⟨xs, H2, I2, r2, q2⟩ => ⟨x :: xs, H2, I2, .cons r1 r2, q2⟩

/-- a tuple, a list of written items -/
def tTup (t : TA) : TE := fun σ H Q => t σ H fun xs H1 => xs.length ≤ sizeLine ∧ ∀ p, H1 p = none → Q (.ref p) (upd H1 p (.tup xs))
def tLst (t : TA) : TE := fun σ H Q => t σ H fun xs H1 => xs.length ≤ sizeLine ∧ ∀ p, H1 p = none → Q (.ref p) (upd H1 p (.lst xs))
theorem pe_tup {x1} (h : PA X es t) : PE X (.Tuple es x1 pos) (tTup t) := by
  intro pins s σ H Q I hq
  refine wpAny_Tuple_spliced (thn (h pos pins s σ H _ I hq) fun us s1 ⟨xs, H1, I1, r, z, q⟩ => ⟨by rw [← r.length]; exact z, ?_⟩)
  have hf : H1 s1.heap.objs.size = none := I1.hok.fresh (Nat.le_refl _)
  refine ⟨.ref s1.heap.objs.size, upd H1 s1.heap.objs.size (.tup xs), I1.laid (t' := s1.toks) (fun b u e => Heap.get?_push_of_some _ e) (Nat.le_refl _) ?_, rfl, q _ hf⟩
  exact ⟨z, us, r, ⟨_, Heap.get?_push_size _ rfl, rfl, _, rfl⟩⟩
theorem pe_lst (h : PA X es t) : PE X (.List es pos) (tLst t) := by
  intro pins s σ H Q I hq
  refine wpAny_List_spliced (thn (h pos pins s σ H _ I hq) fun us s1 ⟨xs, H1, I1, r, z, q⟩ => ⟨by rw [← r.length]; exact z, ?_⟩)
  have hf : H1 s1.heap.objs.size = none := I1.hok.fresh (Nat.le_refl _)
  refine ⟨.ref s1.heap.objs.size, upd H1 s1.heap.objs.size (.lst xs), I1.laid (t' := s1.toks) (fun b u e => Heap.get?_push_of_some _ e) (Nat.le_refl _) ?_, rfl, q _ hf⟩
  exact ⟨z, us, 0, r, Heap.get?_push_size _ rfl⟩
end

/-! ### what a def promises -/
/-- a def's promise: the bound arguments in the parameters' order, the heap, the wanted end, the wanted exception -/
abbrev Sp := List V → Hp → VK → XK → Prop
/-- how an exception lies behind a call (file 08 gives it): the callers' frames, abstract heap and state ahead of the call, the wish, the exception, the state -/
abbrev CXT := List Env → Hp → Shared → XK → Value → Shared → Prop

/-- the state at a call -/
structure Env0 (P : Program) (w : World) (K : PySem.W.Frag) (mg : Str → Option Value) (base : Heap) (A : Around) (outer : List Env) (s : Shared) (H : Hp) : Prop where
  frames : A.frames = some outer
  mod : Mod K mg base
  bs : ∀ b o, base.get? b = some o → s.heap.get? b = some o ∧ H b = none
  bsz : base.objs.size ≤ s.heap.objs.size
  funs : s.heap.FunFrames base outer
  frf : ∀ b ∈ frs outer, H b = none
  hok : HOk P w H s.heap
  bare : AllBare s.gens
/-- a call's end -/
def CE (outer : List Env) (P : Program) (w : World) (H : Hp) (s : Shared) (Q : VK) (u : Value) (s' : Shared) : Prop :=
  ∃ v H', s'.os = s.os ∧ AllBare s'.gens ∧ Un (frs outer) [] H H' s.heap s'.heap ∧ HOk P w H' s'.heap ∧ RelV v u ∧ Q v H'
def CR (CX : CXT) (outer : List Env) (P : Program) (w : World) (H : Hp) (s : Shared) (Q : VK) (E : XK) (r : Result) (s' : Shared) : Prop :=
  match r with
  | .ok (.ret u) => CE outer P w H s Q u s'
  | .ok _ => False
  | .error e => CX outer H s E e s'
structure FnOk (P : Program) (w : World) (K : PySem.W.Frag) (mg : Str → Option Value) (base : Heap) (CX : CXT) (k : Nat) (f : Addr) (fd : FuncData) (ps : List Str) (sp : Sp) : Prop where
  len : ∀ vs H Q E, sp vs H Q E → vs.length = ps.length
  run : ∀ (A : Around) (outer : List Env) (s : Shared) (H : Hp) (args : Args) (us : List Value) (vs : List V) (Q : VK) (E : XK), Room k A → Env0 P w K mg base A outer s H → BindsTo s fd args (ps.zip us) → Vals vs us → sp vs H Q E →
    codeAny (model P w) A (.call (.ref f) args) (CR CX outer P w H s Q E) s
theorem FnOk.mono {P : Program} {w : World} {K : PySem.W.Frag} {mg : Str → Option Value} {base : Heap} {CX : CXT} {j k : Nat} {f : Addr} {fd : FuncData} {ps : List Str} {sp : Sp} (F : FnOk P w K mg base CX j f fd ps sp) (h : j ≤ k) :
    FnOk P w K mg base CX k f fd ps sp := ⟨F.len, fun A outer s H args us vs Q E hr => F.run A outer s H args us vs Q E (hr.mono h)⟩
/-- a weaker promise -/
theorem FnOk.imp {P : Program} {w : World} {K : PySem.W.Frag} {mg : Str → Option Value} {base : Heap} {CX : CXT} {k : Nat} {f : Addr} {fd : FuncData} {ps : List Str} {sp sp' : Sp} (F : FnOk P w K mg base CX k f fd ps sp)
    (h : ∀ vs H Q E, sp' vs H Q E → sp vs H Q E) : FnOk P w K mg base CX k f fd ps sp' :=
  ⟨fun vs H Q E q => F.len vs H Q E (h _ _ _ _ q), fun A outer s H args us vs Q E hr he hb hv hs => F.run A outer s H args us vs Q E hr he hb hv (h _ _ _ _ hs)⟩

theorem Env0.make {P : Program} {w : World} {K : PySem.W.Frag} {mg : Str → Option Value} {base : Heap} {A : Around} {outer : List Env} {s : Shared} {H : Hp} (e : Env0 P w K mg base A outer s H) (C : Addr) (us : List Value) (kw : List (Str × Value)) :
    Env0 P w K mg base (A.under (.builtin "type.__call__" ⟨.ref C :: us, kw⟩)) outer s H := ⟨by first | exact e.frames | (simpa [Around.under, Code.envs, Code.isFrame, pushEnvs] using e.frames), e.mod, e.bs, e.bsz, e.funs, e.frf, e.hok, e.bare⟩
theorem Env0.in1 {P : Program} {w : World} {K : PySem.W.Frag} {mg : Str → Option Value} {base : Heap} {A : Around} {outer : List Env} {s : Shared} {H : Hp} (e : Env0 P w K mg base A outer s H) :
    Env0 P w K mg base A.in1 outer s H := ⟨e.frames, e.mod, e.bs, e.bsz, e.funs, e.frf, e.hok, e.bare⟩

section
variable {X : Cx} {pins : List (Addr × Obj)} {σ : St} {H : Hp} {s s' : Shared}
/-- from a body: what a callee wants -/
theorem Inv.env0 (I : Inv X pins σ H s) : Env0 X.prog X.w X.K X.mg X.base X.A X.stack s H :=
  ⟨I.ok.frames, I.ok.mod, I.bs, Nat.le_trans I.ok.bsz I.sz, I.stack, I.stkFree, I.hok, I.bare⟩
/-- behind a call -/
theorem Inv.after {Q : VK} {u : Value} (I : Inv X pins σ H s) (h : CE X.stack X.prog X.w H s Q u s') : EP X pins σ Q u s' := by
  obtain ⟨v, H', os, bare, un, hok, r, q⟩ := h
  obtain ⟨hh, g, d, t, os'⟩ := s'
  obtain rfl : os' = s.os := os
  exact ⟨v, H', I.call (h' := hh) (g' := g) (d' := d) (t' := t) (ch := []) un hok bare (fun b z => absurd z (by simp)), r, q⟩
end

/-! ### calls -/
/-- f(..): the written arguments, then the defaults dvs; E: what is wanted of an exception -/
def tCall (sp : Sp) (dvs : List V) (E : XK) (t : TA) : TE := fun σ H Q => t σ H fun vs H1 => sp (vs ++ dvs) H1 Q E
/-- how the parameters are bound: us the positional arguments, kw the keywords' values by name, ds the defaults that fill up -/
def Binds (K : PySem.W.Frag) (fd : FuncData) (ps : List Str) (ds : List Value) : Prop :=
  ∀ (s : Shared) (us : List Value), K.In s.heap → (us ++ ds).length = ps.length → BindsTo s fd ⟨us, []⟩ (ps.zip (us ++ ds))
/-- every parameter is given -/
theorem Binds.all {K : PySem.W.Frag} {fd : FuncData} {ps : List Str} (h : ∀ us : List Value, us.length = ps.length → bindArgs fd ⟨us, []⟩ = pure (ps.zip us)) : Binds K fd ps [] := fun s us _ hl => by
  rw [List.append_nil] at hl ⊢
  exact .of_eq (h us hl)

/-- an exception of a callee reaches what this body wants of exceptions -/
def Passes (CX : CXT) (X : Cx) (E : XK) : Prop := ∀ (pins : List (Addr × Obj)) (σ : St) (H : Hp) (s : Shared) (e : Value) (s' : Shared), Inv X pins σ H s → CX X.stack H s E e s' → X.xe e s'

section
variable {X : Cx} {CX : CXT} {k : Nat} {f C : Addr} {fd : FuncData} {ps : List Str} {sp : Sp} {dvs : List V} {ds : List Value} {E : XK} {x m : Str} {p pos apos : Pos} {e o : Expr} {es : List Expr} {ta : TE} {t : TA}

/-- the callee runs -/
theorem run_fn {pins : List (Addr × Obj)} {σ : St} {H : Hp} {s : Shared} {Q : VK} {us : List Value} {vs : List V} (F : FnOk X.prog X.w X.K X.mg X.base CX k f fd ps sp) (hr : Room k X.A) (hb : Binds X.K fd ps ds) (hd : Vals dvs ds) (hx : Passes CX X E)
    (I : Inv X pins σ H s) (r : Vals vs us) (h : sp (vs ++ dvs) H Q E) : wpAny (model X.prog X.w) X.A (call (.ref f) us) (EP X pins σ Q) X.xe s := by
  have r2 : Vals (vs ++ dvs) (us ++ ds) := r.append hd
  have hl : (us ++ ds).length = ps.length := by rw [← r2.length]; exact F.len _ _ _ _ h
  refine wpAny_call (codeAny_mono (F.run X.A X.stack s H ⟨us, []⟩ (us ++ ds) (vs ++ dvs) Q E hr I.env0 (hb s us I.kIn hl) r2 h) fun r s' hq => ?_)
  cases r with
  | error e => exact hx pins σ H s e s' I hq
  | ok fl =>
    cases fl with
    | ret u => exact I.after hq
    | next => exact False.elim hq
    | brk => exact False.elim hq
    | cont => exact False.elim hq

theorem pe_call (F : FnOk X.prog X.w X.K X.mg X.base CX k f fd ps sp) (hr : Room k X.A) (hg : Gl X x) (hm : X.mg x = some (.ref f)) (hk : PySem.W.keepIn X.K (.ref f) = true) (hb : Binds X.K fd ps ds) (hd : Vals dvs ds) (hx : Passes CX X E)
    (ha : PA X (e :: es) t) (hdb : (x == ("__debug__" : Str)) = false := by decide) (he : starEach (e :: es) X.env = (false, eval e X.env) :: starEach es X.env := by rfl) (hpl : (backTo pos (starEach es X.env)).any (·.1) = false := by rfl) :
    PE X (.Call (.Name x p) (e :: es) [] pos) (tCall sp dvs E t) := by
  intro pins s σ H Q I h
  refine wpAny_Call_Name_kw (ld_glob I hg hm ?_ hdb)
  refine PySem.W.callWith_K (h₀ := X.base) I.ok.mod.kin hk (thn (ha pos pins s σ H _ I h) fun us s1 ⟨vs, H1, I1, r, q⟩ => ⟨I1.kIn, ?_⟩) he hpl
  exact run_fn F hr hb hd hx I1 r q
/-- what a class must have to be made -/
structure Mk (K : PySem.W.Frag) (C f : Addr) : Prop where
  makes : PySem.W.makesIn K C = true
  init : PySem.W.findIn K (.ref C) "__init__" = some (some (.ref f))
  fn : PySem.W.isFn K (.ref f) = true
  kp : PySem.W.keepIn K (.ref C) = true

end

/-! ### keywords -/
section
variable {X : Cx} {CX : CXT} {k : Nat} {f C : Addr} {fd : FuncData} {ps ks : List Str} {sp : Sp} {E : XK} {x m : Str} {p pos apos kpos : Pos} {e o : Expr} {es : List Expr} {kws : List Keyword} {te ta : TE} {t tk : TA} {nm : Option Str}
/-- how a call with keywords binds: g puts the positional values us and the keywords' values ws (names ks) in the parameters' order, defaults among them -/
structure KBinds (K : PySem.W.Frag) (fd : FuncData) (ps ks : List Str) (g : List Value → List Value → List Value) (gV : List V → List V → List V) : Prop where
  to : ∀ (s : Shared) (us ws : List Value), K.In s.heap → (g us ws).length = ps.length → BindsTo s fd ⟨us, ks.zip ws⟩ (ps.zip (g us ws))
  rel : ∀ {vs : List V} {us : List Value} {zs : List V} {ws : List Value}, Vals vs us → Vals zs ws → Vals (gV vs zs) (g us ws)
variable {g : List Value → List Value → List Value} {gV : List V → List V → List V}
end

/-! ### a def's body keeps its promise -/
/-- names: the parameters first -/
structure FnScope (N P : List Str) (sc : Scope) : Prop where
  kind : sc.kind = .function
  co : sc.isCoroutine = false
  gen : sc.isGenerator = false
  nd : N.Nodup
  pre : N.take P.length = P
  par : ∀ x ∈ P, sc.names.lookup x = some .local ∨ sc.names.lookup x = some .cell
  nofree : ∀ y ∈ sc.names, y.2 ≠ .free

theorem bindL_out {kindOf : Str → Option NameKind} {x : Str} : ∀ {binds : List (Str × Value)} {m : Str → Option Value}, (∀ v, (x, v) ∉ binds) → bindL kindOf binds m x = m x
  | [], _, _ => rfl
  | (n, v) :: r, m, h => by
    unfold bindL
    rw [bindL_out fun w hw => h w (List.mem_cons_of_mem _ hw)]
    split
    · have : x ≠ n := by rintro rfl; exact h v List.mem_cons_self
      simp [this]
    · rfl
theorem bindC_out {kindOf : Str → Option NameKind} {x : Str} : ∀ {binds : List (Str × Value)} {m : Str → Option Value}, (∀ v, (x, v) ∉ binds) → bindC kindOf binds m x = m x
  | [], _, _ => rfl
  | (n, v) :: r, m, h => by
    unfold bindC
    rw [bindC_out fun w hw => h w (List.mem_cons_of_mem _ hw)]
    split
    · rfl
    · have : x ≠ n := by rintro rfl; exact h v List.mem_cons_self
      simp [this]
theorem bindL_get {kindOf : Str → Option NameKind} {x : Str} {v : Value} : ∀ {P : List Str} {vs : List Value} {i : Nat} {m : Str → Option Value}, P.Nodup → P[i]? = some x → vs[i]? = some v → kindOf x = some .local →
    bindL kindOf (P.zip vs) m x = some v
  | [], _, _, _, _, h, _, _ => by simp at h
  | _ :: _, [], _, _, _, _, h, _ => by simp at h
  | p :: P, w :: vs, 0, m, nd, h1, h2, hk => by
    simp at h1 h2; subst h1; subst h2
    show bindL kindOf ((p, w) :: P.zip vs) m p = _
    unfold bindL
    rw [bindL_out fun v hv => (List.nodup_cons.mp nd).1 (List.of_mem_zip hv).1, if_pos hk]
    simp
  | p :: P, w :: vs, i + 1, m, nd, h1, h2, hk => by
    show bindL kindOf ((p, w) :: P.zip vs) m x = _
    unfold bindL
    exact bindL_get (i := i) (List.nodup_cons.mp nd).2 (by simpa using h1) (by simpa using h2) hk
theorem bindC_get {kindOf : Str → Option NameKind} {x : Str} {v : Value} : ∀ {P : List Str} {vs : List Value} {i : Nat} {m : Str → Option Value}, P.Nodup → P[i]? = some x → vs[i]? = some v → kindOf x ≠ some .local →
    bindC kindOf (P.zip vs) m x = some v
  | [], _, _, _, _, h, _, _ => by simp at h
  | _ :: _, [], _, _, _, _, h, _ => by simp at h
  | p :: P, w :: vs, 0, m, nd, h1, h2, hk => by
    simp at h1 h2; subst h1; subst h2
    show bindC kindOf ((p, w) :: P.zip vs) m p = _
    unfold bindC
    rw [bindC_out fun v hv => (List.nodup_cons.mp nd).1 (List.of_mem_zip hv).1, if_neg hk]
    simp
  | p :: P, w :: vs, i + 1, m, nd, h1, h2, hk => by
    show bindC kindOf ((p, w) :: P.zip vs) m x = _
    unfold bindC
    exact bindC_get (i := i) (List.nodup_cons.mp nd).2 (by simpa using h1) (by simpa using h2) hk

/-- the names' values at the entry -/
def start (N : List Str) (vs : List V) : St := vs.map some ++ List.replicate (N.length - vs.length) none

/-- the context of a def's body, at its entry; an exception leaves the frame, then lies as CX says -/
def cxOf (CX : CXT) (P : Program) (w : World) (K : PySem.W.Frag) (mg : Str → Option Value) (base : Heap) (N : List Str) (qual : Str) (scope : Scope) (f : Addr) (cd : Value) (A : Around) (outer : List Env) (s : Shared) (H : Hp) (E : XK) : Cx where
  prog := P
  w := w
  K := K
  mg := mg
  base := base
  A := A.deeper (envOfC qual scope s.heap.objs.size f cd)
  N := N
  s_0 := s
  H_0 := H
  env := envOfC qual scope s.heap.objs.size f cd
  outer := outer
  stack := envOfC qual scope s.heap.objs.size f cd :: outer
  ex := []
  calm := true
  fn := fun _ => true
  pn := []
  xe := fun e s' => wpAny (model P w) (A.deeper (envOfC qual scope s.heap.objs.size f cd)) (leaving (envOfC qual scope s.heap.objs.size f cd) e) (fun _ s'' => CX outer H s E e s'') (fun e' s'' => CX outer H s E e' s'') s'

theorem cell_has {sc : Scope} {n : Nat} {x : Str} (h : sc.names.lookup x = some .cell) : ∃ c, (cellsFrom n sc.names []).lookup x = some c := by
  have q := PySem.W.cellsFrom_some sc.names n [] (.inl h)
  exact Option.isSome_iff_exists.mp q

theorem inv_start {CX : CXT} {P : Program} {w : World} {K : PySem.W.Frag} {mg : Str → Option Value} {base : Heap} {N ps : List Str} {qual : Str} {scope : Scope} {f : Addr} {cd : Value} {A : Around} {outer : List Env} {s s1 : Shared} {H : Hp} {E : XK} {us : List Value} {vs : List V}
    (S : FnScope N ps scope) (hd : A.handled = none) (e0 : Env0 P w K mg base A outer s H) (hl : vs.length = ps.length) (r : Vals vs us)
    (x : InCallC s s.heap.objs.size (bindL (envOfC qual scope s.heap.objs.size f cd).kindOf (ps.zip us) fun _ => none) (cellsFrom (s.heap.objs.size + 1) scope.names []) (bindC (envOfC qual scope s.heap.objs.size f cd).kindOf (ps.zip us) fun _ => none) s1) :
    Inv (cxOf CX P w K mg base N qual scope f cd A outer s H E) [] (start N vs) H s1 := by
  have hpl : ps.length ≤ N.length := by have := congrArg List.length S.pre; rw [List.length_take] at this; omega
  obtain ⟨h1, tk, rfl, hk⟩ := x.done
  have noA : ∀ b : Addr, b ∉ (cxOf CX P w K mg base N qual scope f cd A outer s H E).ex := fun b z => absurd (show b ∈ ([] : List Addr) from z) (by simp)
  refine ⟨⟨e0.mod, S.kind, rfl, rfl, Nat.le_refl _, fun y z c h1 h2 => ?_, fun y hy => ?_, fun y c _ h => ?_, fun _ => hd, Around.frames_deeper e0.frames, .inr ⟨rfl, rfl⟩, fun b z => absurd z (noA b), e0.bs, e0.bsz, fun b _ _ => noA b, fun b z => absurd z (noA b), e0.funs, e0.frf⟩,
    rfl, e0.bare, Un.kept hk, ⟨_, x.toInCall.ns, fun i y v h1 h2 h3 => ?_⟩, fun y c h => ⟨_, x.cell y c h⟩, e0.hok.fresh (Nat.le_refl _), fun y c h => ?_, fun p hp => absurd (show p ∈ ([] : List (Addr × Obj)) from hp) (by simp), e0.hok.kept hk, ?_⟩
  · exact name_of_addr x.apart (PySem.mem_of_lookup h1) (PySem.mem_of_lookup h2)
  · have hy : scope.names.lookup y = some .cell ∨ scope.names.lookup y = some .free := hy
    rcases hy with hy | hy
    · exact cell_has hy
    · exact absurd rfl (S.nofree _ (PySem.mem_of_lookup hy))
  · exact Nat.le_of_lt (x.above y c (PySem.mem_of_lookup h))
  · have hi : i < vs.length := by
      unfold start at h2
      by_cases hi : i < vs.length
      · exact hi
      · rw [List.getElem?_append_right (by simpa using hi)] at h2
        rw [List.getElem?_replicate] at h2
        split at h2 <;> cases h2
    have ha : vs[i]? = some v := by
      unfold start at h2
      rw [List.getElem?_append_left (by simpa using hi), List.getElem?_map] at h2
      cases e : vs[i]? with
      | none => rw [e] at h2; cases h2
      | some a => rw [e] at h2; cases h2; rfl
    obtain ⟨u, hu, rv⟩ := r.get ha
    have hp : ps[i]? = some y := by
      rw [← S.pre, List.getElem?_take_of_lt (by omega)]; exact h1
    have ndP : ps.Nodup := by rw [← S.pre]; exact S.nd.sublist (List.take_sublist _ _)
    refine ⟨u, rv, ?_⟩
    rcases S.par y (List.mem_of_getElem? hp) with k | k
    · exact .inl ⟨k, bindL_get ndP hp hu k⟩
    · obtain ⟨c, e⟩ := cell_has (n := s.heap.objs.size + 1) k
      refine .inr ⟨.inl k, c, e, ?_⟩
      have q := x.cell y c e
      rw [bindC_get ndP hp hu (by show scope.names.lookup y ≠ _; rw [k]; decide)] at q
      exact q
  · exact e0.hok.fresh (Nat.le_of_lt (x.above y c (PySem.mem_of_lookup h)))
  · unfold start
    show _ = N.length
    rw [List.length_append, List.length_map, List.length_replicate]
    omega

/-- THE RULE: a def (or a method) of the text, by its body. The body's reading t is chosen for each entry; it is run at the parameters' values -/
theorem fn_of {CX : CXT} {P : Program} {w : World} {K : PySem.W.Frag} {mg : Str → Option Value} {base : Heap} {k : Nat} {f : Addr} {name qual : Str} {params : Arguments} {body : List Stmt} {scope : Scope} {dV kV doc pm cdv ct oc : Value} {an od : Option Addr}
    {osl : Array (Option Value)} {N ps : List Str} {sp : Sp} (lk : K.lookup f = some ⟨oc, od, .func (PySem.W.fnOf name qual params body scope dV kV doc pm an cdv ct), osl⟩) (hcd : PySem.W.codeIn K cdv qual = true) (S : FnScope N ps scope)
    (len : ∀ vs H Q E, sp vs H Q E → vs.length = ps.length)
    (hbody : ∀ (A : Around) (outer : List Env) (s : Shared) (H : Hp) (vs : List V) (Q : VK) (E : XK), Room k (A.deeper (envOfC qual scope s.heap.objs.size f cdv)) → sp vs H Q E →
      ∃ t, PSs (cxOf CX P w K mg base N qual scope f cdv A outer s H E) body t ∧ t { nx := fun _ H' => Q .non H', rt := Q } (start N vs) H) :
    FnOk P w K mg base CX (k + 1) f (PySem.W.fnOf name qual params body scope dV kV doc pm an cdv ct) ps sp := by
  refine ⟨len, fun A outer s H args us vs Q E hr e0 hb r hsp => ?_⟩
  have hl := len _ _ _ _ hsp
  have KX : K.In s.heap := e0.mod.kin.keeps fun b o e => (e0.bs b o e).1
  have lim : s.heap.NoLimit := e0.mod.nolimit.keeps fun b o e => (e0.bs b o e).1
  have hkind : ∀ y ∈ ps.zip us, scope.names.lookup y.1 = some .local ∨ (scope.names.lookup y.1 = some .cell ∧ ((cellsFrom (s.heap.objs.size + 1) scope.names []).lookup y.1).isSome = true) := fun ⟨n, v⟩ hy => by
    rcases S.par n (List.of_mem_zip hy).1 with q | q
    · exact .inl q
    · exact .inr ⟨q, PySem.W.cellsFrom_some _ _ _ (.inl q)⟩
  refine codeAny_call_function hr.depth (KX _ _ lk) rfl S.co S.gen rfl (PySem.W.codeRec_of KX hcd) (hb _ _ _ _ ?_)
  refine wpAny_newFunctionEnv_cells S.kind hkind fun env he s1 x => ?_
  subst he
  refine ⟨lim.keeps x.toInCall.keep, codeAny_func ?_⟩
  obtain ⟨t, ht, hq⟩ := hbody A outer s H vs Q E (hr.deeper _) hsp
  have I : Inv (cxOf CX P w K mg base N qual scope f cdv A outer s H E) [] (start N vs) H s1 := inv_start S hr.hd e0 hl r x
  refine wpAny_mono (ht [] s1 (start N vs) H _ I hq) (fun fl s' hs => ?_) fun e s' hs => hs
  have fin : ∀ {σ' : St} {H' : Hp} {v : V} {u : Value}, Inv (cxOf CX P w K mg base N qual scope f cdv A outer s H E) [] σ' H' s' → RelV v u → Q v H' → CE outer P w H s Q u s' :=
    fun {σ' H' v u} J rv q => ⟨v, H', J.os, J.bare, J.base, J.hok, rv, q⟩
  cases fl with
  | ret u =>
    obtain ⟨v, σ', H', J, rv, q⟩ := hs
    exact fin J rv q
  | next =>
    obtain ⟨σ', H', J, q⟩ := hs
    exact fin (v := V.non) (u := Value.none) J rfl q
  | brk =>
    obtain ⟨_, _, _, q⟩ := hs
    exact False.elim q
  | cont =>
    obtain ⟨_, _, _, q⟩ := hs
    exact False.elim q
end L2

namespace L2
open PySem PySem.Spec PyProof.Rows
section
variable {X : Cx} {x : Str} {p pos : Pos} {e : Expr} {es : List Expr} {t : TA} {id T : String} {r : List V → Hp → VK → Prop}

def tCB (r : List V → Hp → VK → Prop) (t : TA) : TE := fun σ H Q => t σ H fun vs H1 => r vs H1 Q
/-- f(e, ..), f a built-in function -/
theorem pe_callB (hc : CallR X (.builtin id) r) (hg : Gl X x) (hm : X.mg x = none) (hv : bootBuiltins x = some (.builtin id)) (ha : PA X (e :: es) t) (hn : x ≠ "__name__" := by decide) (hdb : (x == ("__debug__" : Str)) = false := by decide)
    (he : starEach (e :: es) X.env = (false, eval e X.env) :: starEach es X.env := by rfl) (hpl : (backTo pos (starEach es X.env)).any (·.1) = false := by rfl) : PE X (.Call (.Name x p) (e :: es) [] pos) (tCB r t) := by
  intro pins s σ H Q I h
  refine wpAny_Call_Name_kw (ld_blt I hg hm hv ?_ hn hdb)
  exact PyProof.Rows.callWith_builtin1 (thn (ha pos pins s σ H _ I h) fun us s1 ⟨vs, H1, I1, r1, q1⟩ => hc pins s1 σ H1 vs us Q I1 r1 q1) he hpl
/-- T(e, ..), T a built-in type -/
theorem pe_callTy (hc : CallR X (.type T) r) (hg : Gl X x) (hm : X.mg x = none) (hv : bootBuiltins x = some (.type T)) (ha : PA X (e :: es) t) (hn : x ≠ "__name__" := by decide) (hdb : (x == ("__debug__" : Str)) = false := by decide)
    (he : starEach (e :: es) X.env = (false, eval e X.env) :: starEach es X.env := by rfl) (hpl : (backTo pos (starEach es X.env)).any (·.1) = false := by rfl) : PE X (.Call (.Name x p) (e :: es) [] pos) (tCB r t) := by
  intro pins s σ H Q I h
  refine wpAny_Call_Name_kw (ld_blt I hg hm hv ?_ hn hdb)
  exact PyProof.Rows.callWith_type1 (thn (ha pos pins s σ H _ I h) fun us s1 ⟨vs, H1, I1, r1, q1⟩ => hc pins s1 σ H1 vs us Q I1 r1 q1) he hpl
end
end L2

namespace HT
open PySem PyProof.Rows

section
open PySem.SeqAt
open PySem.AutoSeq1 (wpAny_loadPart')
open PySem.MeetsSeq PySem.MeetsSeq2 PySem.MeetsSeq3

end

section
variable {prog : Program} {w : World} {A : Around} {E : Value → Shared → Prop} {s : Shared}

/-- t + u, t not empty -/
theorem cat_tup {t b : Addr} {vs ws : List Value} {Q : Value → Shared → Prop} (ht : IsTup s.heap t vs.toArray) (hb : IsTup s.heap b ws.toArray) (hv : vs ≠ [])
    (h1 : ws = [] → Q (.ref t) s) (h2 : ws ≠ [] → Q (.ref s.heap.objs.size) { s with heap := s.heap.push { cls := .type "tuple", data := .seq (vs ++ ws).toArray } })
    (hsz : vs.length + ws.length ≤ sizeLine) : wpAny (model prog w) A (binaryOp .Add (.ref t) (.ref b)) Q E s := by
  obtain ⟨⟨cls, dd, data, sl⟩, ho, hc, n, hd⟩ := id ht
  obtain ⟨⟨cls2, dd2, data2, sl2⟩, ho2, hc2, n2, hd2⟩ := id hb
  simp only at hc hd hc2 hd2
  subst hc hd hc2 hd2
  have e : vs.toArray ++ ws.toArray = (vs ++ ws).toArray := by simp
  by_cases hw : ws = []
  · exact concat_meets ⟨_, ho, rfl⟩ ⟨_, ho2, rfl⟩ noFill_tuple_add seq_tuple_add PySem.F.slot_tuple_add PySem.F.entry_tuple_add (PySem.F.args_tuple_add_2 _ _)
      (tuple_addW1 t b vs.toArray ws.toArray n n2 dd dd2 sl sl2 (by simpa using hv) (by simp [hw])) ⟨ho, ho2, h1 hw⟩
  · refine concat_meets ⟨_, ho, rfl⟩ ⟨_, ho2, rfl⟩ noFill_tuple_add seq_tuple_add PySem.F.slot_tuple_add PySem.F.entry_tuple_add (PySem.F.args_tuple_add_2 _ _)
      (tuple_addW2 t b vs.toArray ws.toArray n n2 dd dd2 sl sl2 (by simpa using hv) (by simpa using hw) (by rw [List.size_toArray, List.size_toArray]; exact hsz)) ⟨ho, ho2, ?_⟩
    rw [e]
    exact h2 hw

/-! ### t[a:b], not the whole -/
/-- a slice's bound as a place among n (d where it is left out) -/
def sIx (n d : Nat) : Option Int → Nat
  | none => d
  | some v => if v < 0 then (v + (n : Int)).toNat else min v.toNat n
theorem sIx_nat (n d k : Nat) : sIx n d (some (k : Int)) = min k n := by
  show (if (k : Int) < 0 then ((k : Int) + (n : Int)).toNat else min (k : Int).toNat n) = min k n
  rw [if_neg (by omega), Int.toNat_natCast]
theorem sIx_le (n d : Nat) (hd : d ≤ n) (o : Option Int) : sIx n d o ≤ n := by
  cases o with
  | none => exact hd
  | some v =>
    show (if v < 0 then (v + (n : Int)).toNat else min v.toNat n) ≤ n
    by_cases hv : v < 0
    · rw [if_pos hv]; omega
    · rw [if_neg hv]; exact Nat.min_le_right _ _
theorem clip_eq (v : Int) (n d : Nat) : (if v < 0 then max (v + (n : Int)) 0 else min v (n : Int)) = ((sIx n d (some v) : Nat) : Int) := by
  show (if v < 0 then max (v + (n : Int)) 0 else min v (n : Int)) = (((if v < 0 then (v + (n : Int)).toNat else min v.toNat n) : Nat) : Int)
  by_cases hv : v < 0
  · simp only [if_pos hv]; omega
  · simp only [if_neg hv]; omega
theorem adjust_gen (lo hi : Option Int) (n : Nat) : Builtin.Slice.sliceAdjust lo hi 1 (n : Int) = (((sIx n 0 lo : Nat) : Int), ((sIx n n hi : Nat) : Int)) := by
  have h1 : ¬ ((1 : Int) < 0) := by omega
  unfold Builtin.Slice.sliceAdjust
  simp only [h1, if_false]
  refine Prod.ext ?_ ?_
  · cases lo with
    | none => rfl
    | some v => exact clip_eq v n 0
  · cases hi with
    | none => rfl
    | some v => exact clip_eq v n n
theorem places_gen (i j : Nat) : Builtin.Slice.slicePlaces (i : Int) (j : Int) 1 = j - i := by
  unfold Builtin.Slice.slicePlaces
  have h1 : (1 : Int) > 0 := by omega
  simp only [h1, if_true, Int.ediv_one]
  split <;> omega
theorem slicePart_ {v : Value} {o : Option Int} {Q : Option Int → Shared → Prop} (p : IsPart v o) (h : Q o s) : wpAny (model prog w) A (Builtin.Slice.slicePartIndex v) Q E s := by
  cases p with
  | none => exact slicePart_none h
  | int i t => exact slicePart_int h
theorem sliceApplied_gen {sl : Addr} {vl vu : Value} {lo hi : Option Int} {n : Nat} {Q : Int × Int × Nat → Shared → Prop} (hs : s.heap.IsSliceOf sl vl vu .none) (pl : IsPart vl lo) (pu : IsPart vu hi)
    (h : Q (((sIx n 0 lo : Nat) : Int), 1, sIx n n hi - sIx n 0 lo) s) : wpAny (model prog w) A (Builtin.Slice.sliceApplied (.ref sl) (pure (n : Int))) Q E s := by
  obtain ⟨os, hos, hcs, hds⟩ := id hs
  unfold Builtin.Slice.sliceApplied Builtin.Slice.sliceFields
  refine wpAny_bind (wpAny_bind (wpAny_field hos hds (x := vl) rfl (wpAny_bind (wpAny_field hos hds (x := vu) rfl (wpAny_bind (wpAny_field hos hds (x := .none) rfl (wpAny_pure ?_)))))))
  refine wpAny_bind (slicePart_none ?_)
  show wpAny _ _ (if ((1 : Int) == 0) = true then _ else _) _ _ s
  rw [if_neg (by decide)]
  refine wpAny_bind (slicePart_ pl (wpAny_bind (slicePart_ pu (wpAny_bind (wpAny_pure ?_)))))
  show wpAny _ _ (match Builtin.Slice.sliceAdjust lo hi 1 (n : Int) with | (lo, hi) => pure (lo, (1 : Int), Builtin.Slice.slicePlaces lo hi 1)) _ _ s
  rw [adjust_gen lo hi n]
  show wpAny _ _ (pure (((sIx n 0 lo : Nat) : Int), (1 : Int), Builtin.Slice.slicePlaces ((sIx n 0 lo : Nat) : Int) ((sIx n n hi : Nat) : Int) 1)) _ _ s
  rw [places_gen]
  exact wpAny_pure h
theorem pick_gen (xs : Array Value) (i k : Nat) : ((List.range k).filterMap fun (m : Nat) => xs[((i : Int) + (m : Int) * 1).toNat]?).toArray = ((xs.toList.drop i).take k).toArray := by
  have e : (fun (m : Nat) => xs[((i : Int) + (m : Int) * 1).toNat]?) = fun m => xs[i + m]? := by
    funext m
    have : ((i : Int) + (m : Int) * 1).toNat = i + m := by omega
    rw [this]
  rw [e]
  have := pick_run xs i k
  rw [List.filterMap_map] at this
  have e2 : ((fun x => xs[x]?) ∘ fun x => i + x) = fun m => xs[i + m]? := rfl
  rw [e2] at this
  rw [this]

theorem getItem_tuple_cut {t sl : Addr} {items : Array Value} {vl vu : Value} {lo hi : Option Int} {Q : Value → Shared → Prop} (ht : IsTup s.heap t items) (hs : s.heap.IsSliceOf sl vl vu .none) (pl : IsPart vl lo) (pu : IsPart vu hi)
    (hw : ¬ (sIx items.size 0 lo = 0 ∧ sIx items.size items.size hi = items.size))
    (h : Q (.ref s.heap.objs.size) { s with heap := s.heap.push { cls := .type "tuple", data := .seq ((items.toList.drop (sIx items.size 0 lo)).take (sIx items.size items.size hi - sIx items.size 0 lo)).toArray } })
    (hsz : items.size ≤ sizeLine) : wpAny (model prog w) A (getItem (.ref t) (.ref sl)) Q E s := by
  have htake : sizeOk (.seq ((items.toList.drop (sIx items.size 0 lo)).take (sIx items.size items.size hi - sIx items.size 0 lo)).toArray) := by
    show ((items.toList.drop (sIx items.size 0 lo)).take (sIx items.size items.size hi - sIx items.size 0 lo)).toArray.size ≤ sizeLine
    rw [List.size_toArray, List.length_take, List.length_drop, Array.length_toList]
    omega
  have hj : sIx items.size items.size hi ≤ items.size := sIx_le _ _ (Nat.le_refl _) hi
  obtain ⟨os, hos, hcs, hds⟩ := id hs
  have hTs : s.TypeIs (.ref sl) "slice" := ⟨os, hos, hcs⟩
  unfold getItem
  try with_reducible refine wpAny_holding ?_
  first | refine wpAny_bind (wpAny_pure ?_) | skip
  refine wpAny_bind (wpAny_sequenceKey ht.typeIs (by decide) ?_)
  refine wpAny_bind (wpAny_callSpecial?_slot (name := Str.ofString "__getitem__") ht.typeIs PyProof.Rows.slot_tuple_getitem
    (wpAny_call_entry PyProof.Rows.slot_tuple_getitem ht.typeIs entry_tuple_getitem ?_ (args_tuple_getitem _ _)))
  show wpAny _ _ (Builtin.Tuple.tupleItemsOf (.ref t) >>= _) _ _ s
  refine wpAny_bind (tupleItemsOf_ ht ?_)
  refine wpAny_bind (wpAny_typeOf hTs ?_)
  rw [if_pos (by decide)]
  refine wpAny_bind (sliceApplied_gen hs pl pu ?_)
  have hno : ¬ ((((sIx items.size 0 lo : Nat) : Int) == 0 && (1 : Int) == 1 && (sIx items.size items.size hi - sIx items.size 0 lo) == items.size) = true) := by
    intro q
    rw [Bool.and_eq_true, Bool.and_eq_true] at q
    have q1 : ((sIx items.size 0 lo : Nat) : Int) = 0 := eq_of_beq q.1.1
    have q2 : sIx items.size items.size hi - sIx items.size 0 lo = items.size := eq_of_beq q.2
    exact hw ⟨by omega, by omega⟩
  show wpAny _ _ (if (((sIx items.size 0 lo : Nat) : Int) == 0 && (1 : Int) == 1 && (sIx items.size items.size hi - sIx items.size 0 lo) == items.size) = true then _ else _) _ _ s
  rw [if_neg hno, pick_gen]
  first
    | exact wpAny_bind (m := Builtin.Tuple.tupleExact _) (wpAny_newObj_type (wpAny_pure ⟨_, rfl, wpAny_pure h⟩) htake)
    | exact wpAny_bind (m := Builtin.Tuple.tupleExact _) (wpAny_newObj_type (wpAny_bind (wpAny_pure (wpAny_pure ⟨_, rfl, wpAny_pure h⟩))) htake)
    | exact wpAny_bind (wpAny_bind (m := Builtin.Tuple.tupleExact _) (wpAny_newObj_type (wpAny_pure (wpAny_pure ⟨_, rfl, wpAny_pure h⟩)) htake))
    | exact wpAny_bind (wpAny_bind (m := Builtin.Tuple.tupleExact _) (wpAny_newObj_type (wpAny_pure ⟨_, rfl, wpAny_pure h⟩) htake))
end
end HT

namespace L2
open PySem PySem.Spec PyProof.Rows

/-! ### the parts of a slice -/
abbrev TO := St → Hp → (Option Int → Hp → Prop) → Prop
/-- a slice's part (left out, or an int) -/
def PO (X : Cx) (e : Option Expr) (t : TO) : Prop :=
  ∀ (pins : List (Addr × Obj)) (s : Shared) (σ : St) (H : Hp) (Q : Option Int → Hp → Prop), Inv X pins σ H s → t σ H Q →
    wpAny (model X.prog X.w) X.A (evalPart e X.env) (fun u s' => ∃ o H', Inv X pins σ H' s' ∧ IsPart u o ∧ Q o H') X.xe s
def tNoPart : TO := fun _ H Q => Q none H
def tPart (t : TE) : TO := fun σ H Q => t σ H fun x H1 => ∃ i, x = .int i ∧ Q (some i) H1

section
variable {X : Cx} {e : Expr} {te : TE} {lo hi : Option Expr} {tl th : TO} {pos p2 : Pos}

theorem po_none : PO X none tNoPart := by
  intro pins s σ H Q I h
  rw [evalPart_none]
  exact wpAny_pure ⟨none, H, I, .none, h⟩
theorem po_some (h : PE X e te) : PO X (some e) (tPart te) := by
  intro pins s σ H Q I hw
  rw [evalPart_some]
  refine thn (h pins s σ H _ I hw) fun u s1 ⟨x, H1, I1, r1, q1⟩ => ?_
  obtain ⟨i, rfl, q⟩ := q1
  obtain ⟨t, rfl⟩ := r1
  exact ⟨some i, H1, I1, .int i t, q⟩

/-- what a slice of a value is, by values: the slice object stands at sl -/
def SlR (X : Cx) (r : V → Option Int → Option Int → Hp → VK → Prop) : Prop :=
  ∀ (pins : List (Addr × Obj)) (s : Shared) (σ : St) (H : Hp) (x : V) (v vl vu : Value) (lo hi : Option Int) (sl : Addr) (Q : VK), Inv X pins σ H s → RelV x v → s.heap.IsSliceOf sl vl vu .none → IsPart vl lo → IsPart vu hi → r x lo hi H Q →
    ∃ T id, typeLookup (.type T) "__getitem__" = pure (some (.builtin id)) ∧ s.TypeIs v T ∧ wpAny (model X.prog X.w) X.A (getItem v (.ref sl)) (EP X pins σ Q) X.xe s
theorem SlR.or {r r' : V → Option Int → Option Int → Hp → VK → Prop} (h : SlR X r) (h' : SlR X r') : SlR X (fun x lo hi H Q => r x lo hi H Q ∨ r' x lo hi H Q) := by
  intro pins s σ H x v vl vu lo hi sl Q I rx hs pl pu q
  rcases q with q | q
  · exact h pins s σ H x v vl vu lo hi sl Q I rx hs pl pu q
  · exact h' pins s σ H x v vl vu lo hi sl Q I rx hs pl pu q
def tSl (r : V → Option Int → Option Int → Hp → VK → Prop) (te : TE) (tl th : TO) : TE := fun σ H Q => te σ H fun x H1 => tl σ H1 fun l H2 => th σ H2 fun u H3 => r x l u H3 Q
/-- a[lo:hi], any a -/
theorem pe_slice {r : V → Option Int → Option Int → Hp → VK → Prop} (hr : SlR X r) (he : PE X e te) (hl : PO X lo tl) (hu : PO X hi th) : PE X (.Subscript e (.Slice lo hi none p2) pos) (tSl r te tl th) := by
  intro pins s σ H Q I h
  refine Subscript_ (thn (he pins s σ H _ I h) fun v s1 ⟨x, H1, I1, r1, q1⟩ => ?_)
  refine wpAny_Slice (thn (hl pins s1 σ H1 _ I1 q1) fun vl s2 ⟨l, H2, I2, pl, q2⟩ => thn (hu pins s2 σ H2 _ I2 q2) fun vu s3 ⟨u, H3, I3, pu, q3⟩ => ?_)
  rw [evalPart_none]
  refine wpAny_pure ?_
  have I4 : Inv X pins σ H3 { s3 with heap := s3.heap.push { cls := .type "slice", data := .fields #[vl, vu, .none] } } := I3.kept (t' := s3.toks) fun b ob q => Heap.get?_push_of_some _ q
  obtain ⟨T, id, hT, ht, hg⟩ := hr pins { s3 with heap := s3.heap.push { cls := .type "slice", data := .fields #[vl, vu, .none] } } σ H3 x v vl vu l u s3.heap.objs.size Q I4 r1 (Heap.IsSliceOf.new ..) pl pu q3
  show wpAny (model X.prog X.w) X.A (subscriptTail e (.Slice lo hi none p2) v (.ref s3.heap.objs.size)) (EP X pins σ Q) X.xe { s3 with heap := s3.heap.push { cls := .type "slice", data := .fields #[vl, vu, .none] } }
  exact tail_any (ops := [.ref s3.heap.objs.size, v]) ht hT hg (by with_unfolding_all rfl)

/-- the items of xs[lo:hi] -/
def cutV (xs : List V) (lo hi : Option Int) : List V := (xs.drop (HT.sIx xs.length 0 lo)).take (HT.sIx xs.length xs.length hi - HT.sIx xs.length 0 lo)
theorem cutV_length (xs : List V) (lo hi : Option Int) : (cutV xs lo hi).length ≤ xs.length := by
  unfold cutV
  rw [List.length_take, List.length_drop]
  omega
/-- t[lo:hi], not the whole of it (the whole would be t itself) -/
def rSlT (K : PySem.W.Frag) : V → Option Int → Option Int → Hp → VK → Prop := fun x lo hi H Q => ∃ a xs, x = .ref a ∧ SqT K H a xs ∧
  ¬ (HT.sIx xs.length 0 lo = 0 ∧ HT.sIx xs.length xs.length hi = xs.length) ∧ ∀ p, H p = none → Q (.ref p) (upd H p (.tup (cutV xs lo hi)))
theorem sl_tup : SlR X (rSlT X.K) := by
  intro pins s σ H x v vl vu lo hi sl Q I rx hs pl pu h
  obtain ⟨a, xs, rfl, hx, hw, q⟩ := h
  cases rx
  obtain ⟨its, r, ht, hz⟩ := I.tuple hx
  have hlen : its.toArray.size = xs.length := by rw [List.size_toArray]; exact r.length.symm
  refine ⟨"tuple", _, PyProof.Rows.slot_tuple_getitem.lookup, ht.typeIs, ?_⟩
  refine HT.getItem_tuple_cut ht hs pl pu (by rw [hlen]; exact hw) ?_ (by rw [hlen]; exact hz)
  rw [hlen]
  refine ⟨.ref s.heap.objs.size, _, I.laid (t' := s.toks) (o := .tup (cutV xs lo hi)) (fun b ob q => Heap.get?_push_of_some _ q) (Nat.le_refl _) ?_, rfl, q _ (I.hok.fresh (Nat.le_refl _))⟩
  exact ⟨Nat.le_trans (cutV_length xs lo hi) hz, _, (r.drop (HT.sIx xs.length 0 lo)).take (HT.sIx xs.length xs.length hi - HT.sIx xs.length 0 lo), IsTupN.new _ _⟩

/-! ### t < u, t + u -/
/-- t + u, t not empty: u empty gives t itself -/
def rCatT (K : PySem.W.Frag) : R2 := fun x y H Q => ∃ a b xs ys, x = .ref a ∧ y = .ref b ∧ SqT K H a xs ∧ SqT K H b ys ∧ xs ≠ [] ∧ xs.length + ys.length ≤ sizeLine ∧
  (ys = [] → Q (.ref a) H) ∧ (ys ≠ [] → ∀ p, H p = none → Q (.ref p) (upd H p (.tup (xs ++ ys))))
theorem Vals.nil_iff {xs : List V} {us : List Value} (r : Vals xs us) : us = [] ↔ xs = [] := by
  cases r with
  | nil => simp
  | cons _ _ => simp
theorem op_catT : OpR X (binaryOp .Add) (rCatT X.K) := by
  intro pins s σ H x y v u Q I rx ry h
  obtain ⟨a, b, xs, ys, rfl, rfl, ha, hb, hx, hz, q1, q2⟩ := h
  cases rx
  cases ry
  obtain ⟨its, r1, p1, _⟩ := I.tuple ha
  obtain ⟨its2, r2, p2, _⟩ := I.tuple hb
  refine HT.cat_tup p1 p2 (fun z => hx (r1.nil_iff.mp z)) (fun z => ⟨.ref a, H, I, rfl, q1 (r2.nil_iff.mp z)⟩) (fun z => ?_) (by rw [← r1.length, ← r2.length]; exact hz)
  refine ⟨.ref s.heap.objs.size, _, I.laid (t' := s.toks) (o := .tup (xs ++ ys)) (fun b ob q => Heap.get?_push_of_some _ q) (Nat.le_refl _) ?_, rfl, q2 (fun w => z (r2.nil_iff.mpr w)) _ (I.hok.fresh (Nat.le_refl _))⟩
  exact ⟨by rw [List.length_append]; exact hz, _, r1.append r2, IsTupN.new _ _⟩
end
end L2

namespace L2
open PySem PySem.Spec PyProof.Rows

/-! ### places -/
/-- the place that an index of any sign means -/
def ixN (n : Nat) (i : Int) : Option Nat := if 0 ≤ i then (if i < n then some i.toNat else none) else if -(n : Int) ≤ i then some (i + n).toNat else none
def atI {α : Type} (xs : List α) (i : Int) : Option α := (ixN xs.length i).bind fun j => xs[j]?
theorem ixN_seq {n : Nat} {i : Int} {j : Nat} (h : ixN n i = some j) : seqIndex? i n = some j ∧ j < n ∧ -(n : Int) ≤ i ∧ i < n := by
  unfold ixN at h
  by_cases h0 : 0 ≤ i
  · rw [if_pos h0] at h
    by_cases h1 : i < n
    · rw [if_pos h1] at h
      have e : i.toNat = j := Option.some.inj h
      exact ⟨by rw [seqIndex_of h0 h1, e], by omega, by omega, h1⟩
    · rw [if_neg h1] at h; cases h
  · rw [if_neg h0] at h
    by_cases h1 : -(n : Int) ≤ i
    · rw [if_pos h1] at h
      have e : (i + n).toNat = j := Option.some.inj h
      exact ⟨by rw [seqIndex_neg (by omega) h1, e], by omega, h1, by omega⟩
    · rw [if_neg h1] at h; cases h
theorem atI_get {α : Type} {xs : List α} {i : Int} {v : α} (h : atI xs i = some v) : ∃ j, seqIndex? i xs.length = some j ∧ xs[j]? = some v ∧ j < xs.length ∧ -(xs.length : Int) ≤ i ∧ i < xs.length := by
  unfold atI at h
  cases e : ixN xs.length i with
  | none => rw [e] at h; cases h
  | some j =>
    rw [e] at h
    obtain ⟨h1, h2, h3, h4⟩ := ixN_seq e
    exact ⟨j, h1, h, h2, h3, h4⟩
theorem atI_nat {α : Type} {xs : List α} {j : Nat} {v : α} (h : xs[j]? = some v) : atI xs (j : Int) = some v := by
  have hj : j < xs.length := (List.getElem?_eq_some_iff.mp h).1
  have e : ixN xs.length (j : Int) = some j := by
    unfold ixN
    rw [if_pos (by omega), if_pos (by omega)]; simp
  unfold atI; rw [e]; exact h
/-! ### what may be subscripted -/
/-- what stands as an index of a plain subscript -/
def PlainIx (b : Expr) : Prop := ∀ o i, subscripted b false o i = operate [o, i] (getItem o i)
/-- a subscript by values -/
def IxR (X : Cx) (r : R2) : Prop :=
  ∀ (value slice : Expr) (pins : List (Addr × Obj)) (s : Shared) (σ : St) (H : Hp) (x y : V) (v u : Value) (Q : VK), Inv X pins σ H s → RelV x v → RelV y u → r x y H Q →
    subscripted slice false v u = operate [v, u] (getItem v u) → wpAny (model X.prog X.w) X.A (subscriptTail value slice v u) (EP X pins σ Q) X.xe s
/-- a call of a builtin's method by values: the receiver, the arguments -/
def MtR (X : Cx) (id : String) (r : V → List V → Hp → VK → Prop) : Prop :=
  ∀ (pins : List (Addr × Obj)) (s : Shared) (σ : St) (H : Hp) (x : V) (xs : List V) (v : Value) (us : List Value) (Q : VK), Inv X pins σ H s → RelV x v → Vals xs us → r x xs H Q →
    wpAny (model X.prog X.w) X.A (call (.builtin id) (v :: us)) (EP X pins σ Q) X.xe s
section
variable {X : Cx} {a b : Expr} {ta tb : TE} {pos : Pos}
theorem IxR.or {r r' : R2} (h : IxR X r) (h' : IxR X r') : IxR X (fun x y H Q => r x y H Q ∨ r' x y H Q) := by
  intro value slice pins s σ H x y v u Q I rx ry q hs
  rcases q with q | q
  · exact h value slice pins s σ H x y v u Q I rx ry q hs
  · exact h' value slice pins s σ H x y v u Q I rx ry q hs
theorem MtR.or {id : String} {r r' : V → List V → Hp → VK → Prop} (h : MtR X id r) (h' : MtR X id r') : MtR X id (fun x xs H Q => r x xs H Q ∨ r' x xs H Q) := by
  intro pins s σ H x xs v us Q I rx rs q
  rcases q with q | q
  · exact h pins s σ H x xs v us Q I rx rs q
  · exact h' pins s σ H x xs v us Q I rx rs q
/-- a[b] -/
theorem pe_ix {r : R2} (hr : IxR X r) (ha : PE X a ta) (hb : PE X b tb) (hs : PlainIx b) : PE X (.Subscript a b pos) (tOp r ta tb) := by
  intro pins s σ H Q I h
  exact Subscript_ (binT ha hb I h fun v u s2 x y H2 I2 rx ry q => hr a b pins s2 σ H2 x y v u Q I2 rx ry q (hs _ _))

def rIxL (K : PySem.W.Frag) : R2 := fun x y H Q => ∃ p xs i v, x = .ref p ∧ y = .int i ∧ SqL K H p xs ∧ atI xs i = some v ∧ Q v H
def rIxT (K : PySem.W.Frag) : R2 := fun x y H Q => ∃ p xs i v, x = .ref p ∧ y = .int i ∧ SqT K H p xs ∧ atI xs i = some v ∧ Q v H
def rIxS : R2 := fun x y H Q => ∃ z i c, x = .str z ∧ y = .int i ∧ z.length ≤ sizeLine ∧ atI z.cps.toList i = some c ∧ Q (.str ⟨#[c]⟩) H
theorem ix_list : IxR X (rIxL X.K) := by
  intro value slice pins s σ H x y v u Q I rx ry h hs
  obtain ⟨p, xs, i, z, rfl, rfl, hq, he, q⟩ := h
  cases rx
  obtain ⟨t, rfl⟩ := ry
  obtain ⟨its, r, pl, hz⟩ := I.list hq
  obtain ⟨j, h1, h2, h3, h4, h5⟩ := atI_get he
  obtain ⟨w, ew, rw'⟩ := r.get h2
  have hl := r.length
  have hn := line63
  have fin : EP X pins σ Q w s := ⟨z, H, I, rw', q⟩
  by_cases h0 : 0 ≤ i
  · have hj : i.toNat = j := by
      rw [seqIndex_of h0 h5] at h1
      exact Option.some.inj h1
    exact item_listR pl.isList h0 (by omega) (by rw [hj]; simpa using ew) fin hs
  · have hj : (i + (its.toArray.size : Int)).toNat = j := by
      rw [seqIndex_neg (by omega) h4] at h1
      rw [List.size_toArray, ← hl]
      exact Option.some.inj h1
    exact subscriptTail_builtinR (x := w) pl.isList.typeIs slot_list_getitem.lookup
      (wpAny_getItem_list_neg (Q := fun r s' => r = w ∧ EP X pins σ Q r s') pl.isList (by omega) (by rw [List.size_toArray] <;> omega) (by omega) (by rw [hj]; simpa using ew) ⟨rfl, fin⟩) hs
theorem ix_tup : IxR X (rIxT X.K) := by
  intro value slice pins s σ H x y v u Q I rx ry h hs
  obtain ⟨p, xs, i, z, rfl, rfl, hq, he, q⟩ := h
  cases rx
  obtain ⟨t, rfl⟩ := ry
  obtain ⟨its, r, pl, hz⟩ := I.tuple hq
  obtain ⟨j, h1, h2, h3, h4, h5⟩ := atI_get he
  obtain ⟨w, ew, rw'⟩ := r.get h2
  have hl := r.length
  have hn := line63
  have fin : EP X pins σ Q w s := ⟨z, H, I, rw', q⟩
  exact subscriptTail_builtinR (x := w) pl.typeIs slot_tuple_getitem.lookup
    (getItem_tuple (j := j) (Q := fun r s' => r = w ∧ EP X pins σ Q r s') pl (by omega) (by omega) (by rw [List.size_toArray, ← hl]; exact h1) (by simpa using ew) ⟨rfl, fin⟩) hs
theorem ix_str : IxR X rIxS := by
  intro value slice pins s σ H x y v u Q I rx ry h hs
  obtain ⟨z, i, c, rfl, rfl, hz, he, q⟩ := h
  obtain ⟨t, rfl⟩ := rx
  obtain ⟨t', rfl⟩ := ry
  obtain ⟨j, h1, h2, h3, h4, h5⟩ := atI_get he
  have hl : z.cps.toList.length = z.length := by simp [Str.length]
  rw [hl] at h1 h4 h5
  have hn := line63
  exact tail_any (typeIs_str s z t) slot_str_getitem.lookup (getItem_str (c := c) (by
    have e1 : decide (i < -(2 ^ 63 : Int)) = false := decide_eq_false (by omega)
    have e2 : decide (i ≥ 2 ^ 63) = false := decide_eq_false (by omega)
    rw [e1, e2, Bool.or_false]) (by rw [h1]; simpa using h2) ⟨.str ⟨#[c]⟩, H, I.tok _, ⟨_, rfl⟩, q⟩) hs
/-- list, tuple or str -/
def rIx (K : PySem.W.Frag) : R2 := fun x y H Q => rIxL K x y H Q ∨ rIxT K x y H Q ∨ rIxS x y H Q
theorem ix_seq : IxR X (rIx X.K) := ix_list.or (ix_tup.or ix_str)

/-! ### xs[i] = v, any sign -/
/-- the list's object behind a store -/
theorem mapSeq_set (its : List Value) (n j : Nat) (u : Value) : Obj.mapSeq (·.setIfInBounds j u) { cls := .type "list", data := .seq its.toArray n } = { cls := .type "list", data := .seq (its.set j u).toArray n } := by
  simp [Obj.mapSeq]
theorem Inv.lst {pins : List (Addr × Obj)} {σ : St} {H : Hp} {s : Shared} {p : Addr} {xs : List V} (I : Inv X pins σ H s) (h : H p = some (.lst xs)) :
    ∃ (its : List Value) (n : Nat), Vals xs its ∧ s.heap.get? p = some { cls := .type "list", data := .seq its.toArray n } ∧ xs.length ≤ sizeLine := by
  obtain ⟨z, its, n, r, e⟩ := I.hok p _ h
  exact ⟨its, n, r, e, z⟩
/-- the list at p is written by an update of its object -/
theorem Inv.lstUpd {pins : List (Addr × Obj)} {σ : St} {H : Hp} {s : Shared} {p : Addr} {xs ys : List V} {its its' : List Value} {n n' : Nat} {f : Obj → Obj} (I : Inv X pins σ H s) (h : H p = some (.lst xs))
    (ho : s.heap.get? p = some { cls := .type "list", data := .seq its.toArray n }) (hf : f { cls := .type "list", data := .seq its.toArray n } = { cls := .type "list", data := .seq its'.toArray n' }) (r : Vals ys its') (hz : ys.length ≤ sizeLine) (t : Nat) :
    Inv X pins σ (upd H p (.lst ys)) { s with heap := s.heap.update p f, toks := t } := by
  have e : (s.heap.update p f).get? p = some { cls := .type "list", data := .seq its'.toArray n' } := by
    rw [Heap.get?_update_self f ho (by rw [hf] <;> rfl), hf]
  refine I.write (x := p) (e := p) (by rw [h]; trivial) (.inl rfl) (fun b u hb q => (Heap.get?_update_other _ _ (Ne.symm hb)).trans q) ⟨_, e⟩ ?_
  exact ⟨hz, its', n', r, e⟩
def rSetL : V → V → V → Hp → (Hp → Prop) → Prop := fun o i v H Q => ∃ p xs k j, o = .ref p ∧ i = .int k ∧ H p = some (.lst xs) ∧ ixN xs.length k = some j ∧ Q (upd H p (.lst (xs.set j v)))
theorem set_list : PSet X rSetL := by
  intro pins s σ H o i v ov iv u Q I ro ri rv h
  obtain ⟨p, xs, k, j, rfl, rfl, hp, hj, q⟩ := h
  cases ro
  obtain ⟨t, rfl⟩ := ri
  obtain ⟨its, n, r, ho, hz⟩ := I.lst hp
  obtain ⟨h1, h2, h3, h4⟩ := ixN_seq hj
  have hl := r.length
  have hn := line63
  have I' : Inv X pins σ (upd H p (.lst (xs.set j v))) { s with heap := s.heap.update p (Obj.mapSeq (·.setIfInBounds j u)) } :=
    I.lstUpd hp ho (mapSeq_set its n j u) (r.set rv j) (by rw [List.length_set]; exact hz) s.toks
  by_cases h0 : 0 ≤ k
  · have hk : k.toNat = j := by
      rw [seqIndex_of h0 h4] at h1
      exact Option.some.inj h1
    exact PySem.W.ki_setAt ho h0 (by omega) (by rw [List.size_toArray, ← hl]; exact h4) (by rw [hk]; exact ⟨_, I', q⟩)
  · have hk : (k + (its.toArray.size : Int)).toNat = j := by
      rw [seqIndex_neg (by omega) h3] at h1
      rw [List.size_toArray, ← hl]
      exact Option.some.inj h1
    exact PySem.W.ki_setBack ho (by omega) (by rw [List.size_toArray, ← hl]; exact h3) (by omega) (by rw [hk]; exact ⟨_, I', q⟩)

/-! ### slices -/
/-! ### in, not in: flat items -/
def flatV : V → Bool
  | .non => true
  | .bl _ => true
  | .int _ => true
  | .str _ => true
  | _ => false
/-- == of flat values -/
def eqV : V → V → Bool
  | .non, .non => true
  | .bl a, .bl b => a == b
  | .bl a, .int b => (if a then 1 else 0) == b
  | .int a, .bl b => a == (if b then 1 else 0)
  | .int a, .int b => a == b
  | .str a, .str b => a == b
  | _, _ => false
theorem eqAt_V {A : Around} {s : Shared} {y x : V} {u v : Value} (ry : RelV y u) (rx : RelV x v) (fy : flatV y = true) (fx : flatV x = true) : SeqAt.EqAt A s u v (eqV y x) := by
  cases y with
  | non =>
    cases ry
    cases x with
    | non => cases rx; exact SeqAt.EqAt.same _
    | bl b => cases rx; exact SeqAt.EqAt.none_bool b
    | int b => obtain ⟨t, rfl⟩ := rx; exact SeqAt.EqAt.none_int b t
    | str b => obtain ⟨t, rfl⟩ := rx; exact SeqAt.EqAt.none_str b t
    | _ => exact absurd (show false = true from fx) Bool.false_ne_true
  | bl a =>
    cases ry
    cases x with
    | non => cases rx; exact SeqAt.EqAt.bool_none a
    | bl b => cases rx; exact SeqAt.EqAt.bool_bool a b
    | int b => obtain ⟨t, rfl⟩ := rx; exact SeqAt.EqAt.bool_int a b t
    | str b => obtain ⟨t, rfl⟩ := rx; exact SeqAt.EqAt.bool_str a b t
    | _ => exact absurd (show false = true from fx) Bool.false_ne_true
  | int a =>
    obtain ⟨t', rfl⟩ := ry
    cases x with
    | non => cases rx; exact SeqAt.EqAt.int_none a t'
    | bl b => cases rx; exact SeqAt.EqAt.int_bool a t' b
    | int b => obtain ⟨t, rfl⟩ := rx; exact SeqAt.EqAt.int_int a t' b t
    | str b => obtain ⟨t, rfl⟩ := rx; exact SeqAt.EqAt.int_str a t' b t
    | _ => exact absurd (show false = true from fx) Bool.false_ne_true
  | str a =>
    obtain ⟨t', rfl⟩ := ry
    cases x with
    | non => cases rx; exact SeqAt.EqAt.str_none a t'
    | bl b => cases rx; exact SeqAt.EqAt.str_bool a t' b
    | int b => obtain ⟨t, rfl⟩ := rx; exact SeqAt.EqAt.str_int a t' b t
    | str b => obtain ⟨t, rfl⟩ := rx; exact SeqAt.EqAt.str_str a t' b t
    | _ => exact absurd (show false = true from fx) Bool.false_ne_true
  | _ => exact absurd (show false = true from fy) Bool.false_ne_true
/-- the items' answers, read off the values (a value's own answer does not lean on its token) -/
def eqU (x : V) (u : Value) : Bool := match u with
  | .none => eqV .non x
  | .bool b => eqV (.bl b) x
  | .int i _ => eqV (.int i) x
  | .str z _ => eqV (.str z) x
  | _ => false
theorem eqU_of {x y : V} {u : Value} (r : RelV y u) (f : flatV y = true) : eqU x u = eqV y x := by
  cases y with
  | non => cases r; rfl
  | bl b => cases r; rfl
  | int i => obtain ⟨t, rfl⟩ := r; rfl
  | str z => obtain ⟨t, rfl⟩ := r; rfl
  | _ => exact absurd (show false = true from f) Bool.false_ne_true
theorem any_eqU {x : V} : ∀ {xs : List V} {us : List Value}, Vals xs us → xs.all flatV = true → us.any (eqU x) = xs.any fun y => eqV y x
  | _, _, .nil, _ => rfl
  | y :: xs, u :: us, .cons r t, f => by
    rw [List.all_cons, Bool.and_eq_true] at f
    rw [List.any_cons, List.any_cons, eqU_of r f.1, any_eqU t f.2]
theorem mem_eqAt {A : Around} {s : Shared} {x : V} {v : Value} (rx : RelV x v) (fx : flatV x = true) : ∀ {xs : List V} {us : List Value}, Vals xs us → xs.all flatV = true → ∀ u ∈ us, SeqAt.EqAt A s u v (eqU x u)
  | _, _, .nil, _ => fun u hu => by cases hu
  | y :: xs, u :: us, .cons r t, f => fun u' hu => by
    rw [List.all_cons, Bool.and_eq_true] at f
    rcases List.mem_cons.mp hu with rfl | hu
    · rw [eqU_of r f.1]; exact eqAt_V r rx f.1 fx
    · exact mem_eqAt rx fx t f.2 u' hu
def inV (x : V) (xs : List V) : Bool := xs.any fun y => eqV y x
/-- x in a list or tuple of flat items -/
def rIn (K : PySem.W.Frag) (neg : Bool) : R2 := fun x y H Q => ∃ p xs, y = .ref p ∧ (SqL K H p xs ∨ SqT K H p xs) ∧ flatV x = true ∧ xs.all flatV = true ∧ Q (.bl (if neg then !inV x xs else inV x xs)) H
theorem op_in_seq : OpR X (compareOp .In) (rIn X.K false) := by
  intro pins s σ H x y v u Q I rx ry h
  obtain ⟨p, xs, rfl, hq, fx, fs, q⟩ := h
  cases ry
  rcases hq with hq | hq
  · obtain ⟨its, r, pl, hz⟩ := I.list hq
    refine SeqAt.in_listAt (eqU x) pl.isList (fun w hw => mem_eqAt rx fx r fs w (by simpa using hw)) ⟨.bl _, H, I, rfl, ?_⟩
    rw [show its.toArray.any (eqU x) = its.any (eqU x) by simp, any_eqU r fs]
    exact q
  · obtain ⟨its, r, pl, hz⟩ := I.tuple hq
    refine SeqAt.in_tupleAt (eqU x) pl (fun w hw => mem_eqAt rx fx r fs w (by simpa using hw)) ⟨.bl _, H, I, rfl, ?_⟩
    rw [show its.toArray.any (eqU x) = its.any (eqU x) by simp, any_eqU r fs]
    exact q
/-! ### len, list(x), tuple(x) of any list or tuple that is read -/
theorem call_len_seq : CallR X (.builtin "len") (fun xs H Q => ∃ p ys, xs = [.ref p] ∧ (SqL X.K H p ys ∨ SqT X.K H p ys) ∧ Q (.int ys.length) H) := by
  intro pins s σ H xs us Q I r h
  obtain ⟨p, ys, rfl, hq, q⟩ := h
  obtain ⟨u, rfl, rx⟩ := vals1 r
  cases rx
  have hn := line63
  rcases hq with hq | hq
  · obtain ⟨its, r', pl, hz⟩ := I.list hq
    have hlen := r'.length
    exact Calls.call_len_list pl.isList (by simp only [List.size_toArray] <;> omega) ⟨.int ys.length, H, I.tok _, ⟨s.toks + 1, by rw [List.size_toArray, hlen]⟩, q⟩
  · obtain ⟨its, r', pl, hz⟩ := I.tuple hq
    have hlen := r'.length
    exact len_tuple pl (by simp only [List.size_toArray] <;> omega) ⟨.int ys.length, H, I.tok _, ⟨s.toks + 1, by rw [List.size_toArray, hlen]⟩, q⟩
theorem CallR.or {f : Value} {r r' : List V → Hp → VK → Prop} (h : CallR X f r) (h' : CallR X f r') : CallR X f (fun xs H Q => r xs H Q ∨ r' xs H Q) := by
  intro pins s σ H xs us Q I rs q
  rcases q with q | q
  · exact h pins s σ H xs us Q I rs q
  · exact h' pins s σ H xs us Q I rs q
theorem call_list_of : CallR X (.type "list") (fun xs H Q => ∃ p ys, xs = [.ref p] ∧ (SqL X.K H p ys ∨ SqT X.K H p ys) ∧ ∀ l, H l = none → Q (.ref l) (upd H l (.lst ys))) := by
  intro pins s σ H xs us Q I r h
  obtain ⟨p, ys, rfl, hq, q⟩ := h
  obtain ⟨u, rfl, rx⟩ := vals1 r
  cases rx
  have fin : ∀ (its : List Value), Vals ys its → ys.length ≤ sizeLine → ∀ (h' : Heap) (c' : Nat), (∀ b o', s.heap.get? b = some o' → h'.get? b = some o') →
      h'.get? s.heap.objs.size = some { cls := .type "list", dict := none, data := .seq its.toArray c', slots := #[] } → EP X pins σ Q (.ref s.heap.objs.size) { s with heap := h' } := fun its r' hz h' c' kp e =>
    ⟨.ref s.heap.objs.size, _, I.laid (t' := s.toks) kp (Nat.le_refl _) (show ObjOk X.prog X.w _ h' _ (.lst ys) from ⟨hz, its, c', r', e⟩), rfl, q _ (I.hok.fresh (Nat.le_refl _))⟩
  rcases hq with hq | hq
  · obtain ⟨its, r', pl, hz⟩ := I.list hq
    have hlen := r'.length
    obtain ⟨o, ho, hc, n, hd⟩ := pl.isList
    exact call_list_seq p (.inl rfl) ho hc hd (fun h' c' kp e => fin its r' hz h' c' kp e) (by simp only [List.size_toArray] <;> omega)
  · obtain ⟨its, r', pl, hz⟩ := I.tuple hq
    have hlen := r'.length
    obtain ⟨o, ho, hc, n, hd⟩ := pl
    exact call_list_seq p (.inr rfl) ho hc hd (fun h' c' kp e => fin its r' hz h' c' kp e) (by simp only [List.size_toArray] <;> omega)
theorem call_tuple_of : CallR X (.type "tuple") (fun xs H Q => ∃ p ys, xs = [.ref p] ∧ ((SqL X.K H p ys ∧ ∀ l, H l = none → Q (.ref l) (upd H l (.tup ys))) ∨ (SqT X.K H p ys ∧ Q (.ref p) H))) := by
  intro pins s σ H xs us Q I r h
  obtain ⟨p, ys, rfl, h⟩ := h
  obtain ⟨u, rfl, rx⟩ := vals1 r
  cases rx
  rcases h with ⟨hq, q⟩ | ⟨hq, q⟩
  · obtain ⟨its, r', pl, hz⟩ := I.list hq
    have hlen := r'.length
    refine call_tuple_list pl.isList (fun h' kp => ?_) (by simp only [List.size_toArray] <;> omega)
    have I1 : Inv X pins σ H { s with heap := h' } := I.kept (t' := s.toks) kp
    have I2 : Inv X pins σ (upd H h'.objs.size (.tup ys)) { s with heap := h'.push { cls := .type "tuple", data := .seq its.toArray } } :=
      I1.laid (t' := s.toks) (fun b o e => Heap.get?_push_of_some _ e) (Nat.le_refl _) (show ObjOk X.prog X.w _ _ _ (.tup ys) from ⟨hz, its, r', IsTupN.new _ _⟩)
    exact ⟨.ref h'.objs.size, _, I2, rfl, q _ (I1.hok.fresh (Nat.le_refl _))⟩
  · obtain ⟨its, r', pl, hz⟩ := I.tuple hq
    exact call_tuple_same pl ⟨.ref p, H, I, rfl, q⟩

/-! ### the call of a builtin's method: o.m(..) -/
/-- the value is of that builtin type -/
def tyV (K : PySem.W.Frag) (T : String) (x : V) (H : Hp) : Prop := match x with
  | .str _ => T = "str"
  | .int _ => T = "int"
  | .ref p => (T = "list" ∧ ∃ xs, SqL K H p xs) ∨ (T = "tuple" ∧ ∃ o, K.lookup p = some o ∧ o.cls = .type "tuple" ∧ o.dict = none) ∨
      (T = "dict" ∧ ((∃ kvs, H p = some (.dK kvs)) ∨ ∃ kvs, H p = some (.dT kvs))) ∨ (T = "set" ∧ ∃ S n, H p = some (.set S n))
  | _ => False
theorem tyV_is {pins : List (Addr × Obj)} {σ : St} {H : Hp} {s : Shared} {T : String} {x : V} {v : Value} (I : Inv X pins σ H s) (r : RelV x v) (ty : tyV X.K T x H) :
    s.TypeIs v T ∧ ∀ a, v = .ref a → ∃ ob, s.heap.get? a = some ob ∧ ob.dict = none := by
  cases x with
  | str z =>
    obtain ⟨t, rfl⟩ := r
    cases (show T = "str" from ty)
    exact ⟨typeIs_str s z t, fun _ e => nomatch e⟩
  | int i =>
    obtain ⟨t, rfl⟩ := r
    cases (show T = "int" from ty)
    exact ⟨typeIs_int s i t, fun _ e => nomatch e⟩
  | ref p =>
    cases r
    rcases ty with ⟨rfl, xs, hq⟩ | ⟨rfl, o, hk, hc, hd⟩ | ⟨rfl, hk⟩ | ⟨rfl, S, n, hk⟩
    · obtain ⟨its, _, pl, _⟩ := I.list hq
      refine ⟨pl.isList.typeIs, fun a e => ?_⟩
      cases e
      obtain ⟨o, n, e, c, hd, _⟩ := pl
      exact ⟨o, e, hd⟩
    · refine ⟨⟨o, I.kIn p o hk, hc⟩, fun a e => ?_⟩
      cases e
      exact ⟨o, I.kIn _ o hk, hd⟩
    · have z : ∃ o, s.heap.get? p = some o ∧ o.ExactDict := by
        rcases hk with ⟨kvs, hk⟩ | ⟨kvs, hk⟩
        · obtain ⟨_, _, _, _, o, _, _, e, ex, _⟩ := I.hok p _ hk
          exact ⟨o, e, ex⟩
        · obtain ⟨_, _, _, _, o, _, _, e, ex, _⟩ := I.hok p _ hk
          exact ⟨o, e, ex⟩
      obtain ⟨o, e, ex⟩ := z
      refine ⟨⟨o, e, ex.1⟩, fun a e2 => ?_⟩
      cases e2
      exact ⟨o, e, ex.2.1⟩
    · obtain ⟨o, _, _, _, e, ex, _⟩ := I.hok p _ hk
      refine ⟨⟨o, e, ex.1⟩, fun a e2 => ?_⟩
      cases e2
      exact ⟨o, e, ex.2.1⟩
  | _ => exact False.elim ty
def tBM (K : PySem.W.Frag) (T : String) (r : V → List V → Hp → VK → Prop) (to : TE) (t : TA) : TE := fun σ H Q => to σ H fun x H1 => tyV K T x H1 ∧ t σ H1 fun xs H2 => r x xs H2 Q
variable {o e : Expr} {es : List Expr} {to : TE} {t : TA} {name : Str} {apos cpos : Pos} {T id : String} {r : V → List V → Hp → VK → Prop}
theorem pe_bm (pa : PlainAttrs T) (slot : Slot T name id) (hty : typeOf (.builtin id) = pure (.type "method_descriptor")) (hm : MtR X id r) (ho : PE X o to) (ha : PA X (e :: es) t)
    (hbase : attributeBase o name X.env (eval o X.env) = eval o X.env := by rfl)
    (hfew : ((backTo cpos (starEach (e :: es) X.env)).all (fun x => !x.1) && (backToKw cpos (keywordEach [] X.env)).all (fun x => x.1.isSome)
      && decide ((e :: es).length + ([] : List Keyword).length + (if ([] : List Keyword).isEmpty then 0 else 1) < 30)) = true := by rfl)
    (hline : (apos.endLine == cpos.line) = true := by rfl) (hs : starEach (e :: es) X.env = (false, eval e X.env) :: starEach es X.env := by rfl) (hplain : (backTo cpos (starEach es X.env)).any (·.1) = false := by rfl) :
    PE X (.Call (.Attribute o name apos) (e :: es) [] cpos) (tBM X.K T r to t) := by
  intro pins s σ H Q I h
  refine wpAny_Call_method_late hbase hfew hline rfl (thn (ho pins s σ H _ I h) fun v s1 ⟨x, H1, I1, r1, ty, q1⟩ => ?_)
  obtain ⟨h1, h2⟩ := tyV_is I1 r1 ty
  refine ⟨T, id, pa, slot, hty, h1, h2, ?_⟩
  have hA := ha cpos pins s1 σ H1 _ I1 q1
  rw [hs] at hA ⊢
  refine Calls.callWith_builtin (by show (false || (backTo cpos (starEach es X.env)).any (·.1)) = false; rw [hplain] <;> rfl) (Calls.evalArgs_plain ?_)
  exact thn hA fun us s2 ⟨vs, H2, I2, r2, q2⟩ => hm pins s2 σ H2 x vs v us Q I2 r1 r2 q2
/- xs.append(e), list.index on a module's tuple .. are MtR facts of 06m -/
end
end L2

namespace L2
open PySem PySem.Spec PyProof.Rows

def MtM (X : Cx) (id : String) (r : V → List V → Hp → VK → Prop) : Prop :=
  ∀ (pins : List (Addr × Obj)) (s : Shared) (σ : St) (H : Hp) (x : V) (xs : List V) (v : Value) (us : List Value) (Q : VK), Inv X pins σ H s → RelV x v → Vals xs us → r x xs H Q →
    wpAny (model X.prog X.w) X.A (call (.builtin id) (v :: us)) (EP X pins σ Q) X.xe s

/-! ### lists of values -/
theorem Vals.one : ∀ {x : V} {us : List Value}, Vals [x] us → ∃ u, us = [u] ∧ RelV x u
  | _, _, .cons r .nil => ⟨_, rfl, r⟩
theorem Vals.two : ∀ {x y : V} {us : List Value}, Vals [x, y] us → ∃ u v, us = [u, v] ∧ RelV x u ∧ RelV y v
  | _, _, _, .cons r (.cons q .nil) => ⟨_, _, rfl, r, q⟩
theorem Vals.zero : ∀ {us : List Value}, Vals [] us → us = []
  | _, .nil => rfl
theorem Vals.eraseIdx : ∀ {xs : List V} {us : List Value} (i : Nat), Vals xs us → Vals (xs.eraseIdx i) (us.eraseIdx i)
  | _, _, _, .nil => .nil
  | _, _, 0, .cons _ t => t
  | _, _, i + 1, .cons r t => .cons r (Vals.eraseIdx i t)
theorem Vals.reverse {xs : List V} {us : List Value} (h : Vals xs us) : Vals xs.reverse us.reverse := by
  induction h with
  | nil => exact .nil
  | cons r t ih => rw [List.reverse_cons, List.reverse_cons]; exact Vals.append ih (.cons r .nil)
theorem len_erase {α : Type} : ∀ (l : List α) (i : Nat), (l.eraseIdx i).length ≤ l.length
  | [], _ => Nat.le_refl _
  | _ :: _, 0 => Nat.le_succ _
  | _ :: r, i + 1 => Nat.succ_le_succ (len_erase r i)
section
variable {X : Cx} {pins : List (Addr × Obj)} {σ : St} {H : Hp} {s : Shared} {l b : Addr} {xs ys zs : List V}

/-! ### the two steps: a tracked list is rewritten, a new list is laid -/
theorem Inv.lset {its its' : List Value} {n : Nat} {f : Array Value → Array Value} {t' : Nat} (I : Inv X pins σ H s) (hH : H l = some (.lst xs))
    (e : s.heap.get? l = some { cls := .type "list", data := .seq its.toArray n }) (hf : f its.toArray = its'.toArray) (hv : Vals ys its') (hz : ys.length ≤ sizeLine) :
    Inv X pins σ (upd H l (.lst ys)) { s with heap := s.heap.update l (Obj.mapSeq f), toks := t' } := by
  have q := PySem.IsL.update e f
  rw [hf] at q
  refine I.write (x := l) (e := l) (by rw [hH]; exact trivial) (.inl rfl) (fun b' u hb hu => (Heap.get?_update_other s.heap (Obj.mapSeq f) (Ne.symm hb)).trans hu) ⟨_, q⟩ ?_
  exact ⟨hz, its', _, hv, q⟩
theorem Inv.lnew {its : List Value} {t' : Nat} (I : Inv X pins σ H s) (hv : Vals ys its) (hz : ys.length ≤ sizeLine) :
    Inv X pins σ (upd H s.heap.objs.size (.lst ys)) { s with heap := s.heap.push { cls := .type "list", data := .seq its.toArray }, toks := t' } :=
  I.laid (fun _ _ q => Heap.get?_push_of_some _ q) (Nat.le_refl _) ⟨hz, its, 0, hv, Heap.get?_push_size _ rfl⟩
theorem Inv.fresh (I : Inv X pins σ H s) : H s.heap.objs.size = none := I.hok.fresh (Nat.le_refl _)
theorem Inv.lstM (I : Inv X pins σ H s) (hH : H l = some (.lst xs)) : xs.length ≤ sizeLine ∧ ∃ (its : List Value) (n : Nat), Vals xs its ∧ xs.length = its.length ∧ s.heap.get? l = some { cls := .type "list", data := .seq its.toArray n } := by
  obtain ⟨z, its, n, r, e⟩ := I.hok l _ hH
  exact ⟨z, its, n, r, r.length, e⟩

end

section
variable {X : Cx}

/-! ### methods -/
def rAppend : V → List V → Hp → VK → Prop := fun x vs H Q => ∃ l xs y, x = .ref l ∧ vs = [y] ∧ H l = some (.lst xs) ∧ xs.length < sizeLine ∧ Q .non (upd H l (.lst (xs ++ [y])))
theorem mt_append : MtM X "list.append" rAppend := by
  intro pins s σ H x vs v us Q I rx rv h
  obtain ⟨l, xs, y, rfl, rfl, hH, hz, q⟩ := h
  cases rx
  obtain ⟨u, rfl, ru⟩ := rv.one
  obtain ⟨z, its, n, r, hl, e⟩ := I.lstM hH
  refine call_meets F.slot_list_append ⟨_, e, rfl⟩ F.entry_list_append (F.args_list_append_2 _ _) (PySem.list_append l its.toArray n u (by rw [List.size_toArray]; omega)) ⟨e, ?_⟩
  refine ⟨.non, _, I.lset (its' := its ++ [u]) hH e (by simp) (r.append (.cons ru .nil)) ?_, rfl, q⟩
  rw [List.length_append, List.length_singleton]
  omega

def rPopAt : V → List V → Hp → VK → Prop := fun x vs H Q => ∃ l xs i k y, x = .ref l ∧ vs = [.int i] ∧ H l = some (.lst xs) ∧ -(2 ^ 63) ≤ i ∧ i < 2 ^ 63 ∧ seqIndex? i xs.length = some k ∧ xs[k]? = some y ∧ Q y (upd H l (.lst (xs.eraseIdx k)))
theorem mt_popAt : MtM X "list.pop" rPopAt := by
  intro pins s σ H x vs v us Q I rx rv h
  obtain ⟨l, xs, i, k, y, rfl, rfl, hH, h1, h2, hk, hy, q⟩ := h
  cases rx
  obtain ⟨u, rfl, ru⟩ := rv.one
  obtain ⟨t, rfl⟩ := ru
  obtain ⟨z, its, n, r, hl, e⟩ := I.lstM hH
  obtain ⟨w, hw, rw'⟩ := r.get hy
  refine call_meets F.slot_list_pop ⟨_, e, rfl⟩ F.entry_list_pop (F.args_list_pop_2 _ _)
    (MeetsSeq.list_pop_at l its.toArray n i t k w (fitsIndex_both h1 h2) (by rw [List.size_toArray, ← hl]; exact hk) (by rw [← Array.getElem?_toList]; exact hw) (by rw [List.size_toArray]; omega)) ⟨e, ?_⟩
  refine ⟨y, _, I.lset (its' := its.eraseIdx k) hH e ?_ (r.eraseIdx k) ?_, rw', q⟩
  · show its.toArray.eraseIdxIfInBounds k = (its.eraseIdx k).toArray
    rw [List.eraseIdxIfInBounds_toArray]
  · have := len_erase xs k
    omega

/-! ### list + list, list += list, list * int -/
def rCat : R2 := fun x y H Q => ∃ l b xs zs, x = .ref l ∧ y = .ref b ∧ H l = some (.lst xs) ∧ H b = some (.lst zs) ∧ xs.length + zs.length ≤ sizeLine ∧ ∀ p, H p = none → Q (.ref p) (upd H p (.lst (xs ++ zs)))
theorem op_cat : OpR X (binaryOp .Add) rCat := by
  intro pins s σ H x y v u Q I rx ry h
  obtain ⟨l, b, xs, zs, rfl, rfl, hH, hB, hz, q⟩ := h
  cases rx
  cases ry
  obtain ⟨z, its, n, r, hl, e⟩ := I.lstM hH
  obtain ⟨z2, its2, n2, r2, hl2, e2⟩ := I.lstM hB
  refine PySem.P.add_list e e2 ?_ (by rw [List.size_toArray, List.size_toArray]; omega)
  have ea : its.toArray ++ its2.toArray = (its ++ its2).toArray := by simp
  rw [ea]
  exact ⟨.ref _, _, I.lnew (t' := s.toks) (r.append r2) (by rw [List.length_append]; omega), rfl, q _ I.fresh⟩
/-! ### del xs[i] -/
end

/-! ### xs[a:b] = ys -/
section
variable {prog : Program} {w : World} {A : Around} {E : Value → Shared → Prop} {s : Shared}
set_option maxRecDepth 100000 in
end

section
variable {X : Cx}
end
end L2

namespace L2
open PySem PySem.Spec PyProof.Rows

theorem Vals.ints : ∀ {ns : List Int} {us : List Value}, Vals (ns.map V.int) us → IntsAre us ns
  | [], us, h => by
    rw [List.map_nil] at h
    cases h
    exact IntsAre.nil
  | n :: ns, us, h => by
    rw [List.map_cons] at h
    cases h with
    | cons r t =>
      obtain ⟨k, rfl⟩ := r
      exact IntsAre.cons n k (Vals.ints t)
theorem Vals.strs : ∀ {xs : List Str} {us : List Value}, Vals (xs.map V.str) us → StrsAre us xs
  | [], us, h => by
    rw [List.map_nil] at h
    cases h
    exact StrsAre.nil
  | x :: xs, us, h => by
    rw [List.map_cons] at h
    cases h with
    | cons r t =>
      obtain ⟨k, rfl⟩ := r
      exact StrsAre.cons x k (Vals.strs t)
/-! ### the library's walks over a list of ints, kept objects alone -/
section
variable {prog : Program} {w : World} {A : Around} {E : Value → Shared → Prop} {s : Shared} {l : Addr} {its : List Value} {ns : List Int} {Q : Value → Shared → Prop}
end

/-! ### the calls, by values (CallR of 03t; MtR of 06l) -/
section
variable {X : Cx}
/-! sorted, sort (fewer than 64 items: the library's own bound) -/
end

/-! ### list.index, flat items -/
section
variable {X : Cx}
end

/-! ### type(x) of an own instance; is, is not of a module's class -/
section
variable {X : Cx}
end

/-! ### any(xs), all(xs) of a list of bools -/
section
variable {X : Cx}
end

/-! ### == and != of data at any depth: none, bools, ints, texts, lists, tuples -/
mutual
inductive Dp (K : PySem.W.Frag) (H : Hp) : V → PyData → Prop
  | non : Dp K H .non .none
  | bl (b : Bool) : Dp K H (.bl b) (.bool b)
  | int (i : Int) : Dp K H (.int i) (.int i)
  | str (x : Str) : Dp K H (.str x) (.str x)
  | lst {a : Addr} {xs : List V} {ds : List PyData} : SqL K H a xs → DpAll K H xs ds → Dp K H (.ref a) (.list ds)
  | tup {a : Addr} {xs : List V} {ds : List PyData} : SqT K H a xs → DpAll K H xs ds → Dp K H (.ref a) (.tuple ds)
inductive DpAll (K : PySem.W.Frag) (H : Hp) : List V → List PyData → Prop
  | nil : DpAll K H [] []
  | cons {v : V} {vs : List V} {d : PyData} {ds : List PyData} : Dp K H v d → DpAll K H vs ds → DpAll K H (v :: vs) (d :: ds)
end
section
variable {X : Cx} {pins : List (Addr × Obj)} {σ : St} {H : Hp} {s : Shared}
mutual
theorem Dp.reads (I : Inv X pins σ H s) : ∀ (d : PyData) (v : V) (u : Value), Dp X.K H v d → RelV v u → ∃ as, Reads s.heap u d as
  | .none, _, _, h, r => by
    cases h
    cases r
    exact ⟨_, Reads.none⟩
  | .bool b, _, _, h, r => by
    cases h
    cases r
    exact ⟨_, Reads.bool b⟩
  | .int i, _, _, h, r => by
    cases h
    obtain ⟨t, rfl⟩ := r
    exact ⟨_, Reads.int i t⟩
  | .str x, _, _, h, r => by
    cases h
    obtain ⟨t, rfl⟩ := r
    exact ⟨_, Reads.str x t⟩
  | .list ds, _, _, h, r => by
    cases h with
    | lst hs ha =>
      cases r
      obtain ⟨its, rv, ⟨o, n, ho, hc, _, hd⟩, _⟩ := I.list hs
      obtain ⟨as, hr⟩ := Dp.readsAll I ds _ its ha rv
      exact ⟨_, Reads.list ho hc hd hr⟩
  | .tuple ds, _, _, h, r => by
    cases h with
    | tup hs ha =>
      cases r
      obtain ⟨its, rv, ⟨o, ho, hc, n, hd⟩, _⟩ := I.tuple hs
      obtain ⟨as, hr⟩ := Dp.readsAll I ds _ its ha rv
      exact ⟨_, Reads.tuple ho hc hd hr⟩
  | .dict _, _, _, h, _ => by cases h
theorem Dp.readsAll (I : Inv X pins σ H s) : ∀ (ds : List PyData) (vs : List V) (us : List Value), DpAll X.K H vs ds → Vals vs us → ∃ as, ReadsAll s.heap us ds as
  | [], _, _, h, r => by
    cases h
    cases r
    exact ⟨_, ReadsAll.nil⟩
  | d :: ds, _, _, h, r => by
    cases h with
    | cons h1 h2 =>
      cases r with
      | cons r1 r2 =>
        obtain ⟨as, q1⟩ := Dp.reads I d _ _ h1 r1
        obtain ⟨bs, q2⟩ := Dp.readsAll I ds _ _ h2 r2
        exact ⟨_, ReadsAll.cons q1 q2⟩
end
end
section
variable {X : Cx}
def rEqD (K : PySem.W.Frag) : R2 := fun x y H Q => ∃ d e, Dp K H x d ∧ Dp K H y e ∧ SeqAt.shaped d = true ∧ SeqAt.shaped e = true ∧ Q (.bl (PyData.eqv d e)) H
def rNeD (K : PySem.W.Frag) : R2 := fun x y H Q => ∃ d e, Dp K H x d ∧ Dp K H y e ∧ SeqAt.shaped d = true ∧ SeqAt.shaped e = true ∧ Q (.bl (!PyData.eqv d e)) H
theorem op_eqD (hu : X.A.units + 64 < cLine) : OpR X (compareOp .Eq) (rEqD X.K) := by
  intro pins s σ H x y v u Q I rx ry h
  obtain ⟨d, e, hd, he, sd, se, q⟩ := h
  obtain ⟨as, r1⟩ := Dp.reads I d x v hd rx
  obtain ⟨bs, r2⟩ := Dp.reads I e y u he ry
  exact SeqAt.compareEq_shaped r1 r2 sd se hu ⟨.bl _, H, I, rfl, q⟩
theorem op_neD (hu : X.A.units + 64 < cLine) : OpR X (compareOp .NotEq) (rNeD X.K) := by
  intro pins s σ H x y v u Q I rx ry h
  obtain ⟨d, e, hd, he, sd, se, q⟩ := h
  obtain ⟨as, r1⟩ := Dp.reads I d x v hd rx
  obtain ⟨bs, r2⟩ := Dp.reads I e y u he ry
  exact SeqAt.compareNe_shaped r1 r2 sd se hu ⟨.bl _, H, I, rfl, q⟩
end
end L2

namespace L2
open PySem PySem.Spec PyProof.Rows
abbrev CellAt (h : Heap) (c : Addr) (v : Option Value) : Prop := h.IsCell c v
def relS (scope sc : Scope) : Scope :=
  { scope with names := scope.names.map fun (n, k) => if (k == .free && sc.kind == .function && sc.names.lookup n == some .cell) then (n, .cell) else (n, k) }

def cloFrom (cells : List (Str × Addr)) : List (Str × NameKind) → List (Str × Addr) → List (Str × Addr)
  | [], acc => acc
  | (n, k) :: r, acc => if k == .free then cloFrom cells r ((n, (cells.lookup n).getD 0) :: acc) else cloFrom cells r acc

theorem closure_loop (env : Env) (f : Str × NameKind → List (Str × Addr) → Sem (ForInStep (List (Str × Addr))))
    (hf : ∀ n k c, f (n, k) c = if k == .free then (do let a ← cellOf env n; pure (.yield ((n, a) :: c))) else pure (.yield c)) :
    ∀ (names : List (Str × NameKind)) (acc : List (Str × Addr)), (∀ y ∈ names, y.2 = .free → ∃ c, env.cells.lookup y.1 = some c) → forIn names acc f = pure (cloFrom env.cells names acc)
  | [], acc, _ => by rw [List.forIn_nil]; rfl
  | (n, k) :: r, acc, h => by
    rw [List.forIn_cons, hf]
    have ih := fun acc => closure_loop env f hf r acc fun y hy => h y (List.mem_cons_of_mem _ hy)
    unfold cloFrom
    by_cases hk : (k == NameKind.free) = true
    · rw [if_pos hk, if_pos hk]
      obtain ⟨c, hc⟩ := h (n, k) List.mem_cons_self (by simpa using hk)
      have e : cellOf env n = pure c := by unfold cellOf; rw [hc]
      rw [e]
      have e2 : (env.cells.lookup n).getD 0 = c := by rw [hc]; rfl
      rw [e2]
      exact ih _
    · rw [if_neg hk, if_neg hk]
      exact ih _
theorem closure_ok {scope : Scope} {env : Env} (h : ∀ y ∈ scope.names, y.2 = .free → ∃ c, env.cells.lookup y.1 = some c) : closureFor scope env = pure (cloFrom env.cells scope.names []) := by
  simp only [closureFor]
  rw [closure_loop env _ (fun n k c => rfl) scope.names [] h]
  rfl

theorem mem_lookup {α : Type} : ∀ {l : List (Str × α)} {n : Str} {c : α}, (n, c) ∈ l → ∃ c', l.lookup n = some c'
  | (k, v) :: r, n, c, h => by
    rw [List.lookup_cons]
    cases hb : n == k with
    | true => exact ⟨_, rfl⟩
    | false =>
      rcases List.mem_cons.mp h with e | h
      · cases e; simp at hb
      · exact mem_lookup h

theorem cloFrom_mem {cells : List (Str × Addr)} : ∀ {names : List (Str × NameKind)} {acc : List (Str × Addr)} {n : Str} {c : Addr}, (n, c) ∈ cloFrom cells names acc → (n, c) ∈ acc ∨ ((n, .free) ∈ names ∧ c = (cells.lookup n).getD 0)
  | [], _, _, _, h => .inl h
  | (m, k) :: r, acc, n, c, h => by
    unfold cloFrom at h
    split at h
    · rename_i hk
      have hk : k = .free := by simpa using hk
      rcases cloFrom_mem h with h | ⟨h1, h2⟩
      · rcases List.mem_cons.mp h with e | h
        · cases e; exact .inr ⟨hk ▸ List.mem_cons_self, rfl⟩
        · exact .inl h
      · exact .inr ⟨List.mem_cons_of_mem _ h1, h2⟩
    · rcases cloFrom_mem h with h | ⟨h1, h2⟩
      · exact .inl h
      · exact .inr ⟨List.mem_cons_of_mem _ h1, h2⟩
theorem cloFrom_acc {cells : List (Str × Addr)} : ∀ {names : List (Str × NameKind)} {acc : List (Str × Addr)} {p : Str × Addr}, p ∈ acc → p ∈ cloFrom cells names acc
  | [], _, _, h => h
  | (m, k) :: r, acc, p, h => by
    unfold cloFrom
    split
    · exact cloFrom_acc (List.mem_cons_of_mem _ h)
    · exact cloFrom_acc h
theorem cloFrom_has {cells : List (Str × Addr)} : ∀ {names : List (Str × NameKind)} {acc : List (Str × Addr)} {n : Str}, (n, .free) ∈ names → (n, (cells.lookup n).getD 0) ∈ cloFrom cells names acc
  | (m, k) :: r, acc, n, h => by
    unfold cloFrom
    rcases List.mem_cons.mp h with e | h
    · cases e
      exact cloFrom_acc List.mem_cons_self
    · split
      · exact cloFrom_has h
      · exact cloFrom_has h

theorem cells_mem : ∀ {names : List (Str × NameKind)} {h : Heap} {acc : List (Str × Addr)} {x : Str} {c : Addr}, (x, c) ∈ cellsFrom h.objs.size names acc →
    (x, c) ∈ acc ∨ ((x, .cell) ∈ names ∧ h.objs.size ≤ c ∧ CellAt (pushCells h names) c none)
  | [], _, _, _, _, h => .inl h
  | (n, k) :: r, h, acc, x, c, hm => by
    unfold cellsFrom at hm
    unfold pushCells
    split at hm
    · rename_i hk
      rw [if_pos hk]
      have hk : k = .cell := by simpa using hk
      rw [← Heap.size_push h { cls := .type "cell", data := .cell none }] at hm
      rcases cells_mem hm with hm | ⟨h1, h2, h3⟩
      · rcases List.mem_cons.mp hm with e | hm
        · cases e
          exact .inr ⟨hk ▸ List.mem_cons_self, Nat.le_refl _, _, pushCells_keeps r _ _ _ (Heap.get?_push_size _ rfl), rfl⟩
        · exact .inl hm
      · rw [Heap.size_push] at h2
        exact .inr ⟨List.mem_cons_of_mem _ h1, Nat.le_of_succ_le h2, h3⟩
    · rename_i hk
      rw [if_neg hk]
      rcases cells_mem hm with hm | ⟨h1, h2, h3⟩
      · exact .inl hm
      · exact .inr ⟨List.mem_cons_of_mem _ h1, h2, h3⟩
theorem cells_acc : ∀ {names : List (Str × NameKind)} {n : Nat} {acc : List (Str × Addr)} {p : Str × Addr}, p ∈ acc → p ∈ cellsFrom n names acc
  | [], _, _, _, h => h
  | (m, k) :: r, n, acc, p, h => by
    unfold cellsFrom
    split
    · exact cells_acc (List.mem_cons_of_mem _ h)
    · exact cells_acc h
theorem cells_has : ∀ {names : List (Str × NameKind)} {n : Nat} {acc : List (Str × Addr)} {x : Str}, (x, .cell) ∈ names → ∃ c, (x, c) ∈ cellsFrom n names acc
  | (m, k) :: r, n, acc, x, h => by
    unfold cellsFrom
    rcases List.mem_cons.mp h with e | h
    · cases e
      exact ⟨n, cells_acc List.mem_cons_self⟩
    · split
      · exact cells_has h
      · exact cells_has h
theorem cells_inj : ∀ {names : List (Str × NameKind)} {h : Heap} {acc : List (Str × Addr)} {x y : Str} {c : Addr}, (∀ p ∈ acc, p.2 < h.objs.size) → (∀ x y c, (x, c) ∈ acc → (y, c) ∈ acc → x = y) →
    (x, c) ∈ cellsFrom h.objs.size names acc → (y, c) ∈ cellsFrom h.objs.size names acc → x = y
  | [], _, _, _, _, _, _, hi, h1, h2 => hi _ _ _ h1 h2
  | (n, k) :: r, h, acc, x, y, c, hl, hi, h1, h2 => by
    unfold cellsFrom at h1 h2
    split at h1
    · rename_i hk
      rw [if_pos hk] at h2
      rw [← Heap.size_push h { cls := .type "cell", data := .cell none }] at h1 h2
      refine cells_inj (h := h.push _) (fun p hp => ?_) (fun x y c a b => ?_) h1 h2
      · rw [Heap.size_push]
        rcases List.mem_cons.mp hp with rfl | hp
        · exact Nat.lt_succ_self _
        · exact Nat.lt_succ_of_lt (hl p hp)
      · rcases List.mem_cons.mp a with e | a <;> rcases List.mem_cons.mp b with e' | b
        · cases e; cases e'; rfl
        · cases e; exact absurd (hl _ b) (Nat.lt_irrefl _)
        · cases e'; exact absurd (hl _ a) (Nat.lt_irrefl _)
        · exact hi _ _ _ a b
    · rename_i hk
      rw [if_neg hk] at h2
      exact cells_inj hl hi h1 h2

theorem newEnv_comp {M : Model} {A : Around} {E : Value → Shared → Prop} {s : Shared} {scope : Scope} {globals : Addr} {closure : List (Str × Addr)} {qual : Str} {func : Option Addr} {code : Value} {around : Env} {builtins : Addr} {Q : Env → Shared → Prop}
    (h : Q (newEnv scope s.heap.objs.size globals (cellsFrom (s.heap.objs.size + 1) scope.names closure) qual func code (some around) builtins)
      { s with heap := pushCells (s.heap.push { cls := .type "dict", data := .dict #[] }) scope.names }) :
    wpAny M A (newFunctionEnv scope globals closure [] qual func code (some around) builtins) Q E s := by
  simp only [newFunctionEnv, Option.isSome_some, if_true]
  refine wpAny_bind (wpAny_alloc ?_)
  refine wpAny_bind (wpAny_layCells _ (fun n k c => rfl) scope.names closure _ _ ?_)
  rw [show ({ s with heap := s.heap.push { cls := .type "dict", data := .dict #[] } } : Shared).heap.objs.size = s.heap.objs.size + 1 from Heap.size_push ..]
  rw [List.forIn_nil]
  exact wpAny_bind (wpAny_pure (wpAny_pure h))

/-- every name of the written scope, in the scope that runs -/
theorem lookup_relS {sc : Scope} : ∀ {names : List (Str × NameKind)} {x : Str} {k : NameKind},
    (names.map fun (n, k) => if (k == NameKind.free && sc.kind == .function && sc.names.lookup n == some .cell) then (n, NameKind.cell) else (n, k)).lookup x = some k →
    ∃ k', names.lookup x = some k' ∧ (k = k' ∨ (k' = .free ∧ k = .cell))
  | [], _, _, h => by simp at h
  | (n, k₀) :: r, x, k, h => by
    have ih := @lookup_relS sc r x k
    have h' : List.lookup x ((if (k₀ == NameKind.free && sc.kind == .function && sc.names.lookup n == some .cell) = true then (n, NameKind.cell) else (n, k₀)) :: (r.map _)) = some k := h
    cases hx : x == n with
    | true =>
      simp only [List.lookup_cons, hx]
      by_cases hc : (k₀ == NameKind.free && sc.kind == .function && sc.names.lookup n == some .cell) = true
      · rw [if_pos hc] at h'
        simp only [List.lookup_cons, hx] at h'
        cases h'
        simp only [Bool.and_eq_true, beq_iff_eq] at hc
        exact ⟨k₀, rfl, .inr ⟨hc.1.1, rfl⟩⟩
      · rw [if_neg hc] at h'
        simp only [List.lookup_cons, hx] at h'
        cases h'
        exact ⟨_, rfl, .inl rfl⟩
    | false =>
      simp only [List.lookup_cons, hx]
      by_cases hc : (k₀ == NameKind.free && sc.kind == .function && sc.names.lookup n == some .cell) = true
      · rw [if_pos hc] at h'
        simp only [List.lookup_cons, hx] at h'
        exact ih h'
      · rw [if_neg hc] at h'
        simp only [List.lookup_cons, hx] at h'
        exact ih h'
/-- the names of a comprehension's block: its own (with their places in N), or captured -/
structure BlkOk (N : List Str) (sc scope : Scope) (own : List (Str × Nat)) : Prop where
  kind : scope.kind = .function
  uniq : ∀ y ∈ scope.names, scope.names.lookup y.1 = some y.2
  ix : ∀ p ∈ own, N[p.2]? = some p.1
  free : ∀ y ∈ scope.names, y.2 = .free → sc.names.lookup y.1 = some .cell ∨ sc.names.lookup y.1 = some .free
  own : ∀ y ∈ scope.names, y.2 = .local ∨ y.2 = .cell → y.1 ∈ own.map (·.1) ∨ y.1 ∉ N
/-- the slots of the block's own names forgotten -/
def wipe (σ : St) : List Nat → St
  | [] => σ
  | v :: vs => (wipe σ vs).set v none
theorem wipe_length (σ : St) : ∀ vs : List Nat, (wipe σ vs).length = σ.length
  | [] => rfl
  | v :: vs => by unfold wipe; rw [List.length_set, wipe_length σ vs]
theorem wipe_some {σ : St} {i : Nat} {x : V} : ∀ {vs : List Nat}, (wipe σ vs)[i]? = some (some x) → σ[i]? = some (some x) ∧ i ∉ vs
  | [], h => ⟨h, by simp⟩
  | v :: vs, h => by
    unfold wipe at h
    by_cases hi : v = i
    · subst hi
      by_cases hv : v < (wipe σ vs).length
      · rw [List.getElem?_set_self hv] at h; cases h
      · rw [List.getElem?_eq_none (by simpa using hv)] at h; cases h
    · rw [List.getElem?_set_ne hi] at h
      obtain ⟨h1, h2⟩ := wipe_some h
      exact ⟨h1, by simp only [List.mem_cons, not_or]; exact ⟨fun e => hi e.symm, h2⟩⟩

/-- the context of a block that starts at s, its iterator's objects at fp -/
abbrev Cx.blk (X : Cx) (s : Shared) (H : Hp) (scope : Scope) (cenv : Env) (fp : List Addr) : Cx := { X with s_0 := s, H_0 := H, env := cenv, outer := X.stack, ex := fp, fn := fun x => scope.names.lookup x == some .cell, pn := [], xe := fun _ _ => False }
section
variable {X : Cx} {pins : List (Addr × Obj)} {σ : St} {H : Hp} {s : Shared}
theorem block_start {scope : Scope} {own : List (Str × Nat)} {fp : List Addr} (I : Inv X pins σ H s) (ok : BlkOk X.N X.env.scope scope own) (hN : X.N.Nodup) (hfp : ∀ b ∈ fp, FpOk X pins H b ∧ b < s.heap.objs.size) :
    Inv (X.blk s H scope (compEnvC scope (cellsFrom (s.heap.objs.size + 1) scope.names (cloFrom X.env.cells scope.names [])) s.heap.objs.size X.env) fp) [] (wipe σ (own.map (·.2))) H { s with heap := pushCells (s.heap.push { cls := .type "dict", data := .dict #[] }) scope.names } := by
  have hfree : ∀ y ∈ scope.names, y.2 = .free → ∃ c, X.env.cells.lookup y.1 = some c := fun y hy e => by
    rcases ok.free y hy e with k | k
    · exact I.ok.has _ (.inl k)
    · exact I.ok.has _ (.inr k)
  generalize hcenv : compEnvC scope (cellsFrom (s.heap.objs.size + 1) scope.names (cloFrom X.env.cells scope.names [])) s.heap.objs.size X.env = cenv
  have kp : ∀ b o, s.heap.get? b = some o → (pushCells (s.heap.push { cls := .type "dict", data := .dict #[] }) scope.names).get? b = some o := fun b o e => pushCells_keeps _ _ _ _ (Heap.get?_push_of_some _ e)
  have hL : cenv.locals = s.heap.objs.size := by rw [← hcenv]; rfl
  have hcl : cenv.cells = cellsFrom (s.heap.objs.size + 1) scope.names (cloFrom X.env.cells scope.names []) := by rw [← hcenv]; rfl
  have hsc : cenv.scope = relS scope X.env.scope := by rw [← hcenv]; rfl
  rw [← Heap.size_push s.heap { cls := .type "dict", data := .dict #[] }] at hcl
  have cm : ∀ {y c}, (y, c) ∈ cloFrom X.env.cells scope.names [] → X.env.cells.lookup y = some c ∧ c < s.heap.objs.size := fun {y c} hm => by
    rcases cloFrom_mem hm with hm | ⟨h1, rfl⟩
    · cases hm
    · obtain ⟨c, hc⟩ := hfree _ h1 rfl
      rw [hc]
      obtain ⟨w, z⟩ := I.cell _ _ hc
      exact ⟨rfl, z.lt⟩
  have mem : ∀ {y c}, cenv.cells.lookup y = some c → (X.env.cells.lookup y = some c ∧ c < s.heap.objs.size) ∨ (s.heap.objs.size + 1 ≤ c ∧ CellAt (pushCells (s.heap.push { cls := .type "dict", data := .dict #[] }) scope.names) c none) := fun {y c} e => by
    rw [hcl] at e
    rcases cells_mem (PySem.mem_of_lookup e) with hm | ⟨_, h2, h3⟩
    · exact .inl (cm hm)
    · rw [Heap.size_push] at h2; exact .inr ⟨h2, h3⟩
  have look : ∀ {y}, scope.names.lookup y = some .free → ∃ c, cenv.cells.lookup y = some c ∧ X.env.cells.lookup y = some c := fun {y} hl => by
    have hy : (y, NameKind.free) ∈ scope.names := PySem.mem_of_lookup hl
    obtain ⟨c', e'⟩ := mem_lookup (cells_acc (names := scope.names) (n := (s.heap.push { cls := .type "dict", data := .dict #[] }).objs.size) (cloFrom_has (cells := X.env.cells) (acc := []) hy))
    rw [← hcl] at e'
    refine ⟨c', e', ?_⟩
    rw [hcl] at e'
    rcases cells_mem (PySem.mem_of_lookup e') with hm | ⟨h1, _, _⟩
    · exact (cm hm).1
    · have := ok.uniq _ h1
      rw [hl] at this; cases this
  have okB : (X.blk s H scope cenv fp).Ok := by
    refine ⟨I.ok.mod, by show cenv.scope.kind = _; rw [hsc]; exact ok.kind, by show cenv.globals = _; rw [← hcenv]; exact I.ok.glob, by show cenv.builtins = _; rw [← hcenv]; exact I.ok.blt, by show s.heap.objs.size ≤ cenv.locals; rw [hL]; exact Nat.le_refl _,
      fun y z c e1 e2 => ?_, fun y hy => ?_, fun y c z e => ?_, I.ok.hd, I.ok.frames, .inl rfl, fun b hb => ⟨?_, fun y c e z => ?_⟩, I.bs, Nat.le_trans I.ok.bsz I.sz, fun b o e hb => ?_, fun b hb z => ?_, I.stack, I.stkFree⟩
    · have e1 : cenv.cells.lookup y = some c := e1
      have e2 : cenv.cells.lookup z = some c := e2
      rw [hcl] at e1 e2
      refine cells_inj (fun p hp => ?_) (fun y z c a b => I.ok.inj y z c (cm a).1 (cm b).1) (PySem.mem_of_lookup e1) (PySem.mem_of_lookup e2)
      rw [Heap.size_push]
      exact Nat.lt_succ_of_lt (cm (y := p.1) (c := p.2) hp).2
    · show ∃ c, cenv.cells.lookup y = some c
      have key : ∀ k, cenv.kindOf y = some k → (k = .cell ∨ k = .free) → ∃ c, cenv.cells.lookup y = some c := fun k hk hk' => by
        unfold Env.kindOf at hk
        rw [hsc] at hk
        obtain ⟨k', e, r⟩ := lookup_relS hk
        have : k' = .cell ∨ k' = .free := by
          rcases r with rfl | ⟨rfl, _⟩
          · exact hk'
          · exact .inr rfl
        rcases this with rfl | rfl
        · obtain ⟨c, hm⟩ := cells_has (n := (s.heap.push { cls := .type "dict", data := .dict #[] }).objs.size) (acc := cloFrom X.env.cells scope.names []) (PySem.mem_of_lookup e)
          obtain ⟨c', e'⟩ := mem_lookup hm
          exact ⟨c', by rw [hcl]; exact e'⟩
        · obtain ⟨c, h1, _⟩ := look e
          exact ⟨c, h1⟩
      rcases hy with hy | hy
      · exact key _ hy (.inl rfl)
      · exact key _ hy (.inr rfl)
    · have z : (scope.names.lookup y == some NameKind.cell) = true := z
      have z : scope.names.lookup y = some .cell := by simpa using z
      have e : cenv.cells.lookup y = some c := e
      rw [hcl] at e
      rcases cells_mem (PySem.mem_of_lookup e) with hm | ⟨_, h2, _⟩
      · rcases cloFrom_mem hm with hm | ⟨h1, _⟩
        · cases hm
        · have q := ok.uniq _ h1
          rw [z] at q; cases q
      · rw [Heap.size_push] at h2
        exact Nat.le_of_succ_le h2
    · show b ≠ cenv.locals
      rw [hL]; exact Nat.ne_of_lt (hfp b hb).2
    · have e : cenv.cells.lookup y = some c := e
      rcases mem e with ⟨h1, _⟩ | ⟨h1, _⟩
      · exact (hfp b hb).1.2.2.2.2.1 y c h1 z
      · have h2 : s.heap.objs.size + 1 ≤ b := by rw [← z]; exact h1
        exact absurd (Nat.lt_of_lt_of_le (hfp b hb).2 (Nat.le_of_succ_le h2)) (Nat.lt_irrefl _)
    · rcases (hfp b hb).1.2.2.2.1 with z | z
      · exact I.ok.noex b o e z
      · exact absurd (Nat.lt_of_lt_of_le (Heap.lt_size e) (Nat.le_trans I.ok.bsz z)) (Nat.lt_irrefl _)
    · rcases List.mem_cons.mp (I.stkSub b z) with z | z
      · exact (hfp b hb).1.2.1 z
      · exact (hfp b hb).1.2.2.1 z
  refine ⟨okB, rfl, I.bare, Un.kept kp, ⟨fun _ => none, ?_, fun i y av e1 e2 e3 => ?_⟩, fun y c e => ?_, ?_, fun y c e => ?_, fun p hp => ?_, I.hok.kept kp, by rw [wipe_length]; exact I.len⟩
  · show Heap.Ns _ cenv.locals _
    rw [hL]
    exact Heap.Ns.keeps (Heap.Ns.new ..) fun b o e => pushCells_keeps _ _ _ _ e
  · obtain ⟨e2, hne⟩ := wipe_some e2
    have hfr : scope.names.lookup y = some .free ∧ (cenv.kindOf y = some .cell ∨ cenv.kindOf y = some .free) := by
      have key : ∀ k, cenv.scope.names.lookup y = some k → k = .local ∨ k = .cell ∨ k = .free → scope.names.lookup y = some .free ∧ (cenv.kindOf y = some .cell ∨ cenv.kindOf y = some .free) := fun k hk hk' => by
        have hk0 := hk
        rw [hsc] at hk
        obtain ⟨k', e, r⟩ := lookup_relS hk
        have no : ¬ (k' = .local ∨ k' = .cell) := fun hh => by
          rcases ok.own _ (PySem.mem_of_lookup e) hh with e' | e'
          · obtain ⟨p, hp, hpy⟩ := List.mem_map.mp e'
            have e3 := ok.ix p hp
            have : p.1 = y := hpy
            rw [this] at e3
            exact hne (List.mem_map.mpr ⟨p, hp, nodup_ix hN e3 e1⟩)
          · exact e' (List.mem_of_getElem? e1)
        rcases r with rfl | ⟨rfl, rfl⟩
        · rcases hk' with rfl | rfl | rfl
          · exact absurd (.inl rfl) no
          · exact absurd (.inr rfl) no
          · exact ⟨e, .inr hk0⟩
        · exact ⟨e, .inl hk0⟩
      have e3 : Vis cenv.scope y := e3
      rcases e3 with e3 | e3 | e3
      · exact key _ e3 (.inl rfl)
      · exact key _ e3 (.inr (.inl rfl))
      · exact key _ e3 (.inr (.inr rfl))
    obtain ⟨m, hn, hl⟩ := I.loc
    have hvis : Vis X.env.scope y := (ok.free _ (PySem.mem_of_lookup hfr.1) rfl).elim (fun k => .inr (.inl k)) (fun k => .inr (.inr k))
    obtain ⟨w, r, q⟩ := hl i y av e1 e2 hvis
    refine ⟨w, r, .inr ⟨hfr.2, ?_⟩⟩
    obtain ⟨c, h1, h2⟩ := look hfr.1
    rcases q with ⟨k, _⟩ | ⟨_, c', e', z⟩
    · have k : X.env.scope.names.lookup y = some .local := k
      rcases ok.free _ (PySem.mem_of_lookup hfr.1) rfl with k' | k' <;> rw [show X.env.scope.names.lookup y = _ from k'] at k <;> cases k
    · rw [h2] at e'; cases e'
      exact ⟨c, h1, z.keeps kp⟩
  · have e : cenv.cells.lookup y = some c := e
    rcases mem e with ⟨h1, _⟩ | ⟨_, z⟩
    · obtain ⟨w, z⟩ := I.cell y c h1
      exact ⟨w, z.keeps kp⟩
    · exact ⟨_, z⟩
  · show H cenv.locals = none
    rw [hL]; exact I.hok.fresh (Nat.le_refl _)
  · have e : cenv.cells.lookup y = some c := e
    rcases mem e with ⟨h1, _⟩ | ⟨h1, _⟩
    · exact I.freeC y c h1
    · exact I.hok.fresh (Nat.le_of_succ_le h1)
  · exact absurd (show p ∈ ([] : List (Addr × Obj)) ++ [] from hp) (by simp)

/-- an item appended to a tracked list -/
theorem app_ok {E : Value → Shared → Prop} {D : Addr} {xs : List V} {y : V} {v : Value} {Q : Value → Shared → Prop} (I : Inv X pins σ H s) (hD : H D = some (.lst xs)) (hz : xs.length < sizeLine) (r : RelV y v)
    (h : ∀ s', Inv X pins σ (upd H D (.lst (xs ++ [y]))) s' → Q .none s') : wpAny (model X.prog X.w) X.A (call (.builtin "list.append") [.ref D, v]) Q E s := by
  obtain ⟨hz', its, n, ri, e⟩ := I.hok D _ hD
  have hl := ri.length
  refine append_at (hsz := by rw [List.size_toArray]; omega) e fun h' sb ho' => ?_
  refine h { s with heap := h' } (I.write (t' := s.toks) (by rw [hD]; trivial) (.inl rfl) (fun b u hb q => (sb.2 b hb).trans q) ⟨_, ho'⟩ ⟨by rw [List.length_append]; exact hz, its ++ [v], n + 1, ri.append (.cons r .nil), ?_⟩)
  rw [ho']
  simp

/-- a clause's tests -/
def PTs (X : Cx) (ifs : List Expr) (t : TT) : Prop :=
  ∀ (pins : List (Addr × Obj)) (s : Shared) (σ : St) (H : Hp) (Q : Bool → Hp → Prop), Inv X pins σ H s → t σ H Q →
    wpAny (model X.prog X.w) X.A (forIn ifs true fun c r => if r = true then do let ok ← isTrue c X.env (eval c X.env); pure (ForInStep.yield ok) else pure (ForInStep.yield r)) (TP X pins σ Q) X.xe s
def tYes : TT := fun _ H Q => Q true H
theorem pts_nil : PTs X [] tYes := fun _ _ _ H _ I h => wpAny_tests_nil ⟨H, I, h⟩
theorem pts_one {c : Expr} {t : TT} (h : PT X c t) : PTs X [c] t := fun pins s σ H Q I hw => wpAny_tests_one (h pins s σ H Q I hw)
end

theorem thnF {α : Type} {t : Sem α} {Q Q' : α → Shared → Prop} {M : Model} {A : Around} {E : Value → Shared → Prop} {s : Shared} (h : wpAny M A t Q (fun _ _ => False) s) (hQ : ∀ a s, Q a s → Q' a s) : wpAny M A t Q' E s := wpAny_mono h hQ fun _ _ z => False.elim z

/-- the loop of a list comprehension's block, the target of any form (codeAny_compLoop_tests asks a target that no tuple goes to; statement and proof follow it, PyProof/CompMap.lean:41-61, with the step letOwnedTupleGo kept) -/
theorem compLoop_any {prog : Program} {w : World} {A : Around} {R : Result → Shared → Prop} {s : Shared} {elt target iter : Expr} {ifs : List Expr} {scope : Scope} {pos : Pos} {it acc : Value} {env : Env} (I : Nat → Shared → Prop)
    (turn : ∀ n s, I n s → wpAny (model prog w) A (pyNext it) (fun r s₁ => match r with
      | none => R (.ok .next) s₁
      | some v => wpAny (model prog w) A (letOwnedTupleGo target it v) (fun _ s₁' => wpAny (model prog w) A (assign target env v) (fun _ s₂ =>
          wpAny (model prog w) A (forIn ifs true fun c r => if r = true then do let ok ← isTrue c env (eval c env); pure (ForInStep.yield ok) else pure (ForInStep.yield r)) (fun ok s₃ =>
            if ok = true then wpAny (model prog w) A (eval elt env) (fun x s₄ =>
              wpAny (model prog w) A (call (.builtin "list.append") [acc, x]) (fun _ s₅ => ∃ m, m < n ∧ I m s₅) (notedBy (model prog w) A env fun e s' => R (.error e) s') s₄) (notedBy (model prog w) A env fun e s' => R (.error e) s') s₃
            else ∃ m, m < n ∧ I m s₃) (notedBy (model prog w) A env fun e s' => R (.error e) s') s₂) (notedBy (model prog w) A env fun e s' => R (.error e) s') s₁') (notedBy (model prog w) A env fun e s' => R (.error e) s') s₁) (notedBy (model prog w) A env fun e s' => R (.error e) s') s)
    (n : Nat) (h : I n s) :
    codeAny (model prog w) A (.compLoop (.ListComp elt [⟨target, iter, ifs, 0⟩] scope pos) 0 it acc env) R s := by
  refine codeAny_loop rfl I (fun n s hI => ?_) n h
  show wpAny _ A ((compTurn (.ListComp elt [⟨target, iter, ifs, 0⟩] scope pos) 0 it acc env).onRaise (fun x => do noteFrame x env; theTreesLotGoes x)) _ _ s
  refine wpAny_noted ?_
  rw [compTurn_list]
  refine wpAny_bind (wpAny_standAt (wpAny_bind (wpAny_mono (turn n s hI) (fun r s₁ h₁ => ?_) fun _ _ h' => h')))
  cases r with
  | none => exact wpAny_pure h₁
  | some v =>
    refine wpAny_bind (wpAny_mono h₁ (fun _ s₁' h₁' => ?_) fun _ _ h' => h')
    refine wpAny_bind (wpAny_mono h₁' (fun _ s₂ h₂ => wpAny_bind (wpAny_mono h₂ (fun ok s₃ h₃ => ?_) fun _ _ h' => h')) fun _ _ h' => h')
    cases ok with
    | false => exact wpAny_pure ⟨rfl, h₃⟩
    | true =>
      exact wpAny_bind (wpAny_bind (wpAny_mono h₃ (fun x s₄ h₄ => wpAny_bind (wpAny_mono h₄ (fun _ s₅ h₅ => wpAny_pure (wpAny_pure ⟨rfl, h₅⟩)) fun _ _ h' => h')) fun _ _ h' => h'))

section
variable {X : Cx}
/-- [elt for target in iter if ..]: D the new list; W by the turn and a measure, Nx what a turn is to reach -/
def tLc (wi : TI) (g : TG) (tt : TT) (te : TE) (vs : List Nat) : TE := fun σ H Q => wi σ H fun J H1 => ∀ D, H1 D = none → ∃ W : Nat → Nat → Hp → Prop, (∃ m, W 0 m (upd H1 D (.lst []))) ∧ ∀ i m H, W i m H →
  (J.stop i H ∧ Q (.ref D) H) ∨ (J.go i H ∧ ∃ Nx : Hp → Prop, (∀ H', Nx H' → ∃ m', m' < m ∧ W (i + 1) m' H') ∧ ∀ x H', J.yld i H x H' → g x (wipe σ vs) H' fun σ2 H2 => wipe σ2 vs = wipe σ vs ∧ tt σ2 H2 fun b H3 =>
    if b = true then te σ2 H3 fun y H4 => ∃ acc, H4 D = some (.lst acc) ∧ acc.length < sizeLine ∧ Nx (upd H4 D (.lst (acc ++ [y]))) else Nx H3)
theorem lc_core {pins : List (Addr × Obj)} {s : Shared} {σ : St} {H : Hp} {Q : VK} {elt tg iter : Expr} {ifs : List Expr} {scope : Scope} {own : List (Str × Nat)} {pos pos' : Pos} {wi : TI} {g : TG} {tt : TT} {te : TE} {use : Option (Value → Sem Unit)} {Qf : Value → Shared → Prop}
    (hc : X.calm = true) (hN : X.N.Nodup) (I : Inv X pins σ H s) (hi : PI X tg iter wi) (ok : BlkOk X.N X.env.scope scope own)
    (hg : ∀ (s : Shared) (H : Hp) (C : Addr) (cl : List (Str × Addr)) (fp : List Addr), PG (X.blk s H scope (compEnvC scope cl C X.env) fp) tg g) (ht : ∀ (s : Shared) (H : Hp) (C : Addr) (cl : List (Str × Addr)) (fp : List Addr), PTs (X.blk s H scope (compEnvC scope cl C X.env) fp) ifs tt)
    (he : ∀ (s : Shared) (H : Hp) (C : Addr) (cl : List (Str × Addr)) (fp : List Addr), PE (X.blk s H scope (compEnvC scope cl C X.env) fp) elt te) (hs : ∀ x, foldedSetIterable iter X.env x = pure x)
    (h : tLc wi g tt te (own.map (·.2)) σ H Q)
    (hRR : ∀ D C s' m H', Inv X pins σ H' s' → Q (.ref D) H' → s'.heap.Ns C m → FpOk X pins H' C → compPost (model X.prog X.w) X.A X.xe use Qf (.ref D) C (.ok .next) s') :
    wpAny (model X.prog X.w) X.A (comprehension (.ListComp elt [⟨tg, iter, ifs, 0⟩] scope pos) scope X.env pos' (newList []) false (eval iter X.env) use) Qf X.xe s := by
  have hfree : ∀ y ∈ scope.names, y.2 = .free → ∃ c, X.env.cells.lookup y.1 = some c := fun y hy e => by
    rcases ok.free y hy e with k | k
    · exact I.ok.has _ (.inl k)
    · exact I.ok.has _ (.inr k)
  refine wpAny_comprehension_free (use := use) rfl hs (closure_ok hfree) ok.kind (fun y hy e => by rw [ok.uniq y hy, e])
    (thn (hi pins s σ H _ I h) fun xv s1 hx => thn hx fun itv s2 h2 => ?_)
  obtain ⟨it, fp, tn, J, H2, e, I2, T, st2, f2, q⟩ := h2
  subst e
  refine wpAny_newObj_type (newEnv_comp ?_) (by show 0 ≤ sizeLine; decide)
  generalize hD : s2.heap.objs.size = D
  have hDn : H2 D = none := I2.hok.fresh (Nat.le_of_eq hD)
  obtain ⟨W, ⟨m0, w0⟩, turn⟩ := q D hDn
  -- the new list
  generalize hs3 : ({ s2 with heap := s2.heap.push { cls := .type "list", data := .seq ([] : List Value).toArray } } : Shared) = s3
  have I3 : Inv X pins σ (upd H2 D (.lst [])) s3 := by
    rw [← hs3]
    refine I2.laid (t' := s2.toks) (fun b o e => Heap.get?_push_of_some _ e) (Nat.le_of_eq hD) ⟨Nat.zero_le _, [], 0, .nil, ?_⟩
    rw [← hD]
    exact Heap.get?_push_size _ rfl
  have h3 : s3.heap = s2.heap.push { cls := .type "list", data := .seq ([] : List Value).toArray } := by rw [← hs3]
  have sz : ∀ b ∈ fp, b < s2.heap.objs.size := fun b hb => by
    obtain ⟨o, e, _⟩ := T.obj _ _ st2 b hb
    exact Heap.lt_size e
  have f3 : ∀ b ∈ fp, FpOk X pins (upd H2 D (.lst [])) b ∧ b < s3.heap.objs.size := fun b hb => by
    have hlt := sz b hb
    refine ⟨⟨?_, (f2 b hb).2⟩, by rw [h3, Heap.size_push]; exact Nat.lt_succ_of_lt hlt⟩
    rw [upd_ne (by rw [← hD]; exact Nat.ne_of_lt hlt)]
    exact (f2 b hb).1
  have st3 : tn 0 s3.heap := T.keep _ _ _ st2 fun b _ o e => by rw [h3]; exact Heap.get?_push_of_some _ e
  have I4 := block_start I3 ok hN f3
  have pg := hg s3 (upd H2 D (.lst [])) s3.heap.objs.size (cellsFrom (s3.heap.objs.size + 1) scope.names (cloFrom X.env.cells scope.names [])) fp
  have pt := ht s3 (upd H2 D (.lst [])) s3.heap.objs.size (cellsFrom (s3.heap.objs.size + 1) scope.names (cloFrom X.env.cells scope.names [])) fp
  have pe := he s3 (upd H2 D (.lst [])) s3.heap.objs.size (cellsFrom (s3.heap.objs.size + 1) scope.names (cloFrom X.env.cells scope.names [])) fp
  show codeAny _ _ (.compStart (.ListComp elt [⟨tg, iter, ifs, 0⟩] scope pos) 0 (.ref it) (.ref D) (compEnvC scope (cellsFrom (s3.heap.objs.size + 1) scope.names (cloFrom X.env.cells scope.names [])) s3.heap.objs.size X.env)) (compPost (model X.prog X.w) X.A X.xe use Qf (.ref D) s3.heap.objs.size) { s3 with heap := pushCells (s3.heap.push { cls := .type "dict", data := .dict #[] }) scope.names }
  have nfp : ∀ b ∈ fp, (upd H2 D (.lst [])) b = none := fun b hb => (f3 b hb).1.1
  generalize hce : compEnvC scope (cellsFrom (s3.heap.objs.size + 1) scope.names (cloFrom X.env.cells scope.names [])) s3.heap.objs.size X.env = ce at I4 pg pt pe ⊢
  have cL : ce.locals = s3.heap.objs.size := by subst hce; rfl
  generalize hH3 : upd H2 D (.lst []) = H3 at I3 I4 pg pt pe w0 nfp f3
  generalize hs4 : ({ s3 with heap := pushCells (s3.heap.push { cls := .type "dict", data := .dict #[] }) scope.names } : Shared) = s4 at I4 ⊢
  have st4 : tn 0 s4.heap := T.keep _ _ _ st3 fun b _ o e => by rw [← hs4]; exact pushCells_keeps _ _ _ _ (Heap.get?_push_of_some _ e)
  have stat : ∀ {σ' : St} {H' : Hp} {s' : Shared}, Inv (X.blk s3 H3 scope ce fp) [] σ' H' s' → (∀ b ∈ fp, H' b = none) → ∀ b ∈ fp, FpOk (X.blk s3 H3 scope ce fp) [] H' b := fun {σ' H' s'} I' hn b hb =>
    ⟨hn b hb, (I'.ok.exf b hb).1, I'.ok.exfs b hb, .inl hb, fun x c e => (I'.ok.exf b hb).2 x c e, fun p hp => absurd (show p ∈ ([] : List (Addr × Obj)) ++ [] from hp) (by simp)⟩
  have loop : codeAny (model X.prog X.w) X.A (.compLoop (.ListComp elt [⟨tg, iter, ifs, 0⟩] scope pos) 0 (.ref it) (.ref D) ce) (compPost (model X.prog X.w) X.A X.xe use Qf (.ref D) s3.heap.objs.size) s4 := by
    refine compLoop_any (fun n s' => ∃ i H', Inv (X.blk s3 H3 scope ce fp) [] (wipe σ (own.map (·.2))) H' s' ∧ tn i s'.heap ∧ (∀ b ∈ fp, H' b = none) ∧ W i n H') ?_ m0 ⟨0, H3, I4, st4, nfp, w0⟩
    rintro n s5 ⟨i, H5, I5, st5, n5, w5⟩
    rcases turn i n H5 w5 with ⟨stop, qq⟩ | ⟨go, Nx, hNx, step⟩
    · have td := T.done (X.blk s3 H3 scope ce fp) rfl rfl rfl hc i [] s5 _ H5 (fun _ _ => False) I5 (stat I5 n5) st5 stop
      refine thnF td fun r s6 ⟨hr, I6⟩ => ?_
      subst hr
      -- back in the def's context
      have I7 : Inv X pins σ H5 s6 := I3.call' (ch := fp) I6.os I6.base I6.hok I6.bare fun b hb => ⟨(f3 b hb).1.2.2.2.1, (f3 b hb).1.2.1, (f3 b hb).1.2.2.2.2.1, (f3 b hb).1.2.2.2.2.2⟩
      have nC : H5 s3.heap.objs.size = none := by
        have z : H5 ce.locals = none := I6.free
        rw [cL] at z
        exact z
      obtain ⟨m, hn, _⟩ := I6.loc
      have hn : s6.heap.Ns ce.locals m := hn
      rw [cL] at hn
      exact hRR D s3.heap.objs.size s6 m H5 I7 qq hn (I3.fpOk (Nat.le_refl _) nC)
    · have ti := T.item (X.blk s3 H3 scope ce fp) rfl rfl rfl hc i [] s5 _ H5 (fun _ _ => False) I5 (stat I5 n5) st5 go
      refine thnF ti fun r s6 ⟨u, hr, h6⟩ => ?_
      subst hr
      refine thnF h6 fun _ s7 ⟨x, H7, I7, r7, y7, st7, n7⟩ => ?_
      have I7' := I7.pinned (stat I7 n7) (T.obj _ _ st7)
      refine thnF (pg _ s7 _ H7 x u _ I7' r7 (step x H7 y7)) fun _ s8 ⟨σ8, H8, I8, hw8, q8⟩ => ?_
      refine thnF (pt _ s8 σ8 H8 _ I8 q8) fun b s9 ⟨H9, I9, q9⟩ => ?_
      -- the turn's end
      have fin : ∀ {s' : Shared} {H' : Hp}, Inv (X.blk s3 H3 scope ce fp) ([] ++ pinsAt fp s7.heap) σ8 H' s' → Nx H' → ∃ m, m < n ∧ ∃ i H', Inv (X.blk s3 H3 scope ce fp) [] (wipe σ (own.map (·.2))) H' s' ∧ tn i s'.heap ∧ (∀ b ∈ fp, H' b = none) ∧ W i m H' := fun {s' H'} I' nx => by
        obtain ⟨m', hm, w'⟩ := hNx H' nx
        have pin' : ∀ b ∈ fp, ∀ o, s7.heap.get? b = some o → s'.heap.get? b = some o ∧ H' b = none := fun b hb o e =>
          let z := I'.pin (b, o) (List.mem_append_right _ (List.mem_append_right _ (mem_pinsAt hb e)))
          ⟨z.1, z.2.1⟩
        have hl : (wipe σ (own.map (·.2))).length = σ8.length := by rw [← hw8, wipe_length]
        refine ⟨m', hm, i + 1, H', (I'.unpinned (pins := [])).weak hl (fun j v e => ?_), T.keep _ _ _ st7 fun b hb o e => (pin' b hb o e).1, fun b hb => ?_, w'⟩
        · rw [← hw8] at e
          exact (wipe_some e).1
        · obtain ⟨o, e, _⟩ := T.obj _ _ st7 b hb
          exact (pin' b hb o e).2
      cases b with
      | false =>
        simp only [Bool.false_eq_true, if_false] at q9 ⊢
        exact fin I9 q9
      | true =>
        simp only [if_true] at q9 ⊢
        refine thnF (pe _ s9 σ8 H9 _ I9 q9) fun z s10 ⟨yv, H10, I10, r10, acc, hD10, hz10, nx⟩ => ?_
        exact app_ok (X := X.blk s3 H3 scope ce fp) I10 hD10 hz10 r10 fun s11 I11 => fin I11 nx
  exact codeAny_compStart_list loop (T.self X.A 0 _ _ _ st4 loop)
/-- as a value -/
theorem pe_lc {elt tg iter : Expr} {ifs : List Expr} {scope : Scope} {own : List (Str × Nat)} {pos : Pos} {wi : TI} {g : TG} {tt : TT} {te : TE} (hc : X.calm = true) (hN : X.N.Nodup) (hi : PI X tg iter wi) (ok : BlkOk X.N X.env.scope scope own)
    (hg : ∀ (s : Shared) (H : Hp) (C : Addr) (cl : List (Str × Addr)) (fp : List Addr), PG (X.blk s H scope (compEnvC scope cl C X.env) fp) tg g) (ht : ∀ (s : Shared) (H : Hp) (C : Addr) (cl : List (Str × Addr)) (fp : List Addr), PTs (X.blk s H scope (compEnvC scope cl C X.env) fp) ifs tt)
    (he : ∀ (s : Shared) (H : Hp) (C : Addr) (cl : List (Str × Addr)) (fp : List Addr), PE (X.blk s H scope (compEnvC scope cl C X.env) fp) elt te) (hs : ∀ x, foldedSetIterable iter X.env x = pure x := by intro _; rfl) :
    PE X (.ListComp elt [⟨tg, iter, ifs, 0⟩] scope pos) (tLc wi g tt te (own.map (·.2))) := by
  intro pins s σ H Q I h
  rw [eval_ListComp]
  refine lc_core hc hN I hi ok hg ht he hs h fun D C s' m H' I' q hn f => ⟨m, hn, fun h'' sb => ?_⟩
  obtain ⟨f0, f1, f2, f3, f4, f5⟩ := f
  exact ⟨.ref D, H', I'.turned (t' := s'.toks) (fun b o hb e => (sb.2 b hb).trans e) f0 f1 f3 f4 f5, rfl, q⟩
end

/-! ### the forms one uses -/
def blkC (N : List Str) (sc scope : Scope) (own : List (Str × Nat)) : Bool :=
  (match scope.kind with | .function => true | _ => false) && (scope.names.all fun y => decide (scope.names.lookup y.1 = some y.2)) && (own.all fun p => decide (N[p.2]? = some p.1)) &&
    (scope.names.all fun y => match y.2 with
      | .free => (match sc.names.lookup y.1 with | some .cell => true | some .free => true | _ => false)
      | .local => decide (y.1 ∈ own.map (·.1)) || decide (y.1 ∉ N)
      | .cell => decide (y.1 ∈ own.map (·.1)) || decide (y.1 ∉ N)
      | _ => true)
theorem blkOk_by {N : List Str} {sc scope : Scope} {own : List (Str × Nat)} (h : blkC N sc scope own = true) : BlkOk N sc scope own := by
  unfold blkC at h
  simp only [Bool.and_eq_true, List.all_eq_true, decide_eq_true_eq] at h
  obtain ⟨⟨⟨h1, h2⟩, h3⟩, h4⟩ := h
  refine ⟨?_, h2, h3, fun y hy e => ?_, fun y hy e => ?_⟩
  · split at h1
    · assumption
    · cases h1
  · have q := h4 y hy
    simp only [e] at q
    split at q <;> first | exact .inl (by assumption) | exact .inr (by assumption) | cases q
  · have q := h4 y hy
    rcases e with e | e <;> (simp only [e, Bool.or_eq_true, decide_eq_true_eq] at q; exact q)
end L2

namespace L2
open PySem PySem.Spec PyProof.Rows

section
variable {prog : Program} {w : World} {A : Around} {R : Result → Shared → Prop} {s : Shared} {elt t0 i0 t1 i1 : Expr} {ifs0 ifs1 : List Expr} {scope : Scope} {pos : Pos} {it acc : Value} {env : Env}
end

theorem wipe_out {σ : St} {i : Nat} : ∀ {vs : List Nat}, i ∉ vs → (wipe σ vs)[i]? = σ[i]?
  | [], _ => rfl
  | v :: vs, h => by
    have h1 : v ≠ i := fun e => h (by rw [e]; exact List.mem_cons_self)
    have h2 : i ∉ vs := fun m => h (List.mem_cons_of_mem _ m)
    unfold wipe
    rw [List.getElem?_set_ne h1]
    exact wipe_out h2
section
variable {X : Cx}
end
end L2

namespace L2
open PySem PySem.Spec PyProof.Rows

/-! ### lists of pairs as tables -/
section
variable {κ : Type} [DecidableEq κ]
def valV (kvs : List (κ × V)) (k : κ) : Option V := (kvs.find? fun kv => decide (kv.1 = k)).map (·.2)
/-- in its place, or at the end -/
def putK (kvs : List (κ × V)) (k : κ) (v : V) : List (κ × V) :=
  if (kvs.any fun kv => decide (kv.1 = k)) = true then kvs.map (fun kv => if kv.1 = k then (kv.1, v) else kv) else kvs ++ [(k, v)]
def dropK (kvs : List (κ × V)) (k : κ) : List (κ × V) := kvs.filter fun kv => decide (kv.1 ≠ k)

theorem valV_pos {p : κ × V} {r : List (κ × V)} {k : κ} (e : p.1 = k) : valV (p :: r) k = some p.2 := by simp [valV, List.find?_cons, e]
theorem valV_neg {p : κ × V} {r : List (κ × V)} {k : κ} (e : ¬ p.1 = k) : valV (p :: r) k = valV r k := by simp [valV, List.find?_cons, e]
theorem valV_any (k : κ) : ∀ kvs : List (κ × V), (kvs.any fun kv => decide (kv.1 = k)) = (valV kvs k).isSome
  | [] => rfl
  | p :: r => by
    rw [List.any_cons]
    by_cases e : p.1 = k
    · simp only [valV_pos e, decide_eq_true e, Bool.true_or, Option.isSome_some]
    · rw [valV_neg e, decide_eq_false e, Bool.false_or]; exact valV_any k r
theorem length_putK (kvs : List (κ × V)) (k : κ) (v : V) : (putK kvs k v).length ≤ kvs.length + 1 := by
  unfold putK
  split
  · rw [List.length_map]; omega
  · rw [List.length_append, List.length_cons, List.length_nil]; omega
theorem putK_new {kvs : List (κ × V)} {k : κ} (v : V) (h : valV kvs k = none) : putK kvs k v = kvs ++ [(k, v)] := by
  unfold putK
  rw [valV_any, h]
  exact if_neg (by decide)

theorem RelO.isSome_eq {o : Option V} {u : Option Value} (r : RelO o u) : o.isSome = u.isSome := by
  cases o with
  | none => cases u with
    | none => rfl
    | some _ => exact (show False from r).elim
  | some _ => cases u with
    | none => exact (show False from r).elim
    | some _ => rfl
theorem RelO.getD {o : Option V} {u : Option Value} {d : V} {d' : Value} (r : RelO o u) (rd : RelV d d') : RelV (o.getD d) (u.getD d') := by
  cases o with
  | none => cases u with
    | none => exact rd
    | some _ => exact (show False from r).elim
  | some _ => cases u with
    | none => exact (show False from r).elim
    | some _ => exact r

/-- raw tables of the same keys -/
theorem KV.val {kvs : List (κ × V)} {vs : List (κ × Value)} (r : KV kvs vs) (k : κ) : RelO (valV kvs k) (valueAt vs k) := by
  unfold KV at r
  induction r with
  | nil => exact True.intro
  | @cons p q ps qs h t ih =>
    obtain ⟨h1, h2⟩ := h
    by_cases e : p.1 = k
    · have e' : q.1 = k := h1.symm.trans e
      have b : valueAt (q :: qs) k = some q.2 := by simp [valueAt, List.find?_cons, e']
      rw [valV_pos e, b]; exact h2
    · have e' : ¬ q.1 = k := fun z => e (h1.trans z)
      have b : valueAt (q :: qs) k = valueAt qs k := by simp [valueAt, List.find?_cons, e']
      rw [valV_neg e, b]; exact ih
theorem KV.any {kvs : List (κ × V)} {vs : List (κ × Value)} (r : KV kvs vs) (k : κ) : (kvs.any fun kv => decide (kv.1 = k)) = vs.any fun kv => decide (kv.1 = k) := by
  unfold KV at r
  induction r with
  | nil => rfl
  | cons h t ih => rw [List.any_cons, List.any_cons, ih, h.1]
theorem KV.repl {kvs : List (κ × V)} {vs : List (κ × Value)} (r : KV kvs vs) (k : κ) {y : V} {u : Value} (ry : RelV y u) :
    KV (kvs.map fun kv => if kv.1 = k then (kv.1, y) else kv) (vs.map fun kv => if kv.1 = k then (kv.1, u) else kv) := by
  unfold KV at r ⊢
  induction r with
  | nil => exact .nil
  | @cons p q ps qs h t ih =>
    rw [List.map_cons, List.map_cons]
    refine .cons ?_ ih
    obtain ⟨h1, h2⟩ := h
    by_cases e : p.1 = k
    · rw [if_pos e, if_pos (h1.symm.trans e)]; exact ⟨h1, ry⟩
    · rw [if_neg e, if_neg (fun z => e (h1.trans z))]; exact ⟨h1, h2⟩
theorem KV.put {kvs : List (κ × V)} {vs : List (κ × Value)} (r : KV kvs vs) (k : κ) {y : V} {u : Value} (ry : RelV y u) : KV (putK kvs k y) (stored vs k u) := by
  unfold putK stored
  rw [r.any k]
  by_cases e : (vs.any fun kv => decide (kv.1 = k)) = true
  · rw [if_pos e, if_pos e]; exact r.repl k ry
  · rw [if_neg e, if_neg e]; exact Paired.snoc r ⟨rfl, ry⟩
theorem KV.drop {kvs : List (κ × V)} {vs : List (κ × Value)} (r : KV kvs vs) (k : κ) : KV (dropK kvs k) (without vs k) := by
  unfold KV at r ⊢
  unfold dropK without
  induction r with
  | nil => exact .nil
  | @cons p q ps qs h t ih =>
    obtain ⟨h1, h2⟩ := h
    rw [List.filter_cons, List.filter_cons]
    by_cases e : p.1 = k
    · have a : ¬ decide (p.1 ≠ k) = true := by simp [e]
      have b : ¬ decide (q.1 ≠ k) = true := by simp [h1.symm.trans e]
      rw [if_neg a, if_neg b]; exact ih
    · have e' : ¬ q.1 = k := fun z => e (h1.trans z)
      have a : decide (p.1 ≠ k) = true := by simp [e]
      have b : decide (q.1 ≠ k) = true := by simp [e']
      rw [if_pos a, if_pos b]; exact .cons ⟨h1, h2⟩ ih
theorem KV.keys {kvs : List (κ × V)} {vs : List (κ × Value)} (r : KV kvs vs) : kvs.map (·.1) = vs.map (·.1) := by
  unfold KV at r
  induction r with
  | nil => rfl
  | cons h t ih => rw [List.map_cons, List.map_cons, ih, h.1]
theorem KV.length {kvs : List (κ × V)} {vs : List (κ × Value)} (r : KV kvs vs) : kvs.length = vs.length := Paired.length r
end


/-! ### a tracked dict, its keys ints and texts or tuples of these -/
theorem kV_is {P : Program} {w : World} {k : Key} {u : Value} (r : RelV (kV k) u) : (mixKind P w).is k u = true := by
  cases k with
  | inl i => obtain ⟨t, e⟩ := (show ∃ t, u = Value.int i t from r); subst e; exact mixKind_int P w i t
  | inr x => obtain ⟨t, e⟩ := (show ∃ t, u = Value.str x t from r); subst e; exact mixKind_str P w x t
theorem items_are {P : Program} {w : World} : ∀ {ks : List Key} {us : List Value}, Vals (ks.map kV) us → ItemsAre (mixKind P w) ks us
  | [], _, r => by rw [List.map_nil] at r; cases r; exact .nil
  | k :: ks, _, r => by
    rw [List.map_cons] at r
    cases r with
    | cons h t => exact .cons (kV_is h) (items_are t)

/-- raw entries of a dict with tuple keys -/
abbrev KT (H : Hp) : List (List Key × V) → List (List Key × Addr × Value) → Prop := Paired fun p q => p.1 = q.1 ∧ H q.2.1 = some (.tup (p.1.map kV)) ∧ RelV p.2 q.2.2
theorem KT.val {H : Hp} {kvs : List (List Key × V)} {xs : List (List Key × Addr × Value)} (r : KT H kvs xs) (k : List Key) : RelO (valV kvs k) ((atKey xs k).map (·.2)) := by
  induction r with
  | nil => exact True.intro
  | @cons p q ps qs h t ih =>
    obtain ⟨h1, _, h2⟩ := h
    by_cases e : p.1 = k
    · have e' : q.1 = k := h1.symm.trans e
      have b : atKey (q :: qs) k = some q.2 := by simp [atKey, List.find?_cons, e']
      rw [valV_pos e, b]; exact h2
    · have e' : ¬ q.1 = k := fun z => e (h1.trans z)
      have b : atKey (q :: qs) k = atKey qs k := by simp [atKey, List.find?_cons, e']
      rw [valV_neg e, b]; exact ih
theorem KT.repl {H : Hp} {kvs : List (List Key × V)} {xs : List (List Key × Addr × Value)} (r : KT H kvs xs) (k : List Key) {y : V} {u : Value} (ry : RelV y u) :
    KT H (kvs.map fun kv => if kv.1 = k then (kv.1, y) else kv) (xs.map (putAt k u)) := by
  induction r with
  | nil => exact .nil
  | @cons p q ps qs h t ih =>
    rw [List.map_cons, List.map_cons]
    refine .cons ?_ ih
    obtain ⟨h1, h2, h3⟩ := h
    unfold putAt
    by_cases e : p.1 = k
    · rw [if_pos e, if_pos (h1.symm.trans e)]; exact ⟨h1, h2, ry⟩
    · rw [if_neg e, if_neg (fun z => e (h1.trans z))]; exact ⟨h1, h2, h3⟩
theorem KT.put {H : Hp} {kvs : List (List Key × V)} {xs : List (List Key × Addr × Value)} (r : KT H kvs xs) (k : List Key) {b : Addr} {y : V} {u : Value} (hb : H b = some (.tup (k.map kV))) (ry : RelV y u) :
    KT H (putK kvs k y) (storedH xs k b u) := by
  have e : (kvs.any fun kv => decide (kv.1 = k)) = (atKey xs k).isSome := by
    rw [valV_any, (r.val k).isSome_eq, Option.isSome_map]
  unfold putK storedH
  rw [e]
  by_cases q : (atKey xs k).isSome = true
  · rw [if_pos q, if_pos q]; exact r.repl k ry
  · rw [if_neg q, if_neg q]; exact Paired.snoc r ⟨rfl, hb, ry⟩
theorem KT.keeps {H H' : Hp} {kvs : List (List Key × V)} {xs : List (List Key × Addr × Value)} (r : KT H kvs xs) (ht : ∀ b ys, H b = some (.tup ys) → H' b = some (.tup ys)) : KT H' kvs xs :=
  Paired.mapP r fun _ _ z => ⟨z.1, ht _ _ z.2.1, z.2.2⟩

section
variable {P : Program} {w : World} {H : Hp} {h : Heap} {a : Addr}
theorem rd_of {u : HO} (ok : HOk P w H h) (e : Rd H a u) : ObjOk P w H h a u := e.ok ok
theorem dk_rd {kvs : List (Key × V)} (ok : HOk P w H h) (e : Rd H a (.dK kvs)) : kvs.length ≤ sizeLine ∧ (a == sysModules) = false ∧ ∃ vs, KV kvs vs ∧ h.DictOf (mixKind P w) a vs :=
  show ObjOk P w H h a (.dK kvs) from rd_of ok e
theorem dk_of {kvs : List (Key × V)} (ok : HOk P w H h) (e : H a = some (.dK kvs)) : kvs.length ≤ sizeLine ∧ (a == sysModules) = false ∧ ∃ vs, KV kvs vs ∧ h.DictOf (mixKind P w) a vs := dk_rd ok (.inl e)
/-- a tracked tuple of ints and texts is a key -/
theorem key_of {ks : List Key} (ok : HOk P w H h) (e : H a = some (.tup (ks.map kV))) : (tupleKind (mixKind P w)).is h ks a := by
  obtain ⟨_, its, r, o, h1, h2, n, h3⟩ := (show ObjOk P w H h a (.tup (ks.map kV)) from ok a _ e)
  exact ⟨o, its.toArray, n, h1, congrArg Prod.fst h2, h3, by simpa using items_are r⟩
theorem dt_rd {kvs : List (List Key × V)} (ok : HOk P w H h) (e : Rd H a (.dT kvs)) : kvs.length ≤ sizeLine ∧ (a == sysModules) = false ∧
    ∃ xs, KT H kvs xs ∧ h.DictOfH (tupleKind (mixKind P w)) a xs := by
  obtain ⟨z, y, xs, r, o, es, ep, h1, h2, h3, h4, h5⟩ := (show ObjOk P w H h a (.dT kvs) from rd_of ok e)
  refine ⟨z, y, xs, r, o, es, ep, h1, h2, h3, h4, fun x hx => ?_, h5⟩
  have all : ∀ {l : List (List Key × V)} {m : List (List Key × Addr × Value)}, KT H l m → ∀ x ∈ m, (tupleKind (mixKind P w)).is h x.1 x.2.1 := by
    intro l m q
    induction q with
    | nil => intro x hx; exact nomatch hx
    | @cons p q ps qs hq t ih =>
      intro x hx
      rcases List.mem_cons.mp hx with e | hx
      · subst e
        exact key_of ok (by rw [← hq.1]; exact hq.2.1)
      · exact ih x hx
  exact all r x hx
theorem dt_of {kvs : List (List Key × V)} (ok : HOk P w H h) (e : H a = some (.dT kvs)) : kvs.length ≤ sizeLine ∧ (a == sysModules) = false ∧
    ∃ xs, KT H kvs xs ∧ h.DictOfH (tupleKind (mixKind P w)) a xs := dt_rd ok (.inl e)
end

/-- what the dict at a holds at the key y -/
def DGet (H : Hp) (a : Addr) (y : V) (r : Option V) : Prop :=
  (∃ kvs k, Rd H a (.dK kvs) ∧ y = kV k ∧ r = valV kvs k) ∨ ∃ kvs k b, Rd H a (.dT kvs) ∧ y = .ref b ∧ H b = some (.tup (k.map kV)) ∧ r = valV kvs k
/-- the heap behind a[y] = v -/
def DPut (H : Hp) (a : Addr) (y v : V) (H' : Hp) : Prop :=
  (∃ kvs k, H a = some (.dK kvs) ∧ y = kV k ∧ kvs.length < sizeLine ∧ H' = upd H a (.dK (putK kvs k v))) ∨
  ∃ kvs k b, H a = some (.dT kvs) ∧ y = .ref b ∧ H b = some (.tup (k.map kV)) ∧ kvs.length < sizeLine ∧ H' = upd H a (.dT (putK kvs k v))
theorem DGet.k {H : Hp} {a : Addr} {kvs : List (Key × V)} {k : Key} (e : H a = some (.dK kvs)) : DGet H a (kV k) (valV kvs k) := .inl ⟨kvs, k, .inl e, rfl, rfl⟩
theorem DGet.t {H : Hp} {a b : Addr} {kvs : List (List Key × V)} {k : List Key} (e : H a = some (.dT kvs)) (eb : H b = some (.tup (k.map kV))) : DGet H a (.ref b) (valV kvs k) := .inr ⟨kvs, k, b, .inl e, rfl, eb, rfl⟩
theorem DPut.k {H : Hp} {a : Addr} {kvs : List (Key × V)} {k : Key} {v : V} (e : H a = some (.dK kvs)) (hl : kvs.length < sizeLine) : DPut H a (kV k) v (upd H a (.dK (putK kvs k v))) := .inl ⟨kvs, k, e, rfl, hl, rfl⟩
theorem DPut.t {H : Hp} {a b : Addr} {kvs : List (List Key × V)} {k : List Key} {v : V} (e : H a = some (.dT kvs)) (eb : H b = some (.tup (k.map kV))) (hl : kvs.length < sizeLine) :
    DPut H a (.ref b) v (upd H a (.dT (putK kvs k v))) := .inr ⟨kvs, k, b, e, rfl, eb, hl, rfl⟩


section
variable {X : Cx} {pins : List (Addr × Obj)} {σ : St} {H : Hp} {s : Shared} {a : Addr} {y v : V} {u r : Value} {o : Option V} {A : Around} {E : Value → Shared → Prop}

theorem Inv.big (I : Inv X pins σ H s) : sysModules < s.heap.objs.size := by
  have h : mainGlobals < s.heap.objs.size := (I.mod.glob.keeps I.bk).lt
  exact Nat.lt_trans (by decide) h

/-- d[y], there -/
theorem d_getItem {Q : Value → Shared → Prop} (hu : A.units + 1 < cLine) (I : Inv X pins σ H s) (g : DGet H a y (some v)) (ry : RelV y u) (h : ∀ w' s', Inv X pins σ H s' → RelV v w' → Q w' s') :
    wpAny (model X.prog X.w) A (getItem (.ref a) u) Q E s := by
  rcases g with ⟨kvs, k, e, ey, l⟩ | ⟨kvs, k, b, e, ey, eb, l⟩
  · subst ey
    obtain ⟨z, hd, vs, rel, dd⟩ := dk_rd I.hok e
    obtain ⟨w', hw, rw'⟩ := RelO.some_of (v := v) (o := valueAt vs k) (by rw [l]; exact rel.val k)
    exact wpAny_getItem_of (kV_is ry) dd.mapOf hw (h w' _ (I.tok _) rw')
  · subst ey
    cases (show u = Value.ref b from ry)
    obtain ⟨z, hd, xs, rel, dd⟩ := dt_rd I.hok e
    obtain ⟨w', hw, rw'⟩ := RelO.some_of (v := v) (o := (atKey xs k).map (·.2)) (by rw [l]; exact rel.val k)
    obtain ⟨p, hp, hp2⟩ := Option.map_eq_some_iff.mp hw
    refine wpAny_getItem_heap (tupleKind_room_in1 hu) (key_of I.hok eb) dd hp ?_
    rw [hp2]
    exact h w' _ (I.tok _) rw'
/-- a dict's object is replaced -/
theorem d_write {h' : Heap} {t' : Nat} {ob : HO} (I : Inv X pins σ H s) (mu : Mut (H a)) (hs : Heap.SameBut a s.heap h') (he : ∃ q, h'.get? a = some q) (new : ObjOk X.prog X.w (upd H a ob) h' a ob) :
    Inv X pins σ (upd H a ob) { s with heap := h', toks := t' } :=
  I.write (x := a) (e := a) mu (.inl rfl) (fun b q hb z => (hs.2 b hb).trans z) he new
theorem dk_new {P : Program} {w : World} {H' : Hp} {h' : Heap} {kvs : List (Key × V)} {vs : List (Key × Value)} (z : kvs.length ≤ sizeLine) (hd : (a == sysModules) = false) (rel : KV kvs vs) (dd : h'.DictOf (mixKind P w) a vs) :
    ObjOk P w H' h' a (.dK kvs) := ⟨z, hd, vs, rel, dd⟩
/-- d[y] = v -/
theorem d_setItem {H' : Hp} {Q : Unit → Shared → Prop} (hu : A.units + 1 < cLine) (I : Inv X pins σ H s) (g : DPut H a y v H') (ry : RelV y u) (rv : RelV v r) (h : ∀ s', Inv X pins σ H' s' → Q () s') :
    wpAny (model X.prog X.w) A (setItem (.ref a) u r) Q E s := by
  rcases g with ⟨kvs, k, e, ey, l, eH⟩ | ⟨kvs, k, b, e, ey, eb, l, eH⟩
  · subst ey eH
    obtain ⟨z, hd, vs, rel, dd⟩ := dk_of I.hok e
    have hz : vs.length ≤ sizeLine := by rw [← rel.length]; exact z
    have hl : (putK kvs k v).length ≤ sizeLine := by have := length_putK kvs k v; omega
    refine wpAny_setItem_pairs (hsz := hz) (kV_is ry) dd fun h' dd' hs => h _ ?_
    have he : ∃ q, h'.get? a = some q := let ⟨q, _, _, hq, _⟩ := dd'; ⟨q, hq⟩
    exact d_write I (by rw [e]; exact True.intro) hs he (dk_new hl hd (rel.put k rv) dd')
  · subst ey eH
    cases (show u = Value.ref b from ry)
    obtain ⟨z, hd, xs, rel, dd⟩ := dt_of I.hok e
    have hz : xs.length ≤ sizeLine := by rw [← Paired.length rel]; exact z
    have hl : (putK kvs k v).length ≤ sizeLine := by have := length_putK kvs k v; omega
    refine wpAny_setItem_heap (hsz := hz) (tupleKind_room_in1 hu) (key_of I.hok eb) dd fun h' dd' hs => h _ ?_
    obtain ⟨q, es, ep, hq, h2, h3, h4, _, h5⟩ := dd'
    refine d_write I (by rw [e]; exact True.intro) hs ⟨q, hq⟩ ⟨hl, hd, _, (rel.put k eb rv).keeps fun c ys ec => ?_, q, es, ep, hq, h2, h3, h4, h5⟩
    rw [upd_ne (ne_of ec e (fun z => nomatch z))]
    exact ec
end

section
variable {X : Cx} {pins : List (Addr × Obj)} {σ : St} {H : Hp} {s : Shared} {a : Addr} {kvs : List (Key × V)} {k : Key} {u : Value} {A : Around} {E : Value → Shared → Prop}
/-- len(d) -/
theorem d_len {Q : Value → Shared → Prop} (I : Inv X pins σ H s) (e : Rd H a (.dK kvs)) (h : ∀ t s', Inv X pins σ H s' → Q (.int kvs.length t) s') : wpAny (model X.prog X.w) A (call (.builtin "len") [.ref a]) Q E s := by
  obtain ⟨z, hd, vs, rel, dd⟩ := dk_rd I.hok e
  refine call_len_dict hd dd (by rw [← rel.length]; rw [sizeLine_eq] at z; omega) ?_
  rw [← rel.length]
  exact h _ _ (I.tok _)
end


/-! ### readings and rules -/
/-- the element of a subscription, not a slice -/
def NoSl (i : Expr) : Prop := ∀ ov iv, subscripted i false ov iv = operate [ov, iv] (getItem ov iv)
theorem subD_of {prog : Program} {w : World} {A : Around} {E : Value → Shared → Prop} {s : Shared} {env : Env} {value slice : Expr} {pos : Pos} {T id : String} {Q : Value → Shared → Prop}
    (hl : typeLookup (.type T) "__getitem__" = pure (some (.builtin id))) (hs : NoSl slice)
    (h : wpAny (model prog w) A (eval value env) (fun o s₁ => wpAny (model prog w) A (eval slice env) (fun i s₂ => s₂.TypeIs o T ∧ wpAny (model prog w) A (getItem o i) Q E s₂) E s₁) E s) :
    wpAny (model prog w) A (eval (.Subscript value slice pos) env) Q E s := by
  refine Subscript_ (wpAny_mono h (fun o s₁ h₁ => wpAny_mono h₁ (fun i s₂ h₂ => ?_) fun _ _ x => x) fun _ _ x => x)
  obtain ⟨hT, h₂⟩ := h₂
  unfold subscriptTail
  refine wpAny_bind ?_
  rw [getitemInPython_of_ne hT.not_modules]
  refine wpAny_bind (wpAny_specialOf hT hl ?_)
  have fin : wpAny (model prog w) A (subscripted slice false o i) (fun r s₃ => wpAny (model prog w) A (letTemporaryGo value o r >>= fun _ => pure r) Q E s₃) E s₂ := by
    rw [hs o i]
    exact wpAny_operating (wpAny_mono h₂ (fun r s₃ h₃ => wpAny_bind (wpAny_letTemporaryGo (wpAny_pure h₃))) fun _ _ x => x)
  first
    | exact wpAny_pure (wpAny_bind fin)
    | exact wpAny_bind (wpAny_pure (wpAny_bind fin))
    | exact wpAny_bind fin

theorem dict_typeIs {X : Cx} {pins : List (Addr × Obj)} {σ : St} {H : Hp} {s : Shared} {a : Addr} {y : V} {o : Option V} (I : Inv X pins σ H s) (g : DGet H a y o) : s.TypeIs (.ref a) "dict" := by
  rcases g with ⟨kvs, k, e, _, _⟩ | ⟨kvs, k, b, e, _, _, _⟩
  · obtain ⟨_, _, vs, _, dd⟩ := dk_rd I.hok e
    exact dd.typeIs
  · obtain ⟨_, _, xs, _, dd⟩ := dt_rd I.hok e
    exact dd.typeIs
/-- d[y] -/
def tDGet (td ty : TE) : TE := fun σ H Q => td σ H fun x H1 => ty σ H1 fun y H2 => ∃ a v, x = .ref a ∧ DGet H2 a y (some v) ∧ Q v H2
/-- d[y] = v -/
def sDPut (td ty tv : TE) : TS := fun D σ H => tv σ H fun v H1 => td σ H1 fun x H2 => ty σ H2 fun y H3 => ∃ a H4, x = .ref a ∧ DPut H3 a y v H4 ∧ D.nx σ H4
section
variable {X : Cx} {o i e value : Expr} {pos pos' tpos : Pos} {td ty tv : TE}
theorem pe_dget (hu : X.A.units + 1 < cLine) (ho : PE X o td) (hi : PE X i ty) (hs : NoSl i) : PE X (.Subscript o i pos) (tDGet td ty) := by
  intro pins s σ H Q I h
  refine subD_of PySem.F.slot_dict_getitem.lookup hs (thn (ho pins s σ H _ I h) fun u s1 ⟨x, H1, I1, rx, q1⟩ => thn (hi pins s1 σ H1 _ I1 q1) fun iv s2 ⟨y, H2, I2, ry, a, v, ex, g, q2⟩ => ?_)
  subst ex
  obtain rfl : u = Value.ref a := rx
  exact ⟨dict_typeIs I2 g, d_getItem hu I2 g ry fun w' s3 I3 rw' => ⟨v, H2, I3, rw', q2⟩⟩
theorem ps_dput (hu : X.A.units + 1 < cLine) (ho : PE X o td) (hi : PE X i ty) (hv : PE X value tv) (hs : swapsWith value (some (.Subscript o i pos')) pos.line X.env = pure false) :
    PS X (.Assign [.Subscript o i pos'] value pos) (sDPut td ty tv) := by
  intro pins s σ H D I h
  refine wpAny_Assign_Subscript (thn (hv pins s σ H _ I h) fun r s1 ⟨v, H1, I1, rv, q1⟩ => thn (ho pins s1 σ H1 _ I1 q1) fun u s2 ⟨x, H2, I2, rx, q2⟩ => thn (hi pins s2 σ H2 _ I2 q2) fun iv s3 ⟨y, H3, I3, ry, a, H4, ex, g, q3⟩ => ?_) hs
  subst ex
  obtain rfl : u = Value.ref a := rx
  exact d_setItem hu I3 g ry rv fun s4 I4 => ⟨σ, H4, I4, q3⟩
end


/-! ### displays -/
theorem dk_empty {P : Program} {w : World} {H : Hp} (h : Heap) (hb : sysModules < h.objs.size) : ObjOk P w H (h.push { cls := .type "dict", data := .dict #[] }) h.objs.size (.dK []) :=
  ⟨Nat.zero_le _, beq_eq_false_iff_ne.mpr (Ne.symm (Nat.ne_of_lt hb)), [], .nil, Heap.DictOf.new h⟩
/-- {}, to be a dict of the kind that is wanted -/
def tDNewK : TE := fun _ H Q => ∀ p, H p = none → Q (.ref p) (upd H p (.dK []))
section
variable {X : Cx} {pos : Pos}
theorem pe_dnewK : PE X (.Dict [] [] pos) tDNewK := fun pins s σ H Q I h =>
  wpAny_Dict_empty ⟨.ref s.heap.objs.size, _, I.laid (a := s.heap.objs.size) (o := .dK []) (t' := s.toks) (fun _ _ q => Heap.get?_push_of_some _ q) (Nat.le_refl _) (dk_empty s.heap I.big), rfl, h _ (I.hok.fresh (Nat.le_refl _))⟩
end

/-! ### methods -/
/-- a method call o.m(e) of a built-in, with one argument: what must be seen of the text -/
structure M1 (X : Cx) (o : Expr) (m : Str) (apos : Pos) (e : Expr) (cpos : Pos) : Prop where
  base : attributeBase o m X.env (eval o X.env) = eval o X.env
  few : ((backTo cpos (starEach [e] X.env)).all (fun x => !x.1) && (backToKw cpos (keywordEach [] X.env)).all (fun x => x.1.isSome)
    && decide (([e] : List Expr).length + ([] : List Keyword).length + (if ([] : List Keyword).isEmpty then 0 else 1) < 30)) = true
  line : (apos.endLine == cpos.line) = true
  trees : backTo cpos (starEach [e] X.env) = [(false, eval e X.env)]
structure M2 (X : Cx) (o : Expr) (m : Str) (apos : Pos) (e f : Expr) (cpos : Pos) : Prop where
  base : attributeBase o m X.env (eval o X.env) = eval o X.env
  few : ((backTo cpos (starEach [e, f] X.env)).all (fun x => !x.1) && (backToKw cpos (keywordEach [] X.env)).all (fun x => x.1.isSome)
    && decide (([e, f] : List Expr).length + ([] : List Keyword).length + (if ([] : List Keyword).isEmpty then 0 else 1) < 30)) = true
  line : (apos.endLine == cpos.line) = true
  trees : backTo cpos (starEach [e, f] X.env) = [(false, eval e X.env), (false, eval f X.env)]

section
variable {X : Cx} {pins : List (Addr × Obj)} {σ : St} {H : Hp} {s : Shared} {a : Addr} {y d : V} {u r : Value} {o : Option V} {A : Around} {E : Value → Shared → Prop}
end

section
variable {X : Cx} {o e f : Expr} {apos cpos : Pos} {td ty tx : TE}
end

/-! ### dict(d): a copy -/
section
variable {X : Cx} {pins : List (Addr × Obj)} {σ : St} {H : Hp} {s : Shared} {a : Addr} {kvs : List (Key × V)} {A : Around} {E : Value → Shared → Prop}
end


section
variable {X : Cx} {pins : List (Addr × Obj)} {σ : St} {H : Hp} {s : Shared} {a : Addr} {y : V} {u : Value} {A : Around} {E : Value → Shared → Prop}
end
end L2

namespace L2
open PySem PySem.Spec PyProof.Rows

section
variable {prog : Program} {w : World} {A : Around} {E : Value → Shared → Prop}
end

section
variable {X : Cx}
end
end L2

namespace L2
open PySem PySem.Spec PyProof.Rows

section
variable {X : Cx} {pins : List (Addr × Obj)} {σ : St} {H : Hp} {s : Shared} {h' : Heap}
/-- .. and one new object is laid -/
theorem Inv.turnedNew {t' : Nat} {ch : List Addr} {T : Addr} {ob : HO} (I : Inv X pins σ H s) (k : ∀ b o, b ∉ ch → s.heap.get? b = some o → h'.get? b = some o) (hf : ∀ b ∈ ch, FpOk X pins H b) (hT : s.heap.objs.size ≤ T)
    (new : ObjOk X.prog X.w (upd H T ob) h' T ob) : Inv X pins σ (upd H T ob) { s with heap := h', toks := t' } := by
  have hn : H T = none := I.hok.fresh hT
  have nit : ∀ b u, H b = some u → b ∉ ch := fun b u e z => by
    have q := (hf b z).1
    rw [q] at e; cases e
  refine I.step (g' := s.gens) (d' := s.drawn) (ch := ch) (fun b hb => ⟨(hf b hb).2.2.2.1, (hf b hb).2.1, (hf b hb).2.2.2.2.1, (hf b hb).2.2.2.2.2⟩) (fun b o _ _ hc e _ => k b o hc e) (fun b o _ _ hc e _ => ⟨o.slots, k b o hc e⟩)
    (fun b o _ e n => ?_) (fun b o hc e => ⟨o, k b o hc e⟩) (fun b xs e => ?_) (fun b o u e => ?_) (fun b ps e => ⟨#[], ?_⟩) (fun m hm => ?_) (fun b u e => ?_) I.bare
  · rw [upd_ne (Nat.ne_of_lt (Nat.lt_of_lt_of_le (Heap.lt_size e) hT))]; exact n
  · rw [upd_ne (ne_of_none e hn)]; exact e
  · rw [upd_ne (ne_of_none e hn)]; exact e
  · rw [upd_ne (ne_of_none e hn), e]; simp
  · obtain ⟨o, es, ep, ho, r⟩ := hm
    exact ⟨o, es, ep, k _ o (fun z => (hf _ z).2.1 rfl) ho, r⟩
  · by_cases hb : b = T
    · subst hb
      rw [upd_same] at e
      cases e
      exact new
    · rw [upd_ne hb] at e
      refine (I.hok b u e).stay (fun c v hc q => k c v ?_ q) (fun c q => by rw [upd_ne (ne_of_none q hn)]; exact q) fun c xs q => by rw [upd_ne (ne_of_none q hn)]; exact q
      rcases hc with z | z
      · rw [z]; exact nit b u e
      · exact nit c _ z

/-! ### locking a thing while a statement runs -/
theorem Inv.lock {d : Addr} {u : HO} (I : Inv X pins σ H s) (h : H d = some u) (mu : Mut (some u)) : ∃ od, Inv X pins σ (upd H d (.frz od u)) s := by
  have x := I.hok d u h
  have ex : ∃ od, s.heap.get? d = some od := by
    cases u with
    | lst xs => obtain ⟨_, _, _, _, e⟩ := x; exact ⟨_, e⟩
    | dK kvs => obtain ⟨_, _, _, _, o, _, _, e, _⟩ := x; exact ⟨o, e⟩
    | dT kvs => obtain ⟨_, _, _, _, o, _, _, e, _⟩ := x; exact ⟨o, e⟩
    | set S n => obtain ⟨o, _, _, _, e, _⟩ := x; exact ⟨o, e⟩
    | ins C dx fs => obtain ⟨_, _, _, e, _⟩ := x; exact ⟨_, e⟩
    | ext φ => obtain ⟨_, ⟨_, e⟩, _⟩ := x; exact ⟨_, e⟩
    | _ => exact False.elim mu
  obtain ⟨od, e⟩ := ex
  have new : ObjOk X.prog X.w (upd H d (.frz od u)) s.heap d (.frz od u) := by
    refine ⟨e, x.stay (fun b v _ q => q) (fun b q => ?_) fun b xs q => ?_⟩
    · rw [upd_ne (fun z => by rw [z, h] at q; cases q; exact mu)]; exact q
    · rw [upd_ne (fun z => by rw [z, h] at q; cases q; exact mu)]; exact q
  exact ⟨od, I.write (x := d) (e := d) (t' := s.toks) (h' := s.heap) (by rw [h]; exact mu) (.inl rfl) (fun b v _ q => q) ⟨od, e⟩ new⟩
end
section
variable {X : Cx}
/-! ### one iterator just laid -/
theorem pi_one {tg : Expr} {pins : List (Addr × Obj)} {σ : St} {H : Hp} {s : Shared} {R : It → Hp → Prop} {J : It} {tn : Nat → Heap → Prop} {tk : Nat} (I : Inv X pins σ H s) (o : Obj)
    (T : Turn X.prog X.w X.K tg J [s.heap.objs.size] s.heap.objs.size tn) (st : tn 0 (s.heap.push o)) (q : R J H) : PIE X pins σ tg R (.ref s.heap.objs.size) { s with heap := s.heap.push o, toks := tk } := by
  refine ⟨s.heap.objs.size, [s.heap.objs.size], tn, J, H, rfl, I.kept fun b ob e => Heap.get?_push_of_some _ e, T, st, fun b hb => ?_, q⟩
  have e : b = s.heap.objs.size := by simpa using hb
  subst e
  exact I.fpOk (Nat.le_refl _) (I.hok.fresh (Nat.le_refl _))
end

/-! ### range with a step -/
/-- range(i, j, c): small bounds, n items -/
def RgC (i j c : Int) (n : Nat) : Prop := c ≠ 0 ∧ c.natAbs < 1073741824 ∧ Builtin.Range.small i j c = true ∧ Builtin.Range.rangeSize i j c = n
theorem RgC.neg {i j : Int} (ha : -(2 ^ 62) ≤ i) (ha' : i < 2 ^ 62) (hb : -(2 ^ 62) ≤ j) (hb' : j < 2 ^ 62) : RgC i j (-1) (i - j).toNat :=
  ⟨by decide, by decide, PySem.W.small_down ha ha' hb hb', PySem.W.rangeSize_downNat i j⟩
section
variable {X : Cx} {tg : Expr}
end
/-! ### reversed(list) -/
section
variable {X : Cx} {tg : Expr}
end

/-! ### a str -/
def Its (x : Str) : It := ⟨fun i _ => i < x.cps.size, fun i H v H' => H' = H ∧ ∃ c, x.cps[i]? = some c ∧ v = .str ⟨#[c]⟩, fun i _ => x.cps.size ≤ i⟩
/-! ### a dict's keys: any dict's entries -/
section
variable {prog : Program} {w : World} {A : Around} {E : Value → Shared → Prop} {s : Shared}
theorem iter_keys {d : Addr} {o : Obj} {es : Array DictEntry} {ep : Nat} {Q : Value → Shared → Prop} (hd : (d == sysModules) = false) (ho : s.heap.get? d = some o) (hc : o.ExactDict) (hdat : o.data = .dict es ep)
    (hQ : Q (.ref s.heap.objs.size) { s with heap := s.heap.push { cls := .type "dict_keyiterator", data := .fields #[.ref d, .int 0 0, .int es.size 0, .int ep 0] } }) :
    wpAny (model prog w) A (pyIter (.ref d)) Q E s := by
  have hT : s.TypeIs (.ref d) "dict" := ⟨o, ho, hc.1⟩
  refine wpAny_pyIter_slot hT F.slot_dict_iter (wpAny_call_entry F.slot_dict_iter hT F.entry_dict_iter ?_ (F.args_dict_iter_1 _))
  unfold Builtin.«dict.__iter__»
  refine wpAny_bind ?_
  unfold Builtin.Dict.dictSlotNone
  refine wpAny_bind (wpAny_notOrdered_dict hT ?_)
  show wpAny _ _ (pure (Value.ref d)) _ _ s
  refine wpAny_pure ?_
  show wpAny _ _ (Builtin.Dict.showsAll d >>= _) _ _ s
  unfold Builtin.Dict.showsAll
  rw [if_neg (by rw [hd]; exact Bool.false_ne_true)]
  refine wpAny_bind (wpAny_pure ?_)
  refine wpAny_bind (wpAny_dictEntries ho hdat ?_)
  refine wpAny_bind (wpAny_dictEpoch ho hdat ?_)
  refine wpAny_bind (wpAny_newObj_type (wpAny_pure ⟨_, rfl, "dict_keyiterator", _, ⟨_, Heap.get?_push_size _ rfl, rfl⟩, F.slot_dict_keyiterator_next.lookup, ?_⟩))
  simpa [rawInt] using hQ
theorem next_key_item {it d : Addr} {i n ep : Nat} {od : Obj} {es : Array DictEntry} {en : DictEntry} {Q : Option Value → Shared → Prop} (hit : s.heap.IsKeyIter it d i n ep) (hod : s.heap.get? d = some od) (hdd : od.data = .dict es ep)
    (hsz : es.size = n) (hx : es[i]? = some en) (hQ : ∀ h', h'.IsKeyIter it d (i + 1) n ep → Heap.SameBut it s.heap h' → Q (some en.key) { s with heap := h' }) : wpAny (model prog w) A (pyNext (.ref it)) Q E s := by
  obtain ⟨o, ho, hc, hd⟩ := id hit
  unfold pyNext
  refine wpAny_bind (wpAny_attempt (wpAny_callSpecial?_slot (name := Str.ofString "__next__") hit.typeIs F.slot_dict_keyiterator_next
    (wpAny_call_entry F.slot_dict_keyiterator_next hit.typeIs F.entry_dict_keyiterator_next ?_ (F.args_dict_keyiterator_next_1 _))))
  refine wpAny_bind (wpAny_pure ?_)
  refine wpAny_bind ?_
  refine wpAny_bind ?_
  first | refine wpAny_bind (wpAny_typeNameOfWhole_keyiter hit.typeIs (wpAny_pure ?_)) | refine wpAny_bind (wpAny_typeNameOf_keyiter hit.typeIs (wpAny_pure ?_))
  refine wpAny_bind (wpAny_fieldsOf ho hd ?_)
  have hown : Builtin.Dict_items.ownsTuple "dict_keyiterator" = false := by decide
  simp only [hown, Bool.false_eq_true, if_false]
  show wpAny _ _ (if (Value.ref d == Value.none) = true then _ else _) _ _ s
  rw [if_neg (show ¬ ((Value.ref d == Value.none) = true) from Bool.false_ne_true)]
  refine wpAny_bind (wpAny_pure ?_)
  refine wpAny_bind (wpAny_dictEntries hod hdd ?_)
  rw [if_neg (by rw [hsz]; simp)]
  refine wpAny_bind (wpAny_pure ?_)
  refine wpAny_bind (wpAny_dictEpoch hod hdd ?_)
  rw [if_neg (by simp)]
  refine wpAny_pure ?_
  obtain ⟨hlt', hen⟩ := Array.getElem?_eq_some_iff.mp hx
  simp only [show ¬ ((i : Int) < 0) from by omega, if_false, Int.toNat_natCast, Array.getElem?_eq_getElem hlt']
  refine wpAny_bind ?_
  first | refine wpAny_bind (wpAny_typeNameOfWhole_keyiter hit.typeIs (wpAny_pure ?_)) | refine wpAny_bind (wpAny_typeNameOf_keyiter hit.typeIs (wpAny_pure ?_))
  refine wpAny_bind (wpAny_isOneOf_keyiter hit.typeIs ?_)
  show wpAny _ _ (setField (.ref it) 1 (rawInt ((i : Int) + 1)) >>= _) _ _ s
  refine wpAny_bind (wpAny_setField ho hd (by simp) ?_)
  have hit' : (s.heap.update it (Obj.mapFields (·.setIfInBounds 1 (rawInt ((i : Int) + 1))))).IsKeyIter it d (i + 1) n ep :=
    ⟨_, Heap.get?_update_self _ ho (Obj.isFreed_of_fields (Obj.data_mapFields hd _)), (Obj.cls_mapFields ..).trans hc, by rw [Obj.data_mapFields hd]; simp [rawInt]⟩
  refine wpAny_bind (wpAny_holding ?_)
  refine wpAny_bind (wpAny_isOneOf_keyiter (s := { s with heap := s.heap.update it (Obj.mapFields (·.setIfInBounds 1 (rawInt ((i : Int) + 1)))) }) hit'.typeIs ?_)
  show wpAny _ _ (pure es[i].key) _ _ _
  rw [hen]
  exact wpAny_pure (wpAny_pure ⟨_, rfl, wpAny_pure (hQ _ hit' (Heap.SameBut.update ..))⟩)
theorem next_key_end {it d : Addr} {i n ep : Nat} {od : Obj} {es : Array DictEntry} {Q : Option Value → Shared → Prop} (hh : A.handled = none) (hit : s.heap.IsKeyIter it d i n ep) (hod : s.heap.get? d = some od) (hdd : od.data = .dict es ep)
    (hsz : es.size = n) (hge : n ≤ i) (hQ : ∀ h', Heap.ExtBut it s.heap h' → Q none { s with heap := h' }) : wpAny (model prog w) A (pyNext (.ref it)) Q E s := by
  obtain ⟨o, ho, hc, hd⟩ := id hit
  unfold pyNext
  refine wpAny_bind (wpAny_attempt (wpAny_callSpecial?_slot (name := Str.ofString "__next__") hit.typeIs F.slot_dict_keyiterator_next
    (wpAny_call_entry F.slot_dict_keyiterator_next hit.typeIs F.entry_dict_keyiterator_next ?_ (F.args_dict_keyiterator_next_1 _))))
  refine wpAny_bind (wpAny_pure ?_)
  refine wpAny_bind ?_
  refine wpAny_bind ?_
  first | refine wpAny_bind (wpAny_typeNameOfWhole_keyiter hit.typeIs (wpAny_pure ?_)) | refine wpAny_bind (wpAny_typeNameOf_keyiter hit.typeIs (wpAny_pure ?_))
  refine wpAny_bind (wpAny_fieldsOf ho hd ?_)
  have hown : Builtin.Dict_items.ownsTuple "dict_keyiterator" = false := by decide
  simp only [hown, Bool.false_eq_true, if_false]
  show wpAny _ _ (if (Value.ref d == Value.none) = true then _ else _) _ _ s
  rw [if_neg (show ¬ ((Value.ref d == Value.none) = true) from Bool.false_ne_true)]
  refine wpAny_bind (wpAny_pure ?_)
  refine wpAny_bind (wpAny_dictEntries hod hdd ?_)
  rw [if_neg (by rw [hsz]; simp)]
  refine wpAny_bind (wpAny_pure ?_)
  refine wpAny_bind (wpAny_dictEpoch hod hdd ?_)
  rw [if_neg (by simp)]
  refine wpAny_pure ?_
  have hge' : es.size ≤ i := by rw [hsz]; exact hge
  simp only [show ¬ ((i : Int) < 0) from by omega, if_false, Int.toNat_natCast, Array.getElem?_eq_none hge']
  refine wpAny_bind ?_
  first | refine wpAny_bind (wpAny_typeNameOfWhole_keyiter hit.typeIs (wpAny_pure ?_)) | refine wpAny_bind (wpAny_typeNameOf_keyiter hit.typeIs (wpAny_pure ?_))
  show wpAny _ _ (setField (.ref it) 0 .none >>= _) _ _ s
  refine wpAny_bind (wpAny_setField ho hd (by simp) ?_)
  show wpAny _ _ (newExc (.type "StopIteration") [] >>= _) _ _ _
  refine wpAny_bind ?_
  simp only [newExc, newTuple]
  refine wpAny_bind (wpAny_newObj_type ?_ (by size_fits))
  refine wpAny_bind (m := firstArgMember _ _) (wpAny_of_eq (a := Value.none) (by first | rfl | (simp only [firstArgMember]; rfl)) ?_)
  refine wpAny_newObj_type ?_ (by size_fits)
  simp only [raiseNew]
  refine wpAny_bind (wpAny_handled ?_)
  rw [show A.in1.handled = none from hh]
  refine wpAny_bind (wpAny_pure (wpAny_throw ?_))
  refine wpAny_bind (wpAny_isInstance (T := "StopIteration") (b := true) ⟨_, Heap.get?_push_size _ rfl, rfl⟩ isSubtype_stop ?_)
  exact wpAny_pure (hQ _ (((Heap.SameBut.update ..).extBut.push _).push _))
end

/-! ### a locked dict -/
section
variable {X : Cx} {pins : List (Addr × Obj)} {σ : St} {H : Hp} {s : Shared} {d : Addr} {o : Obj}
end

theorem dict_ep {o : Obj} {es es' : Array DictEntry} {ep ep' : Nat} (h : o.data = .dict es ep) (h' : o.data = .dict es' ep') : es' = es ∧ ep' = ep := by
  rw [h] at h'
  cases h'
  exact ⟨rfl, rfl⟩
section
variable {P : Program} {w : World} {K : PySem.W.Frag} {tg : Expr} {d : Addr} {o : Obj} {es : Array DictEntry} {ep : Nat}
end

/-! ### for k in d, d.keys(), d.values(), d.items() -/
section
variable {X : Cx} {tg e : Expr} {td : TE} {apos cpos : Pos}
end

/-! ### enumerate(list) -/
/-! ### zip(list, list) -/
end L2

section 
namespace Bits
open PySem PyProof.Rows

end Bits
end 

section 
namespace TL
open PySem PySem.Builtin PySem.Builtin.Str PySem.StrLaws

abbrev tl (x : Str) : List Nat := x.cps.toList
theorem len_tl (x : Str) : x.length = (tl x).length := by simp [tl, Str.length]
/-! ### the list functions -/
/-- S stands at the head of l -/
def pre (S l : List Nat) : Bool := l.take S.length == S
/-- what stands before the first S, and behind it -/
def par (S : List Nat) : List Nat → List Nat → Option (List Nat × List Nat)
  | _, [] => none
  | acc, c :: r => if pre S (c :: r) = true then some (acc, (c :: r).drop S.length) else par S (acc ++ [c]) r

/-! ### the model's split and partition are these -/
theorem len1 {y : Str} (hy : tl y ≠ []) : 1 ≤ y.length := by
  have e2 : 0 < (tl y).length := List.length_pos_iff.mpr hy
  rw [len_tl y]
  exact e2
/-! ### computing spl and par -/
/-! ### digits -/
/-! ### words: x.split() -/
end TL
end 

namespace L2
open PySem PySem.Spec PyProof.Rows

section
variable {X : Cx} {pins : List (Addr × Obj)} {σ : St} {H : Hp} {s : Shared} {Q : VK}
end

section
variable {X : Cx}

/-! ### of a text alone -/
/-! ### of a text and a text -/
end

section
variable {X : Cx} {o e : Expr} {to te : TE}
end
end L2

namespace L2
open PySem PySem.Spec PyProof.Rows

section
variable {X : Cx}
end

/-! ### slices of a text -/
theorem IsPart.raw {v : Value} {o : Option Int} (p : IsPart v o) : ∃ l : Option (Int × Tok), v = partValue l ∧ l.map (·.1) = o := by
  cases p with
  | none => exact ⟨none, rfl, rfl⟩
  | int i t => exact ⟨some (i, t), rfl, rfl⟩

end L2

namespace Att
open PySem PySem.W PySem.Calls PyProof.Rows

/-! ### the script -/
theorem ints_of_wellAll {P : Params} {h : Heap} : ∀ (ns : List Int) (vs : List Value), WellAll P h vs (ns.map WData.int) → IntsAre vs ns := by
  intro ns
  induction ns with
  | nil =>
    intro vs w
    rw [List.map_nil] at w
    cases w
    exact .nil
  | cons n ns ih =>
    intro vs w
    rw [List.map_cons] at w
    cases w with
    | cons a b =>
      cases a
      exact .cons _ _ (ih _ b)

theorem script_of {l : OpenLaw} {n : Nat} (hn : l.most = some n) {P : Params} {h : Heap} {args : List WData} {vals : List Value}
    (hpre : l.row.toRowW.claim.pre args = true) (hwl : WellAll P h vals args) :
    ∃ a vs ns, vals = [Value.ref a] ∧ args = [WData.list (ns.map WData.int)] ∧ h.get? a = some { cls := .type "list", data := .seq vs.toArray } ∧ IntsAre vs ns ∧ ns.length ≤ n := by
  have hsh : WShape.hasAll [] args [.list .int] = true := (pre_splitW hpre).1
  have hc : l.pre.holds [] { args := args } = true := (pre_splitW hpre).2
  obtain ⟨d, r, rfl, h1, h2⟩ := hasAllW_cons hsh
  obtain rfl := hasAllW_nil h2
  obtain ⟨xs, rfl, h3⟩ := hasW_list h1
  obtain ⟨ns, rfl⟩ := items_int h3
  have hlen : ns.length ≤ n := by
    unfold OpenLaw.pre at hc
    have h4 : (WTm.not (.lt (.lit (.int (n : Int))) (.len (.arg 0)))).holds [] { args := [.list (ns.map .int)] } = true := by
      have h4 := (holds_andW hc).1
      rw [hn] at h4
      exact h4
    have h5 := condW_of h4 (w_not (w_lt w_lit (w_len_list (w_arg rfl))))
    rw [List.length_map] at h5
    refine Nat.le_of_not_lt fun q => ?_
    have q' : (n : Int) < ((ns.length : Nat) : Int) := by omega
    first
      | (rw [decide_eq_true q'] at h5; exact absurd h5 (by decide))
      | (simp at h5; omega)
  cases hwl with
  | cons w1 w2 =>
    cases w2
    cases w1 with
    | list ho hall => exact ⟨_, _, ns, rfl, rfl, ho, ints_of_wellAll ns _ hall, hlen⟩

theorem post_true (l : OpenLaw) (args : List WData) : l.row.toRowW.claim.post args (.bool true) args = true :=
  postW_of (r := l.row.toRowW) (X := (true == true))
    (show WShape.has [] (.bool true) .bool = true by first | rfl | decide | simp [WShape.has, WShape.arms, WShape.armsAll])
    (show (WTm.eq .res (.lit (.bool true))).value [] { args := args, res := some (.bool true), after := args } = some (.bool (true == true)) from w_eq_bool (w_res rfl) w_lit) rfl

/-! ### the attachment: holds_open's last premise (the goal 'hc' behind k_head) from a wpAny of the law's body -/
/-- the same from a codeAny of the CALL (for a layer whose function contracts speak of calls) -/
theorem attach_call {l : OpenLaw} {n : Nat} {q : Program} {loose : List Str} {XP : (Str → Option Value) → Heap → Prop} {YP : World → Heap → Prop} {d : DefRec}
    (hn : l.most = some n) (hdf : d.params.defaults = [])
    (call : ∀ (w : World) (s₀ s₁ : Shared) (mg mb : Str → Option Value) (fa : Addr) (o : Obj) (pm cd doc : Value) (a : Addr) (vs : List Value) (ns : List Int),
      Ground q loose [] XP w s₀ mg mb s₁.heap → YP w s₁.heap →
      s₁.heap.get? fa = some o → o.data = .func (docDef d.name d.params d.body d.scope pm cd doc) → s₁.heap.CodeRec cd d.name → mg d.name = some (.ref fa) →
      s₁.heap.get? a = some { cls := .type "list", data := .seq vs.toArray } → IntsAre vs ns → ns.length ≤ n → s₁.gens = #[] →
      codeAny (model l.prog w) callerA (.call (.ref fa) ⟨[.ref a], []⟩) (fun r s' => r = .ok (.ret (.bool true)) ∧ OldK s₁.heap s'.heap ∧ s'.os = s₁.os ∧ AllBare s'.gens) s₁) :
    WalkO q loose XP YP l.row.toRowW d [] (fun f vs => PySem.call f vs) := by
  intro w s₀ s₁ mg mb G Y fa o pm cd doc dV kV ho hd hcd hD hmg hg args vals as hpre hlay hrd hwl hlo
  obtain rfl : dV = .none := Dflts.none hD hdf
  obtain rfl : kV = .none := Dflts.noKw hD
  obtain ⟨a, vs, ns, rfl, rfl, hobj, hints, hlen⟩ := script_of hn hpre hwl
  refine enter_call (codeAny_mono (call w s₀ s₁ mg mb fa o pm cd doc a vs ns G Y ho (fd_plain hd) hcd hmg hobj hints hlen hg) fun r s' hq => ?_)
  obtain ⟨rfl, h2, h3, h4⟩ := hq
  exact ⟨.inl ⟨.bool true, .bool true, [], rfl, fun _ => rfl, .bool true, post_true l _, fun _ => ⟨List.Pairwise.nil, fun _ hm => (nomatch hm)⟩⟩, h2, h3, h4⟩

/-! ### rules over ANY heap (no ledger) from facts about the written part K: the library's own take a ledger (News) for what they write -/
section
variable {prog : Program} {w : World} {A : Around} {E : Value → Shared → Prop} {s : Shared} {K : Frag}

/-! the whole heap as the ledger: makes every rule that writes through a ledger a rule over any heap -/
end
end Att

namespace L2
open PySem PySem.Spec PyProof.Rows

theorem vals_ints : ∀ {vs : List Value} {ns : List Int}, IntsAre vs ns → Vals (ns.map V.int) vs
  | _, _, .nil => .nil
  | _, _, .cons n t h => .cons ⟨t, rfl⟩ (vals_ints h)

/-- nothing is tracked but the script, known to the object (or it is an object of the module) -/
def Only (H : Hp) : Prop := ∀ b, H b = none ∨ ∃ o xs, H b = some (.frz o (.lst xs))

/-- THE HEAD: the law's promise, at the heap behind the top. F, the promise of the law's def, may use that base is part of the heap (so K.In base, base.Ns mainGlobals mg stand in Mod) -/
theorem law_call {P : Program} {w : World} {K : PySem.W.Frag} {mg mb : Str → Option Value} {CX : CXT} {k : Nat} {fa a : Addr} {fd : FuncData} {x : Str} {sp : Sp} {s₁ : Shared} {vs : List Value} {ns : List Int}
    (KX : K.In s₁.heap) (hns : s₁.heap.Ns mainGlobals mg) (hb : s₁.heap.Ns builtinsNs mb) (hbb : ∀ x : Str, x ≠ "__name__" → mb x = bootBuiltins x) (hlim : s₁.heap.NoLimit) (hg : s₁.gens = #[])
    (ha : s₁.heap.get? a = some { cls := .type "list", data := .seq vs.toArray }) (hi : IntsAre vs ns) (hl : ns.length ≤ sizeLine) (hr : Room k callerA)
    (F : ∀ base : Heap, K.In base → base.Ns mainGlobals mg → FnOk P w K mg base CX k fa fd [x] sp) (hbind : ∀ (s : Shared) (u : Value), BindsTo s fd ⟨[u], []⟩ [(x, u)])
    (hsp : ∀ H : Hp, Only H → SqL K H a (ns.map V.int) → sp [.ref a] H (fun v _ => v = .bl true) fun _ _ _ => False)
    (hCX : ∀ H e s', CX [] H s₁ (fun _ _ _ => False) e s' → False) :
    codeAny (model P w) callerA (.call (.ref fa) ⟨[.ref a], []⟩) (fun r s' => r = .ok (.ret (.bool true)) ∧ OldK s₁.heap s'.heap ∧ s'.os = s₁.os ∧ AllBare s'.gens) s₁ := by
  have rv := vals_ints hi
  have lenV := hi.length
  -- from an abstract heap in which nothing but the script may be tracked
  have core : ∀ H : Hp, Only H → SqL K H a (ns.map V.int) → HOk P w H s₁.heap → (∀ b, H b ≠ none → b = a) → (H a ≠ none → K.lookup a = none) →
      codeAny (model P w) callerA (.call (.ref fa) ⟨[.ref a], []⟩) (fun r s' => r = .ok (.ret (.bool true)) ∧ OldK s₁.heap s'.heap ∧ s'.os = s₁.os ∧ AllBare s'.gens) s₁ := by
    intro H hO hS hok hA hK
    have base_of : ∀ {b : Addr} {o : Obj}, s₁.heap.get? b = some o → H b = none → (hidT s₁.heap H).get? b = some o := fun e n => hidT_get e n
    have noA : ∀ {b : Addr} {o : Obj} {es : Array DictEntry} {ep : Nat}, s₁.heap.get? b = some o → o.data = .dict es ep → H b = none := fun {b o es ep} e d => by
      cases q : H b with
      | none => rfl
      | some u =>
        have e' : b = a := hA b (by rw [q]; simp)
        subst e'
        rw [ha] at e; cases e
        have d' : Data.seq vs.toArray _ = Data.dict es ep := d
        cases d'
    have nsK : ∀ {b : Addr} {m : Str → Option Value}, s₁.heap.Ns b m → (hidT s₁.heap H).Ns b m := fun {b m} ⟨o, es, ep, e, d, r⟩ => ⟨o, es, ep, base_of e (noA e d), d, r⟩
    have hKb : K.In (hidT s₁.heap H) := fun b o e => base_of (KX b o e) (by
      cases q : H b with
      | none => rfl
      | some u =>
        have e' : b = a := hA b (by rw [q]; simp)
        subst e'
        rw [hK (by rw [q]; simp)] at e; cases e)
    have hM : Mod K mg (hidT s₁.heap H) := ⟨hKb, nsK hns, ⟨mb, nsK hb, hbb⟩, let ⟨mc, h1, h2⟩ := hlim; ⟨mc, nsK h1, h2⟩⟩
    have e0 : Env0 P w K mg (hidT s₁.heap H) callerA [] s₁ H := ⟨rfl, hM, fun b o e => of_hidT e, Nat.le_of_eq (hidT_size _ _), trivial, fun b hb => absurd (show b ∈ ([] : List Addr) from hb) (by simp), hok, .of_eq hg⟩
    refine codeAny_mono ((F _ hKb (nsK hns)).run callerA [] s₁ H ⟨[.ref a], []⟩ [.ref a] [.ref a] _ _ hr e0 (hbind s₁ (.ref a)) (.cons rfl .nil) (hsp H hO hS)) fun r s' h => ?_
    cases r with
    | error e => exact (hCX H e s' h).elim
    | ok fl =>
      cases fl with
      | next => exact False.elim h
      | brk => exact False.elim h
      | cont => exact False.elim h
      | ret u =>
        obtain ⟨v, H', os, bare, un, hok', r', q⟩ := h
        have q' : v = .bl true := q
        subst q'
        obtain rfl : u = Value.bool true := r'
        refine ⟨rfl, OldK.of_keep fun b o e => ?_, os, bare⟩
        cases q : H b with
        | none => exact un.keep b o e q (by intro z; exact absurd (show b ∈ ([] : List Addr) from z) (by simp)) (by simp)
        | some u =>
          rcases hO b with z | ⟨ob, xs, z⟩
          · rw [q] at z; cases z
          · have z2 := un.frzs b ob _ z
            obtain ⟨e1, _⟩ := hok b _ z
            obtain ⟨e2, _⟩ := hok' b _ z2
            rw [e] at e1; cases e1
            exact e2
  cases hk : K.lookup a with
  | some o =>
    -- the script is one of the module's own objects
    have e := KX a o hk
    rw [ha] at e
    cases e
    refine core (fun _ => none) (fun _ => .inl rfl) (.inr ⟨_, vs.toArray, _, hk, rfl, rfl, rfl, by rw [List.size_toArray, lenV]; exact hl, by simpa using rv⟩) (fun b u z => by have z' : (none : Option HO) = some u := z; cases z') (fun b z => absurd rfl z) fun z => absurd rfl z
  | none =>
    refine core (fun b => if b = a then some (.frz { cls := .type "list", data := .seq vs.toArray } (.lst (ns.map V.int))) else none) (fun b => ?_) (.inl (.inr ⟨{ cls := .type "list", data := .seq vs.toArray }, if_pos rfl⟩)) (fun b u z => ?_) (fun b z => ?_) fun _ => hk
    · by_cases hb : b = a
      · exact .inr ⟨_, _, if_pos hb⟩
      · exact .inl (if_neg hb)
    · by_cases hb : b = a
      · have z' := (if_pos hb).symm.trans z
        cases z'
        subst hb
        exact ⟨ha, by rw [List.length_map]; exact hl, vs, _, rv, ha⟩
      · have z' := (if_neg hb).symm.trans z
        cases z'
    · by_cases hb : b = a
      · exact hb
      · exact absurd (if_neg hb) z
end L2

namespace L2
open PySem PySem.Spec PyProof.Rows

abbrev KOf {K : PySem.W.Frag} {h : Heap} (_ : K.In h) : PySem.W.Frag := K

/-- the goal that k_head leaves (case hc), from the law's promise. F gives the function object fd (K's own) once, then the promise over every base -/
theorem walk_of {l : PySem.W.OpenLaw} {n k : Nat} {q : Program} {loose : List Str} {XP : (Str → Option Value) → Heap → Prop} {YP : World → Heap → Prop} {d : DefRec} {K : Params → PySem.W.Frag} {CX : World → CXT} {sp : World → Sp} {x : Str}
    (hn : l.most = some n) (hn2 : n ≤ sizeLine) (hdf : d.params.defaults = []) (hr : Room k callerA)
    (hY : ∀ (w : World) (h : Heap), YP w h → (K w.params).In h)
    (F : ∀ (w : World) (mg : Str → Option Value) (fa : Addr) (h : Heap), (K w.params).In h → h.Ns mainGlobals mg → mg d.name = some (.ref fa) →
      ∃ fd : FuncData, (∀ (s : Shared) (u : Value), BindsTo s fd ⟨[u], []⟩ [(x, u)]) ∧
        ∀ base : Heap, (K w.params).In base → base.Ns mainGlobals mg → FnOk l.prog w (K w.params) mg base (CX w) k fa fd [x] (sp w))
    (hsp : ∀ (w : World) (H : Hp) (a : Addr) (ns : List Int), ns.length ≤ n → Only H → SqL (K w.params) H a (ns.map V.int) → sp w [.ref a] H (fun v _ => v = .bl true) fun _ _ _ => False)
    (hCX : ∀ (w : World) (H : Hp) (s : Shared) (e : Value) (s' : Shared), CX w [] H s (fun _ _ _ => False) e s' → False) :
    PySem.W.WalkO q loose XP YP l.row.toRowW d [] (fun f vs => PySem.call f vs) := by
  refine Att.attach_call hn hdf fun w s₀ s₁ mg mb fa o pm cd doc a vs ns G Y ho hd hcd hmg hobj hints hlen hg => ?_
  have KX := hY w _ Y
  obtain ⟨fd, hb, hF⟩ := F w mg fa _ KX G.T.g hmg
  exact law_call KX G.T.g G.T.b G.T.builtins G.T.nolimit hg hobj hints (Nat.le_trans hlen hn2) hr hF hb (fun H hO hS => hsp w H a ns hlen hO hS) fun H e s' => hCX w H s₁ e s'
end L2

/- THE LAST THEOREM (shape; LID, My.* are yours):
   My.Adr: a structure of the addresses that your layer names (classes, functions); My.Txt K t: a structure (Prop) of the equations over K;
   My.txt_mk : {K} {implicit addresses ..} (e1 : nsIn K mainGlobals "law" = some (some (.ref f))) (e2 : K.lookup f = some ⟨oc, od, .func (fnOf "law" "law" params body scope dV kV doc pm an cdv ct), sl⟩) (e3 : codeIn K cdv "law" = true) .. : ∃ t, My.Txt K t

set_option maxRecDepth 100000 in
set_option maxHeartbeats 0 in
theorem PySem.Challenge.cw_LID_holds : PySem.Challenge.rw_LID.Holds := by
  w_on; o_law; k_head; (case hw => w_witness2)
  k_fill
  refine L2.walk_of (l := PySem.Challenge.rw_LID) (n := 63) (k := 40) (x := "script") (CX := fun w => ..) (sp := fun _ => My.sp_law) rfl (by decide) rfl ⟨rfl, by decide, by decide⟩ (fun w h Y => PySem.W.kIn_of Y) ?F ?S ?C
  case F =>
    intro w mg fa h KX G hmg
    have T : ∃ t, My.Txt (L2.KOf KX) t := by
      dsimp only [L2.KOf]                          -- K must stand as «<heap const> w.params» for k_is
      refine' My.txt_mk ?e1 ?e2 ?e3 ..
      (case e1 => PySem.W.k_is)                    -- in the order: a name -> its address -> its object -> its parts
      (case e2 => PySem.W.k_is)
      ..
    obtain ⟨t, T⟩ := T
    have e0 := hmg.symm.trans (PySem.W.mg_of KX G T.law)
    cases e0                                       -- fa is the law's own address
    exact ⟨_, fun s u => .of_eq rfl, fun base kb nb => My.law_fn T kb nb⟩     -- if «.of_eq rfl» comes too early: refine' ⟨_, ?b, fun base kb nb => My.law_fn T kb nb⟩; exact fun s u => .of_eq rfl
  case S => exact fun w H a ns hl hO hS => ..
  case C => exact ..
(the tactic k_is has no namespace: write k_is) -/

/-! SHORT WORDS over the layer: a def of the text, its body, what a loop and a test want. -/
namespace L2
open PySem PySem.Spec PyProof.Rows

/-! ### the text by places -/
def defArgs (s : Stmt) : Arguments := match s with
  | .FunctionDef _ a _ _ _ _ _ _ _ _ => a
  | _ => { posonlyargs := [], args := [], vararg := none, kwonlyargs := [], kw_defaults := [], kwarg := none, defaults := [] }
def defBody (s : Stmt) : List Stmt := match s with
  | .FunctionDef _ _ b _ _ _ _ _ _ _ => b
  | _ => []
def defScope (s : Stmt) : Scope := match s with
  | .FunctionDef _ _ _ _ _ _ sc _ _ _ => sc
  | _ => { kind := .function, names := [], isGenerator := false, isCoroutine := false }

/-! ### no exception leaves a def -/
abbrev CX0 : CXT := fun _ _ _ _ _ _ => False
abbrev E0 : XK := fun _ _ _ => False
theorem pass0 {X : Cx} : Passes CX0 X E0 := fun _ _ _ _ _ _ _ h => h.elim

/-! ### a def (or method) of the text as it stands behind the top -/
structure Fun (K : PySem.W.Frag) (x qual : Str) (st : Stmt) (f : Addr) (fd : FuncData) : Prop where
  ex : ∃ (oc : Value) (od : Option Addr) (kV doc pm : Value) (an : Option Addr) (cdv ct : Value) (osl : Array (Option Value)),
    fd = PySem.W.fnOf x qual (defArgs st) (defBody st) (defScope st) .none kV doc pm an cdv ct ∧ K.lookup f = some ⟨oc, od, .func fd, osl⟩ ∧ PySem.W.codeIn K cdv qual = true
  kp : PySem.W.keepIn K (.ref f) = true
section
variable {P : Program} {w : World} {K : PySem.W.Frag} {mg : Str → Option Value} {base : Heap}
/-- THE RULE for a def: its body as a term of rules, and the reading of that term -/
theorem Fun.ok {x qual : Str} {st : Stmt} {f : Addr} {fd : FuncData} {N ps : List Str} {k : Nat} {sp : Sp} (F : Fun K x qual st f fd) (S : FnScope N ps (defScope st)) (len : ∀ vs H Q E, sp vs H Q E → vs.length = ps.length)
    (hbody : ∀ (cdv : Value) (A : Around) (outer : List Env) (s : Shared) (H : Hp) (vs : List V) (Q : VK) (E : XK), Room k (A.deeper (envOfC qual (defScope st) s.heap.objs.size f cdv)) → sp vs H Q E →
      ∃ t, PSs (cxOf CX0 P w K mg base N qual (defScope st) f cdv A outer s H E).nox (defBody st) t ∧ t { nx := fun _ H' => Q .non H', rt := Q } (start N vs) H) : FnOk P w K mg base CX0 (k + 1) f fd ps sp := by
  obtain ⟨oc, od, kV, doc, pm, an, cdv, ct, osl, rfl, lk, hcd⟩ := F.ex
  refine fn_of lk hcd S len fun A outer s H vs Q E hr hsp => ?_
  obtain ⟨t, h, q⟩ := hbody cdv A outer s H vs Q E hr hsp
  exact ⟨t, h.nox, q⟩
/-- how its arguments bind (no defaults): h is «fun _ _ _ _ _ _ us hl => match us, hl with | [_, _], _ => rfl», one _ a parameter -/
theorem Fun.binds {x qual : Str} {st : Stmt} {f : Addr} {fd : FuncData} {ps : List Str} (F : Fun K x qual st f fd)
    (h : ∀ (kV doc pm : Value) (an : Option Addr) (cdv ct : Value) (us : List Value), us.length = ps.length → bindArgs (PySem.W.fnOf x qual (defArgs st) (defBody st) (defScope st) .none kV doc pm an cdv ct) ⟨us, []⟩ = pure (ps.zip us)) : Binds K fd ps [] := by
  obtain ⟨oc, od, kV, doc, pm, an, cdv, ct, osl, rfl, lk, hcd⟩ := F.ex
  exact .all (h kV doc pm an cdv ct)
theorem fun_mk {x qual : Str} {st : Stmt} {f : Addr} {oc : Value} {od an : Option Addr} {osl : Array (Option Value)} {kV doc pm cdv ct : Value} (l : K.lookup f = some ⟨oc, od, .func (PySem.W.fnOf x qual (defArgs st) (defBody st) (defScope st) .none kV doc pm an cdv ct), osl⟩)
    (c : PySem.W.codeIn K cdv qual = true) (k : PySem.W.keepIn K (.ref f) = true) : Fun K x qual st f (PySem.W.fnOf x qual (defArgs st) (defBody st) (defScope st) .none kV doc pm an cdv ct) := ⟨⟨oc, od, kV, doc, pm, an, cdv, ct, osl, rfl, l, c⟩, k⟩
end
theorem hu_of {A : Around} {k : Nat} (hr : Room k A) : A.units + 1 < cLine := Nat.lt_of_le_of_lt (Nat.add_le_add_left (by decide : 1 ≤ 64) _) hr.units
theorem small1000 {n : Nat} (h : n ≤ 1000) : n < sizeLine := Nat.lt_of_le_of_lt h (by decide)

/-! ### expressions in short: the name that stands in the i-th slot -/
section
variable {X : Cx}
end

/-! ### tests -/
theorem iteF {A B : Prop} (h : B) : if false = true then A else B := by
  rw [if_neg Bool.false_ne_true]
  exact h
theorem iteT {A B : Prop} (h : A) : if true = true then A else B := by
  rw [if_pos rfl]
  exact h
/-! ### heaps -/
/-- all that was tracked is as it was -/
def Same (H H' : Hp) : Prop := ∀ b o, H b = some o → H' b = some o
theorem Same.refl (H : Hp) : Same H H := fun _ _ h => h
theorem Same.trans {H H1 H2 : Hp} (a : Same H H1) (b : Same H1 H2) : Same H H2 := fun c o h => b c o (a c o h)
theorem Same.free {H H' : Hp} (e : Same H H') {l : Addr} (h : H' l = Option.none) : H l = Option.none := by
  cases q : H l with
  | none => rfl
  | some o =>
    rw [e l o q] at h
    cases h
theorem Same.seq {K : PySem.W.Frag} {H H' : Hp} {a : Addr} {xs : List V} (e : Same H H') (h : SqL K H a xs) : SqL K H' a xs := by
  rcases h with (h | ⟨o, h⟩) | h
  · exact .inl (.inl (e _ _ h))
  · exact .inl (.inr ⟨o, e _ _ h⟩)
  · exact .inr h

/-! ### a dict's pairs: keys that differ -/
section
variable {κ : Type} [DecidableEq κ]
end
/-! ### lists -/
/-- a new instance and its __init__ leave all that was tracked as it was -/
theorem Same.made {H H1 : Hp} {x dx C : Addr} (nx : H x = Option.none) (nd : H dx = Option.none) (k : ∀ b o, (upd (upd H dx (.own x)) x (.ins C dx [])) b = some o → b ≠ x → H1 b = some o) : Same H H1 := fun b o e =>
  k b o (by rw [upd_ne (ne_of_none e nx), upd_ne (ne_of_none e nd)]; exact e) (ne_of_none e nx)
end L2


set_option Elab.async false
set_option linter.all false
set_option maxRecDepth 100000
set_option maxHeartbeats 1000000
/-! generators are never taken away: how many there are only grows -/
namespace GE
open PySem
end GE


set_option Elab.async false
set_option linter.all false
set_option maxRecDepth 100000
set_option maxHeartbeats 1000000
/-! generator expressions: the code's table, the generator's own context, its start -/
namespace GE
open PySem PySem.Spec L2
open PyProof.Rows (AllBare)
open PySem.W (CodeHd tabObj)

section
variable {X : Cx} {pins : List (Addr × Obj)} {σ : St} {H : Hp} {s : Shared}
end

/-! ### codes that a table holds are kept as they are -/
/-- all codes of a table are kept -/
def CodesOk (H : Hp) (ps : Array Value) : Prop := ∀ pos cv, codeAmong pos ps.toList = some cv → ∃ c oc vs q t, cv = .ref c ∧ H c = some (.frz oc (.own 0)) ∧ oc.data = .fields vs ∧ vs[1]? = some (.str q t)
/-- a code was found in the table at P, or put there -/
def Grown (P : Addr) (H H' : Hp) : Prop := H' = H ∨ ∃ (ps : Array Value) (i j : Int) (c : Addr) (oc : Obj) (vs : Array Value) (q : Str) (t : Tok), H P = some (.tbl ps) ∧ H c = none ∧ oc.data = .fields vs ∧ vs[1]? = some (.str q t) ∧
  H' = upd (upd H P (.tbl (ps ++ #[rawInt i, rawInt j, .ref c]))) c (.frz oc (.own 0))
theorem CodesOk.mono {H H' : Hp} {ps : Array Value} (h : CodesOk H ps) (k : ∀ c o u, H c = some (.frz o u) → H' c = some (.frz o u)) : CodesOk H' ps := fun pos cv e =>
  let ⟨c, oc, vs, q, t, e1, e2, r⟩ := h pos cv e; ⟨c, oc, vs, q, t, e1, k _ _ _ e2, r⟩
theorem Grown.old {P : Addr} {H H' : Hp} (g : Grown P H H') {b : Addr} {o : HO} (e : H b = some o) (n : ∀ ps, o ≠ .tbl ps) : H' b = some o := by
  rcases g with rfl | ⟨ps, i, j, c, oc, vs, q, t, hP, hc, _, _, rfl⟩
  · exact e
  · rw [upd_ne (ne_of_none e hc), upd_ne fun z => by rw [z, hP] at e; cases e; exact n _ rfl]; exact e
theorem Grown.seq {P : Addr} {H H' : Hp} {K : PySem.W.Frag} {a : Addr} {xs : List V} (g : Grown P H H') (h : SqL K H a xs) : SqL K H' a xs := by
  rcases h with (h | ⟨o, h⟩) | h
  · exact .inl (.inl (g.old h fun _ z => nomatch z))
  · exact .inl (.inr ⟨o, g.old h fun _ z => nomatch z⟩)
  · exact .inr h
section
variable {X : Cx} {pins : List (Addr × Obj)} {σ : St} {H : Hp} {s : Shared}
end
/-- the context of a generator that was made at s, its iterator's objects at fp, woken under A' -/
abbrev gn (X : Cx) (s : Shared) (H : Hp) (scope : Scope) (cenv : Env) (fp : List Addr) (A' : Around) : Cx :=
  { X with A := A', s_0 := s, H_0 := H, env := cenv, outer := X.stack, stack := cenv :: X.stack, ex := fp, fn := fun x => scope.names.lookup x == some .cell, pn := [], xe := fun _ _ => False }

section
variable {X : Cx} {pins : List (Addr × Obj)} {σ : St} {H : Hp} {s : Shared}
end
end GE


set_option Elab.async false
set_option linter.all false
set_option maxRecDepth 100000
set_option maxHeartbeats 1000000
/-! generator expressions: the generator's turns, by a context of its own -/
namespace GE
open PySem PySem.Spec L2
open PyProof.Rows (AllBare)
open PySem.W (CodeHd tabObj)

section
variable {Z : Cx} {A₁ : Around} {elt tg iter : Expr} {ifs : List Expr} {scope : Scope} {pos : Pos} {it : Addr} {fp : List Addr} {tn : Nat → Heap → Prop} {J : It} {g : TG} {tt : TT} {te : TE} {σ0 : St} {vs : List Nat} {pn : List (Addr × Obj)} {gi : Nat}
  {W : Nat → Nat → Hp → Prop} {Yp : Nat → Nat → V → Hp → Prop} {Stop : Hp → Prop}
end
end GE


set_option Elab.async false
set_option linter.all false
set_option maxRecDepth 100000
set_option maxHeartbeats 1000000
/-! generator expressions: woken, and all(..) of one -/
namespace GE
open PySem PySem.Spec L2
open PyProof.Rows (AllBare)
open PySem.W (CodeHd tabObj)

section
variable {Z : Cx} {A : Around} {A₁ : Around} {elt tg iter : Expr} {ifs : List Expr} {scope : Scope} {pos : Pos} {it : Addr} {fp : List Addr} {tn : Nat → Heap → Prop} {J : It} {g : TG} {tt : TT} {te : TE} {σ0 : St} {vs : List Nat} {pn : List (Addr × Obj)} {gi : Nat}
  {W : Nat → Nat → Hp → Prop} {Yp : Nat → Nat → V → Hp → Prop} {Stop : Hp → Prop}
end
end GE


set_option Elab.async false
set_option linter.all false
set_option maxRecDepth 100000
set_option maxHeartbeats 1000000
/-! generator expressions: made, and handed to all(..) -/
namespace GE
open PySem PySem.Spec L2
open PyProof.Rows (AllBare)
open PySem.W (CodeHd tabObj)

/-- where the built-in names of the module are found -/
def BmAt (mg : Str → Option Value) (base : Heap) : Prop := ∃ bm ob, mg "__builtins__" = some (.ref bm) ∧ bm ≠ builtinsNs ∧ base.get? bm = some ob ∧ ob.cls = .type "module" ∧ ob.dict = some builtinsNs ∧ ob.data = .plain

section
variable {X : Cx} {pins : List (Addr × Obj)} {σ : St} {H : Hp} {s : Shared} {elt tg iter : Expr} {ifs : List Expr} {scope : Scope} {own : List (Str × Nat)} {gpos pos p : Pos} {wi : TI} {g : TG} {tt : TT} {te : TE} {c P : Addr} {k : Nat}
end
end GE


set_option Elab.async false
set_option linter.all false
set_option maxRecDepth 100000
set_option maxHeartbeats 1000000
/-! all(.. for ..) -/
namespace GE
open PySem PySem.Spec L2
open PyProof.Rows (AllBare)
open PySem.W (CodeHd tabObj)

section
variable {X : Cx} {elt tg iter : Expr} {ifs : List Expr} {scope : Scope} {own : List (Str × Nat)} {gpos pos p : Pos} {wi : TI} {g : TG} {tt : TT} {te : TE} {c P : Addr} {k : Nat}
end
end GE


set_option Elab.async false
set_option linter.all false
set_option maxRecDepth 100000
set_option maxHeartbeats 1000000
/-! Tuples of tuples as keys of a dict. -/
namespace NK
open PySem
open Sem (wp)
/-- a kind of key whose comparison is seen to be quiet from some depth on -/
structure HK (prog : Program) (w : World) (K : Type) [DecidableEq K] extends HeapKind prog w K where
  q : Nat
  quietN : ∀ {A : Around} {E : Value → Shared → Prop} {s : Shared} {k : K} {a : Addr} {Q : Bool → Shared → Prop} (n : Nat), q ≤ n → is s.heap k a → Q true s → wpAny (model prog w) A (eqIsQuiet n (.ref a)) Q E s
section
variable {prog : Program} {w : World} {K : Type} [DecidableEq K] {A : Around} {E : Value → Shared → Prop} {s : Shared}
theorem quiet_flat {knd : KeyKind prog w K} {ks : List K} {a : Addr} {Q : Bool → Shared → Prop} (n : Nat) (hn : 1 ≤ n) (hk : IsTupleKey knd s.heap ks a) (h : Q true s) : wpAny (model prog w) A (eqIsQuiet n (.ref a)) Q E s := by
  have hT := hk.typeIs
  obtain ⟨o, items, m, ho, _, hd, hi⟩ := hk
  obtain ⟨n, rfl⟩ : ∃ k, n = k + 1 := ⟨n - 1, by omega⟩
  unfold eqIsQuiet
  refine wpAny_bind (wpAny_specialOf hT F.slot_tuple_eq.lookup ?_)
  show wpAny _ _ (isInstance (.ref a) (.type "tuple") >>= _) _ _ s
  refine wpAny_bind (wpAny_isInstance hT isSubtype_tuple_tuple ?_)
  simp only [Bool.not_true, Bool.false_eq_true, if_false]
  refine wpAny_bind (wpAny_seqItems ho hd ?_)
  refine wpAny_bind ?_
  show wpAny _ _ (forIn items _ _) _ _ s
  rw [← Array.forIn_toList]
  refine wpAny_forIn_list _ (fun rest r s' => r.1 = none ∧ s' = s ∧ ∀ v ∈ rest, carriedByValue v = true) _ ?_ ?_ _ _ ⟨rfl, rfl, hi.byValue⟩
  · rintro v rest r s' ⟨hr, rfl, hall⟩
    rw [eqIsQuiet_byValue _ (hall v List.mem_cons_self)]
    refine wpAny_bind (wpAny_pure ?_)
    simp only [Bool.not_true, Bool.false_eq_true, if_false]
    exact wpAny_pure ⟨rfl, rfl, fun u hu' => hall u (List.mem_cons_of_mem _ hu')⟩
  · rintro ⟨r1, r2⟩ s' ⟨hr, rfl, _⟩
    simp only at hr
    subst hr
    exact wpAny_pure h
def flatK (knd : KeyKind prog w K) : HK prog w (List K) := { tupleKind knd with q := 1, quietN := fun n hn hk h => quiet_flat n hn hk h }
variable (knd : HK prog w K)
inductive Its (h : Heap) : List K → List Value → Prop
  | nil : Its h [] []
  | cons {k : K} {b : Addr} {ks : List K} {vs : List Value} : knd.is h k b → Its h ks vs → Its h (k :: ks) (.ref b :: vs)
def IsN (h : Heap) (ks : List K) (a : Addr) : Prop := ∃ o items n, h.get? a = some o ∧ o.cls = .type "tuple" ∧ o.data = .seq items n ∧ Its knd h ks items.toList
variable {knd}
theorem Its.inj {h : Heap} {x y : List K} {vs : List Value} (hx : Its knd h x vs) (hy : Its knd h y vs) : x = y := by
  induction hx generalizing y with
  | nil => cases hy; rfl
  | cons h1 _ ih =>
    cases hy with
    | cons h2 t2 => rw [knd.inj h1 h2, ih t2]
theorem Its.length {h : Heap} {x : List K} {vs : List Value} (hx : Its knd h x vs) : x.length = vs.length := by
  induction hx with
  | nil => rfl
  | cons _ _ ih => simp [ih]
theorem Its.keeps {h h' : Heap} {d : Addr} {o : Obj} {es ep} {x : List K} {vs : List Value} (hx : Its knd h x vs) (ho : h.get? d = some o) (hd : o.data = .dict es ep) (hs : Heap.SameBut d h h') : Its knd h' x vs := by
  induction hx with
  | nil => exact .nil
  | cons h1 _ ih => exact .cons (knd.keeps h1 ho hd hs) ih
theorem IsN.typeIs {ks : List K} {a : Addr} (x : IsN knd s.heap ks a) : s.TypeIs (.ref a) "tuple" := let ⟨o, _, _, ho, hc, _⟩ := x; ⟨o, ho, hc⟩
theorem IsN.inj {h : Heap} {a : Addr} {x y : List K} (hx : IsN knd h x a) (hy : IsN knd h y a) : x = y := by
  obtain ⟨o, items, n, ho, _, hd, hi⟩ := hx
  obtain ⟨o', items', n', ho', _, hd', hi'⟩ := hy
  obtain rfl : o = o' := Option.some.inj (ho.symm.trans ho')
  rw [hd] at hd'
  injection hd' with h1 _
  subst h1
  exact hi.inj hi'
theorem IsN.keeps {h h' : Heap} {ks : List K} {a d : Addr} {o : Obj} {es ep} (x : IsN knd h ks a) (ho : h.get? d = some o) (hd : o.data = .dict es ep) (hs : Heap.SameBut d h h') : IsN knd h' ks a := by
  obtain ⟨o', items, n, ho', hc, hd', hi⟩ := x
  have hne : a ≠ d := by
    rintro rfl
    obtain rfl : o' = o := Option.some.inj (ho'.symm.trans ho)
    rw [hd] at hd'; exact nomatch hd'
  exact ⟨o', items, n, (hs.2 a hne).trans ho', hc, hd', hi.keeps ho hd hs⟩
def hashN (knd : HK prog w K) (ks : List K) : Int := reduceHash (Builtin.Tuple.tupleHashOf (ks.map knd.hash))
def drawsN (knd : HK prog w K) (ks : List K) : Nat := (ks.map knd.draws).sum + 1
theorem pyHash_n {ks : List K} {a : Addr} {Q : Int → Shared → Prop} (hu : A.units < cLine) (hr : knd.room A.in1) (hk : IsN knd s.heap ks a) (h : Q (hashN knd ks) { s with toks := s.toks + drawsN knd ks }) :
    wpAny (model prog w) A (pyHash (.ref a)) Q E s := by
  have hT := hk.typeIs
  obtain ⟨o, items, n, ho, _, hd, hi⟩ := hk
  unfold pyHash
  first | unfold pyHashByItsType | skip
  first | refine wpAny_bind (wpAny_cRoomFor_or (.inr hu) ?_) | skip
  refine wpAny_bind (wpAny_specialOf hT F.slot_tuple_hash.lookup ?_)
  show wpAny _ _ (if (some (Value.builtin "tuple.__hash__") == some Value.none) = true then _ else _) Q E s
  rw [if_neg (by rw [beq_builtin_none]; exact Bool.false_ne_true)]
  refine wpAny_bind (wpAny_specialOf hT F.slot_tuple_hash.lookup ?_)
  show wpAny _ _ (callSpecialIfBoundUnlessNone? (.ref a) "__hash__" _ >>= _) Q E s
  refine wpAny_bind (wpAny_callSpecialIfBoundUnlessNone?_slot hT F.slot_tuple_hash (wpAny_call_entry F.slot_tuple_hash hT F.entry_tuple_hash ?_ (F.args_tuple_hash_1 _)))
  show wpAny _ _ (Builtin.Tuple.tupleItemsOf (.ref a) >>= _) _ _ s
  refine wpAny_bind (wpAny_tupleItemsOf ho hd ?_)
  refine wpAny_bind ?_
  rw [← Array.forIn_toList]
  refine wpAny_forIn_list _
    (fun rest (b : Array Int) s' => ∃ done left, ks = done ++ left ∧ Its knd s.heap left rest ∧ b.toList = done.map knd.hash ∧ s' = { s with toks := s.toks + (done.map knd.draws).sum })
    _ ?_ ?_ _ _ ⟨[], ks, rfl, hi, rfl, rfl⟩
  · rintro x rest b s' ⟨done, left, rfl, hl, hb, rfl⟩
    cases hl with
    | @cons k c ks' _ h1 hl' =>
      refine wpAny_bind (knd.pyHash hr h1 ?_)
      first
        | exact wpAny_pure ⟨done ++ [k], ks', by simp, hl', by simp [hb], by simp [Nat.add_assoc]⟩
        | exact wpAny_bind (wpAny_pure (wpAny_pure ⟨done ++ [k], ks', by simp, hl', by simp [hb], by simp [Nat.add_assoc]⟩))
  · rintro b s' ⟨done, left, rfl, hl, hb, rfl⟩
    cases hl
    rw [List.append_nil] at h
    show wpAny _ _ (retInt (Builtin.Tuple.tupleHashOf b.toList)) _ _ _
    rw [hb]
    refine wpAny_ret_mkInt ?_
    show wpAny _ _ (if (decide (-(2 : Int) ^ 63 ≤ Builtin.Tuple.tupleHashOf (done.map knd.hash)) && decide (Builtin.Tuple.tupleHashOf (done.map knd.hash) < 2 ^ 63)) = true then _ else _) Q E _
    unfold hashN drawsN reduceHash at h
    by_cases hr : (decide (-(2 : Int) ^ 63 ≤ Builtin.Tuple.tupleHashOf (done.map knd.hash)) && decide (Builtin.Tuple.tupleHashOf (done.map knd.hash) < 2 ^ 63)) = true
    · rw [if_pos hr]
      rw [if_pos hr] at h
      exact wpAny_pure (by simpa [Nat.add_assoc] using h)
    · rw [if_neg hr]
      rw [if_neg hr] at h
      exact wpAny_bind (wpAny_rule (wpAny_pure (by simpa [Nat.add_assoc] using h)))
theorem eq_tree {x y : List K} {a b : Addr} {P : Fin → Shared → Prop} (hr : knd.room A) (hx : IsN knd s.heap x a) (hy : IsN knd s.heap y b) (h : P (.done (.ret (.bool (decide (x = y))))) s) :
    wpAny (model prog w) A (Builtin.«tuple.__eq__» ⟨[.ref a, .ref b], []⟩) P E s := by
  have hTb := hy.typeIs
  obtain ⟨oa, xs, na, hoa, _, hda, hia⟩ := hx
  obtain ⟨ob, ys, nb, hob, _, hdb, hib⟩ := hy
  show wpAny _ _ (isInstance (.ref b) (.type "tuple") >>= _) _ _ s
  refine wpAny_bind (wpAny_isInstance hTb isSubtype_tuple_tuple ?_)
  simp only [Bool.not_true, Bool.false_eq_true, if_false]
  refine wpAny_bind (wpAny_tupleItemsOf hoa hda ?_)
  refine wpAny_bind (wpAny_tupleItemsOf hob hdb ?_)
  refine wpAny_bind ?_
  refine wpAny_forIn_list _
    (fun rest r s' => r.1 = none ∧ s' = s ∧ ∃ x' y' xs' ys', rest = List.zip xs' ys' ∧ Its knd s.heap x' xs' ∧ Its knd s.heap y' ys' ∧ decide (x' = y') = decide (x = y) ∧ (xs'.length == ys'.length) = (xs.size == ys.size))
    _ ?_ ?_ _ _ ⟨rfl, rfl, x, y, xs.toList, ys.toList, rfl, hia, hib, rfl, by simp⟩
  · rintro ⟨u, v⟩ rest r s' ⟨hr', rfl, x', y', xs', ys', hz, hx', hy', hdec, hlen⟩
    cases hx' with
    | nil => simp at hz
    | @cons k1 u' x'' xs'' h1 hx'' =>
      cases hy' with
      | nil => simp at hz
      | @cons k2 v' y'' ys'' h2 hy'' =>
        simp only [List.zip_cons_cons, List.cons.injEq, Prod.mk.injEq] at hz
        obtain ⟨⟨rfl, rfl⟩, rfl⟩ := hz
        refine wpAny_bind (knd.eqBool (x := k1) (y := k2) hr h1 h2 ?_)
        by_cases hk : k1 = k2
        · subst hk
          rw [decide_eq_true rfl]
          simp only [Bool.not_true, Bool.false_eq_true, if_false]
          refine wpAny_pure ⟨rfl, rfl, x'', y'', xs'', ys'', rfl, hx'', hy'', ?_, by simpa using hlen⟩
          rw [← hdec]
          by_cases hxy : x'' = y''
          · simp [hxy]
          · simp [hxy]
        · rw [decide_eq_false hk]
          simp only [Bool.not_false, if_true]
          have hf : decide (x = y) = false := by rw [← hdec]; simp [hk]
          rw [hf] at h
          exact wpAny_bind (wpAny_pure (wpAny_pure (wpAny_pure h)))
  · rintro ⟨r1, r2⟩ s' ⟨hr', rfl, x', y', xs', ys', hz, hx', hy', hdec, hlen⟩
    simp only at hr'
    subst hr'
    refine wpAny_pure ?_
    have hfin : (xs.size == ys.size) = decide (x = y) := by
      rw [← hdec, ← hlen]
      cases hx' with
      | nil =>
        cases hy' with
        | nil => simp
        | cons _ _ => simp
      | cons _ _ =>
        cases hy' with
        | nil => simp
        | cons _ _ => simp at hz
    show P (.done (.ret (.bool (xs.size == ys.size)))) s'
    rw [hfin]; exact h
theorem eqBool_n {x y : List K} {a b : Addr} {Q : Bool → Shared → Prop} (hu : A.units < cLine) (hr : knd.room A.in1) (hx : IsN knd s.heap x a) (hy : IsN knd s.heap y b) (h : Q (decide (x = y)) s) :
    wpAny (model prog w) A (eqBool (.ref a) (.ref b)) Q E s := by
  unfold eqBool
  try with_reducible refine wpAny_holding ?_
  show wpAny _ _ (if (Value.ref a == Value.ref b) = true then _ else _) Q E s
  by_cases hab : (Value.ref a == Value.ref b) = true
  · rw [if_pos hab]
    have e : a = b := by have := eq_of_beq hab; injection this
    subst e
    obtain rfl := hx.inj hy
    exact wpAny_bind (wpAny_rule (wpAny_pure (by simpa using h)))
  · rw [if_neg hab]
    exact wpAny_bind (wpAny_richCompare_same_room (op := .Eq) hx.typeIs hy.typeIs F.slot_tuple_eq
      (wpAny_call_entry F.slot_tuple_eq hx.typeIs F.entry_tuple_eq (eq_tree hr hx hy ⟨_, rfl, (fun e => nomatch e), wpAny_truthy_bool h⟩) (F.args_tuple_eq_2 _ _)) hu)
theorem quiet_n {ks : List K} {a : Addr} {Q : Bool → Shared → Prop} (n : Nat) (hn : knd.q + 1 ≤ n) (hk : IsN knd s.heap ks a) (h : Q true s) : wpAny (model prog w) A (eqIsQuiet n (.ref a)) Q E s := by
  have hT := hk.typeIs
  obtain ⟨o, items, m, ho, _, hd, hi⟩ := hk
  obtain ⟨n, rfl⟩ : ∃ k, n = k + 1 := ⟨n - 1, by omega⟩
  unfold eqIsQuiet
  refine wpAny_bind (wpAny_specialOf hT F.slot_tuple_eq.lookup ?_)
  show wpAny _ _ (isInstance (.ref a) (.type "tuple") >>= _) _ _ s
  refine wpAny_bind (wpAny_isInstance hT isSubtype_tuple_tuple ?_)
  simp only [Bool.not_true, Bool.false_eq_true, if_false]
  refine wpAny_bind (wpAny_seqItems ho hd ?_)
  refine wpAny_bind ?_
  show wpAny _ _ (forIn items _ _) _ _ s
  rw [← Array.forIn_toList]
  refine wpAny_forIn_list _ (fun rest r s' => r.1 = none ∧ s' = s ∧ ∃ l, Its knd s.heap l rest) _ ?_ ?_ _ _ ⟨rfl, rfl, ks, hi⟩
  · rintro v rest r s' ⟨hr, rfl, l, hl⟩
    cases hl with
    | cons h1 hl' =>
    refine wpAny_bind (knd.quietN n (by omega) h1 ?_)
    simp only [Bool.not_true, Bool.false_eq_true, if_false]
    exact wpAny_pure ⟨rfl, rfl, _, hl'⟩
  · rintro ⟨r1, r2⟩ s' ⟨hr, rfl, _⟩
    simp only at hr
    subst hr
    exact wpAny_pure h
end
def nestK {prog : Program} {w : World} {K : Type} [DecidableEq K] (knd : HK prog w K) (hq : knd.q < 8) : HK prog w (List K) where
  is := IsN knd
  hash := hashN knd
  draws := drawsN knd
  room := fun A => A.units < cLine ∧ knd.room A.in1
  inj := fun hx hy => hx.inj hy
  keeps := fun x ho hd hs => x.keeps ho hd hs
  pyHash := fun hu hk h => pyHash_n hu.1 hu.2 hk h
  eqBool := fun hu hx hy h => eqBool_n hu.1 hu.2 hx hy h
  quiet := fun hk h => quiet_n 8 (by omega) hk h
  q := knd.q + 1
  quietN := fun n hn hk h => quiet_n n hn hk h
abbrev TK := List (List (List Int))
/-- tuples of tuples of tuples of whole numbers -/
def tk3 (P : Program) (w : World) : HK P w TK := nestK (nestK (flatK (intKind P w)) (show 1 < 8 by omega)) (show 2 < 8 by omega)
def hash3 (k : TK) : Int := reduceHash (Builtin.Tuple.tupleHashOf (k.map fun l => reduceHash (Builtin.Tuple.tupleHashOf (l.map fun p => reduceHash (Builtin.Tuple.tupleHashOf (p.map hashInt))))))
end NK


set_option Elab.async false
set_option linter.all false
set_option maxRecDepth 100000
set_option maxHeartbeats 1000000
/-! THE DATA LAYER: what an expression, a statement, a def is worth as a Lean function over data, with lists of one's own ("cells") held by value. -/
namespace DL
open PySem L2

/-! ### data: what a value reads as, dicts (of whole numbers and texts as keys, that stand still) among them -/
def keyD : Key → PyData
  | .inl i => .int i
  | .inr x => .str x
/-! a dict whose keys are tuples of tuples of tuples of whole numbers, its values True, that stands still -/
def ptD (k : List Int) : PyData := .tuple (k.map PyData.int)
def lnD (k : List (List Int)) : PyData := .tuple (k.map ptD)
def tkD (k : NK.TK) : PyData := .tuple (k.map lnD)
def dn (ks : List NK.TK) : PyData := .dict ((.none, .none) :: ks.map fun k => (tkD k, .bool true))
def ents (ks : List NK.TK) (bs : List Addr) : List DictEntry := List.zipWith (fun k b => ⟨NK.hash3 k, .ref b, .bool true⟩) ks bs
def isDn (a : Addr) (ks : List NK.TK) (bs : List Addr) (h : Heap) : Prop := (a == sysModules) = false ∧ ∃ o es ep, h.get? a = some o ∧ o.ExactDict ∧ o.data = .dict es ep ∧ es.toList = ents ks bs
mutual
inductive Dq (K : PySem.W.Frag) (H : Hp) : V → PyData → Prop
  | non : Dq K H .non .none
  | bl (b : Bool) : Dq K H (.bl b) (.bool b)
  | int (i : Int) : Dq K H (.int i) (.int i)
  | str (x : Str) : Dq K H (.str x) (.str x)
  | lst {a : Addr} {xs : List V} {ds : List PyData} (h : SqL K H a xs) (r : DqAll K H xs ds) : Dq K H (.ref a) (.list ds)
  | tup {a : Addr} {xs : List V} {ds : List PyData} (h : SqT K H a xs) (r : DqAll K H xs ds) : Dq K H (.ref a) (.tuple ds)
  | dct {a : Addr} {o : Obj} {kvs : List (Key × V)} {ds : List PyData} (h : H a = some (.frz o (.dK kvs))) (r : DqAll K H (kvs.map (·.2)) ds) : Dq K H (.ref a) (.dict ((kvs.map fun p => keyD p.1).zip ds))
  | dcn {a : Addr} {o : Obj} {ks : List NK.TK} {bs : List Addr} (h : H a = some (.frz o (.ext (isDn a ks bs)))) (r : DqAll K H (bs.map V.ref) (ks.map tkD)) (nd : ks.Nodup) (hl : ks.length ≤ sizeLine) : Dq K H (.ref a) (dn ks)
inductive DqAll (K : PySem.W.Frag) (H : Hp) : List V → List PyData → Prop
  | nil : DqAll K H [] []
  | cons {v : V} {vs : List V} {d : PyData} {ds : List PyData} (h : Dq K H v d) (r : DqAll K H vs ds) : DqAll K H (v :: vs) (d :: ds)
end
mutual
theorem dq_dp {K : PySem.W.Frag} {H : Hp} : ∀ {v : V} {d : PyData}, d.canLay0 = true → Dq K H v d → Dp K H v d
  | _, _, _, .non => .non
  | _, _, _, .bl b => .bl b
  | _, _, _, .int i => .int i
  | _, _, _, .str x => .str x
  | _, _, c, .lst h a => .lst h (dqAll_dp (by simpa only [PyData.canLay0] using c) a)
  | _, _, c, .tup h a => .tup h (dqAll_dp (by simpa only [PyData.canLay0] using c) a)
  | _, _, c, .dct _ _ => by simp [PyData.canLay0] at c
  | _, _, c, .dcn _ _ _ _ => by simp [dn, PyData.canLay0] at c
theorem dqAll_dp {K : PySem.W.Frag} {H : Hp} : ∀ {vs : List V} {ds : List PyData}, PyData.canLayAll0 ds = true → DqAll K H vs ds → DpAll K H vs ds
  | _, _, _, .nil => .nil
  | _, _, c, .cons h t => by
    simp only [PyData.canLayAll0, Bool.and_eq_true] at c
    exact .cons (dq_dp c.1 h) (dqAll_dp c.2 t)
end
/-! ### heaps without some addresses, without the codes' tables -/
def noTb : Option HO → Option HO
  | some (.tbl _) => none
  | o => o
theorem noTb_some {o : Option HO} {u : HO} (h : noTb o = some u) : o = some u := by
  cases o with
  | none => cases h
  | some x => cases x <;> first | exact h | cases h
theorem noTb_idem {u : HO} {o o' : Option HO} (h : noTb o = some u) (e : o' = some u) : noTb o' = some u := by
  have z := noTb_some h
  rw [e]; rw [z] at h; exact h
theorem noTb_of {o : Option HO} (h : ∀ ps, o ≠ some (.tbl ps)) : noTb o = o := by
  cases o with
  | none => rfl
  | some x => cases x <;> first | rfl | exact absurd rfl (h _)
def hid (M : List Addr) (H : Hp) : Hp := fun a => if a ∈ M then none else noTb (H a)
theorem hid_in {M : List Addr} {H : Hp} {a : Addr} (h : a ∈ M) : hid M H a = none := by unfold hid; rw [if_pos h]
theorem hid_ne {M : List Addr} {H : Hp} {a : Addr} (h : a ∉ M) : hid M H a = noTb (H a) := by unfold hid; rw [if_neg h]
theorem hid_out {M : List Addr} {H : Hp} {a : Addr} {o : HO} (h : a ∉ M) (e : H a = some o) (n : ∀ ps, o ≠ .tbl ps) : hid M H a = some o := by rw [hid_ne h, noTb_of (by rw [e]; exact fun ps z => n ps (Option.some.inj z)), e]
theorem hid_sub (M : List Addr) (H : Hp) : Same (hid M H) H := fun b o h => by
  by_cases m : b ∈ M
  · rw [hid_in m] at h; cases h
  · rw [hid_ne m] at h; exact noTb_some h
theorem hid_same {M : List Addr} {H H' : Hp} (s : Same H H') : Same (hid M H) (hid M H') := fun b o h => by
  by_cases m : b ∈ M
  · rw [hid_in m] at h; cases h
  · rw [hid_ne m] at h ⊢; exact noTb_idem h (s b o (noTb_some h))
theorem hid_anti {M M' : List Addr} {H : Hp} (s : ∀ a ∈ M', a ∈ M) : Same (hid M H) (hid M' H) := fun b o h => by
  by_cases m : b ∈ M
  · rw [hid_in m] at h; cases h
  · rw [hid_ne m] at h; rw [hid_ne fun z => m (s b z)]; exact h
theorem hid_mut {M : List Addr} {H : Hp} {a : Addr} {o : HO} (h : a ∈ M) : hid M (upd H a o) = hid M H := by
  funext b
  by_cases m : b ∈ M
  · rw [hid_in m, hid_in m]
  · rw [hid_ne m, hid_ne m, upd_ne fun z => m (by rw [z]; exact h)]
theorem hid_new {M : List Addr} {H : Hp} {p : Addr} {o : HO} (h : H p = none) : hid (p :: M) (upd H p o) = hid M H := by
  funext b
  by_cases e : b = p
  · subst e
    rw [hid_in List.mem_cons_self]
    by_cases m : b ∈ M
    · rw [hid_in m]
    · rw [hid_ne m, h]; rfl
  · by_cases m : b ∈ M
    · rw [hid_in (List.mem_cons_of_mem _ m), hid_in m]
    · rw [hid_ne m, hid_ne (by simp [e, m]), upd_ne e]
theorem same_upd {H : Hp} {p : Addr} (h : H p = none) (o : HO) : Same H (upd H p o) := fun b u q => by rw [upd_ne (ne_of_none q h)]; exact q

/-! ### data -/
theorem sameT {K : PySem.W.Frag} {H H' : Hp} {a : Addr} {xs : List V} (e : Same H H') (h : SqT K H a xs) : SqT K H' a xs := by
  rcases h with (h | ⟨o, h⟩) | h
  · exact .inl (.inl (e _ _ h))
  · exact .inl (.inr ⟨o, e _ _ h⟩)
  · exact .inr h
mutual
theorem dp_mono {K : PySem.W.Frag} {H H' : Hp} (s : Same H H') : ∀ {v : V} {d : PyData}, Dq K H v d → Dq K H' v d
  | _, _, .non => .non
  | _, _, .bl b => .bl b
  | _, _, .int i => .int i
  | _, _, .str x => .str x
  | _, _, .lst h a => .lst (s.seq h) (dpAll_mono s a)
  | _, _, .tup h a => .tup (sameT s h) (dpAll_mono s a)
  | _, _, .dct h a => .dct (s _ _ h) (dpAll_mono s a)
  | _, _, .dcn h a n l => .dcn (s _ _ h) (dpAll_mono s a) n l
theorem dpAll_mono {K : PySem.W.Frag} {H H' : Hp} (s : Same H H') : ∀ {vs : List V} {ds : List PyData}, DqAll K H vs ds → DqAll K H' vs ds
  | _, _, .nil => .nil
  | _, _, .cons h t => .cons (dp_mono s h) (dpAll_mono s t)
end
theorem dpAll_len {K : PySem.W.Frag} {H : Hp} : ∀ {vs : List V} {ds : List PyData}, DqAll K H vs ds → vs.length = ds.length
  | _, _, .nil => rfl
  | _, _, .cons _ t => by rw [List.length_cons, List.length_cons, dpAll_len t]
theorem dpAll_get {K : PySem.W.Frag} {H : Hp} : ∀ {vs : List V} {ds : List PyData} {i : Nat} {d : PyData}, DqAll K H vs ds → ds[i]? = some d → ∃ v, vs[i]? = some v ∧ Dq K H v d
  | _, _, _, _, .nil, e => by simp at e
  | _, _, 0, _, .cons h _, e => by simp at e; subst e; exact ⟨_, rfl, h⟩
  | _, _, i + 1, d, .cons _ t, e => by
    obtain ⟨v, h1, h2⟩ := dpAll_get (i := i) (d := d) t (by simpa using e)
    exact ⟨v, by simpa using h1, h2⟩
theorem dpAll_app {K : PySem.W.Frag} {H : Hp} : ∀ {vs ws : List V} {ds es : List PyData}, DqAll K H vs ds → DqAll K H ws es → DqAll K H (vs ++ ws) (ds ++ es)
  | _, _, _, _, .nil, t => t
  | _, _, _, _, .cons h t, u => .cons h (dpAll_app t u)
theorem dpAll_drop {K : PySem.W.Frag} {H : Hp} : ∀ {vs : List V} {ds : List PyData} (n : Nat), DqAll K H vs ds → DqAll K H (vs.drop n) (ds.drop n)
  | _, _, 0, h => h
  | _, _, _ + 1, .nil => .nil
  | _, _, n + 1, .cons _ t => dpAll_drop n t
theorem dpAll_take {K : PySem.W.Frag} {H : Hp} : ∀ {vs : List V} {ds : List PyData} (n : Nat), DqAll K H vs ds → DqAll K H (vs.take n) (ds.take n)
  | _, _, 0, _ => .nil
  | _, _, _ + 1, .nil => .nil
  | _, _, n + 1, .cons h t => .cons h (dpAll_take n t)
theorem dpAll_set {K : PySem.W.Frag} {H : Hp} {v : V} {d : PyData} (h : Dq K H v d) : ∀ {vs : List V} {ds : List PyData} (n : Nat), DqAll K H vs ds → DqAll K H (vs.set n v) (ds.set n d)
  | _, _, _, .nil => .nil
  | _, _, 0, .cons _ t => .cons h t
  | _, _, n + 1, .cons g t => .cons g (dpAll_set h n t)
theorem dpAll_ofInts {K : PySem.W.Frag} {H : Hp} : ∀ (ns : List Int), DqAll K H (ns.map V.int) (ns.map PyData.int)
  | [] => .nil
  | n :: ns => .cons (.int n) (dpAll_ofInts ns)

/-! ### frames -/
inductive En where
  | un
  | dat (d : PyData)
  | cel (xs : List PyData)
inductive Rv where
  | dat (d : PyData)
  | slot (i : Nat)
  | new (xs : List PyData)
abbrev FE := List En → Option (Rv × List En)
abbrev FT := List En → Option (Bool × List En)
abbrev FA := List En → Option (List PyData × List En)

/-- the defs whose code makes generators -/
def tbNames : List Str := ["in_order", "is_cut", "is_square", "is_touching", "touching_of", "numbers_on", "is_numbers", "is_falling", "is_web", "web_of", "low_streams", "sizes_by", "is_passed", "built", "numbers_by"]
/-- their codes' tables are known, none of them is one of M -/
structure TbOk (K : PySem.W.Frag) (M : List Addr) (H : Hp) : Prop where
  no : ∀ a ∈ M, ∀ ps, H a ≠ some (.tbl ps)
  nf : ∀ a ∈ M, ∀ o u, H a ≠ some (.frz o u)
  tb : ∀ x ∈ tbNames, ∀ c P, PySem.W.tabIn K x = some (c, P) → ∃ ps, H P = some (.tbl ps) ∧ TriplesOk ps.toList ∧ GE.CodesOk H ps
structure FrD (K : PySem.W.Frag) (Out M : List Addr) (σ : St) (H : Hp) (ρ : List En) : Prop where
  len : ρ.length = σ.length
  dat : ∀ (i : Nat) d, ρ[i]? = some (En.dat d) → ∃ v, σ[i]? = some (some v) ∧ Dq K (hid M H) v d
  cel : ∀ (i : Nat) xs, ρ[i]? = some (En.cel xs) → ∃ a vs, σ[i]? = some (some (V.ref a)) ∧ a ∈ M ∧ a ∉ Out ∧ H a = some (.lst vs) ∧ DqAll K (hid M H) vs xs
  inj : ∀ (i j : Nat) xs ys a, ρ[i]? = some (En.cel xs) → ρ[j]? = some (En.cel ys) → σ[i]? = some (some (V.ref a)) → σ[j]? = some (some (V.ref a)) → i = j
  out : ∀ a ∈ Out, a ∈ M
  live : ∀ a ∈ M, H a ≠ none
  tab : TbOk K M H

section
variable {K : PySem.W.Frag} {M : List Addr} {H H' : Hp}
theorem TbOk.grow (t : TbOk K M H) (lv : ∀ a ∈ M, H a ≠ none) (s : Same H H') : TbOk K M H' := ⟨fun a m ps e => by
  cases q : H a with
  | none => exact lv a m q
  | some o =>
    rw [s a o q] at e; cases e
    exact t.no a m ps q, fun a m ob u e => by
  cases q : H a with
  | none => exact lv a m q
  | some o =>
    rw [s a o q] at e; cases e
    exact t.nf a m ob u q, fun x hx c P e => let ⟨ps, h, r, k⟩ := t.tb x hx c P e; ⟨ps, s P _ h, r, k.mono fun c o u z => s c _ z⟩⟩
theorem TbOk.new (t : TbOk K M H) {p : Addr} (h : H p = none) (vs : List V) : TbOk K (p :: M) (upd H p (.lst vs)) := ⟨fun a m ps e => by
  by_cases z : a = p
  · subst z; rw [upd_same] at e; cases e
  · rw [upd_ne z] at e
    rcases List.mem_cons.mp m with w | w
    · exact z w
    · exact t.no a w ps e, fun a m ob u e => by
  by_cases z : a = p
  · subst z; rw [upd_same] at e; cases e
  · rw [upd_ne z] at e
    rcases List.mem_cons.mp m with w | w
    · exact z w
    · exact t.nf a w ob u e, fun x hx c P e => let ⟨ps, q, r, k⟩ := t.tb x hx c P e; ⟨ps, by rw [upd_ne (ne_of_none q h)]; exact q, r, k.mono fun c o u z => by rw [upd_ne (ne_of_none z h)]; exact z⟩⟩
theorem TbOk.sub {M' : List Addr} (t : TbOk K M H) (s : ∀ a ∈ M', a ∈ M) : TbOk K M' H := ⟨fun a m => t.no a (s a m), fun a m => t.nf a (s a m), t.tb⟩
theorem TbOk.put (t : TbOk K M H) {a : Addr} (m : a ∈ M) (vs : List V) : TbOk K M (upd H a (.lst vs)) := ⟨fun b w ps e => by
  by_cases z : b = a
  · subst z; rw [upd_same] at e; cases e
  · rw [upd_ne z] at e; exact t.no b w ps e, fun b w ob u e => by
  by_cases z : b = a
  · subst z; rw [upd_same] at e; cases e
  · rw [upd_ne z] at e; exact t.nf b w ob u e, fun x hx c P e => let ⟨ps, q, r, k⟩ := t.tb x hx c P e; ⟨ps, by rw [upd_ne fun z => t.no a m ps (by rw [← z]; exact q)]; exact q, r, k.mono fun c o u y => by rw [upd_ne fun z => t.nf a m o u (by rw [← z]; exact y)]; exact y⟩⟩
end

structure Ext (Out M : List Addr) (H : Hp) (M' : List Addr) (H' : Hp) : Prop where
  same : Same (hid M H) (hid M' H')
  out : ∀ a ∈ Out, H' a = H a
theorem Ext.refl (Out M : List Addr) (H : Hp) : Ext Out M H M H := ⟨Same.refl _, fun _ _ => rfl⟩
theorem Ext.trans {Out M M1 M2 : List Addr} {H H1 H2 : Hp} (a : Ext Out M H M1 H1) (b : Ext Out M1 H1 M2 H2) : Ext Out M H M2 H2 :=
  ⟨a.same.trans b.same, fun c h => (b.out c h).trans (a.out c h)⟩
theorem Ext.weak {Out Out' M M1 : List Addr} {H H1 : Hp} (a : Ext Out' M H M1 H1) (s : ∀ b ∈ Out, b ∈ Out') : Ext Out M H M1 H1 := ⟨a.same, fun c h => a.out c (s c h)⟩

/-- the first P slots that hold a cell hold one still -/
def Kd (P : Nat) (ρ ρ' : List En) : Prop := ∀ i : Nat, i < P → ∀ xs, ρ[i]? = some (En.cel xs) → ∃ ys, ρ'[i]? = some (En.cel ys)
theorem Kd.refl (P : Nat) (ρ : List En) : Kd P ρ ρ := fun _ _ xs h => ⟨xs, h⟩
theorem Kd.trans {P : Nat} {a b c : List En} (x : Kd P a b) (y : Kd P b c) : Kd P a c := fun i hi xs h => let ⟨ys, h1⟩ := x i hi xs h; y i hi ys h1

def RvOk (K : PySem.W.Frag) (Out M : List Addr) (σ : St) (H : Hp) (ρ : List En) : Rv → V → Prop
  | .dat d, v => Dq K (hid M H) v d
  | .slot i, v => σ[i]? = some (some v) ∧ ∃ xs, ρ[i]? = some (En.cel xs)
  | .new xs, v => ∃ a vs, v = .ref a ∧ a ∈ M ∧ a ∉ Out ∧ H a = some (.lst vs) ∧ DqAll K (hid M H) vs xs ∧ ∀ (i : Nat) ys, ρ[i]? = some (En.cel ys) → σ[i]? ≠ some (some (V.ref a))

section
variable {K : PySem.W.Frag} {Out M : List Addr} {σ : St} {H H' : Hp} {ρ : List En}
theorem FrD.grow (F : FrD K Out M σ H ρ) (s : Same H H') : FrD K Out M σ H' ρ where
  len := F.len
  dat := fun i d h => let ⟨v, e, q⟩ := F.dat i d h; ⟨v, e, dp_mono (hid_same s) q⟩
  cel := fun i xs h => let ⟨a, vs, e, m, o, q, r⟩ := F.cel i xs h; ⟨a, vs, e, m, o, s a _ q, dpAll_mono (hid_same s) r⟩
  inj := F.inj
  out := F.out
  live := fun a h e => F.live a h (s.free e)
  tab := F.tab.grow F.live s
theorem FrD.ext (F : FrD K Out M σ H ρ) (s : Same H H') : Ext Out M H M H' := ⟨hid_same s, fun a h => by
  cases q : H a with
  | none => exact absurd q (F.live a (F.out a h))
  | some o => exact s a o q⟩
/-- a new list is laid and kept as a cell -/
theorem FrD.celNew (F : FrD K Out M σ H ρ) {p : Addr} (h : H p = none) (vs : List V) : FrD K Out (p :: M) σ (upd H p (.lst vs)) ρ where
  len := F.len
  dat := fun i d q => let ⟨v, e, q⟩ := F.dat i d q; ⟨v, e, by rw [hid_new h]; exact q⟩
  cel := fun i xs q => let ⟨a, vs, e, m, o, q, r⟩ := F.cel i xs q; ⟨a, vs, e, List.mem_cons_of_mem _ m, o, by rw [upd_ne (ne_of_none q h)]; exact q, by rw [hid_new h]; exact r⟩
  inj := F.inj
  out := fun a q => List.mem_cons_of_mem _ (F.out a q)
  live := fun a q e => by
    rcases List.mem_cons.mp q with z | z
    · subst z; rw [upd_same] at e; cases e
    · by_cases w : a = p
      · subst w; rw [upd_same] at e; cases e
      · rw [upd_ne w] at e; exact F.live a z e
  tab := F.tab.new h vs
theorem FrD.extNew (F : FrD K Out M σ H ρ) {p : Addr} (h : H p = none) (vs : List V) : Ext Out M H (p :: M) (upd H p (.lst vs)) :=
  ⟨by rw [hid_new h]; exact Same.refl _, fun a q => upd_ne fun z => F.live a (F.out a q) (by rw [z]; exact h)⟩
theorem FrD.rvNew (F : FrD K Out M σ H ρ) {p : Addr} (h : H p = none) {vs : List V} {xs : List PyData} (d : DqAll K (hid M H) vs xs) : RvOk K Out (p :: M) σ (upd H p (.lst vs)) ρ (.new xs) (.ref p) :=
  ⟨p, vs, rfl, List.mem_cons_self, fun q => F.live p (F.out p q) h, upd_same, by rw [hid_new h]; exact d, fun i ys e z => by
    obtain ⟨a, ws, e1, m, _⟩ := F.cel i ys e
    rw [z] at e1; cases e1
    exact F.live p m h⟩
/-- a cell that no slot holds is let go: it is data from here on -/
theorem FrD.drop (F : FrD K Out M σ H ρ) {a : Addr} (ho : a ∉ Out) (hs : ∀ (i : Nat) ys, ρ[i]? = some (En.cel ys) → σ[i]? ≠ some (some (V.ref a))) : FrD K Out (M.filter (fun b => decide (b ≠ a))) σ H ρ where
  len := F.len
  dat := fun i d q => let ⟨v, e, q⟩ := F.dat i d q; ⟨v, e, dp_mono (hid_anti fun b h => (List.mem_filter.mp h).1) q⟩
  cel := fun i xs q => let ⟨b, vs, e, m, o, q', r⟩ := F.cel i xs q; ⟨b, vs, e, List.mem_filter.mpr ⟨m, decide_eq_true fun z => hs i xs q (by rw [e, z])⟩, o, q', dpAll_mono (hid_anti fun b h => (List.mem_filter.mp h).1) r⟩
  inj := F.inj
  out := fun b q => List.mem_filter.mpr ⟨F.out b q, decide_eq_true fun z => ho (by rw [← z]; exact q)⟩
  live := fun b q => F.live b (List.mem_filter.mp q).1
  tab := F.tab.sub fun b h => (List.mem_filter.mp h).1
theorem Ext.drop {Out M : List Addr} {H : Hp} {a : Addr} : Ext Out M H (M.filter (fun b => decide (b ≠ a))) H := ⟨hid_anti fun b h => (List.mem_filter.mp h).1, fun _ _ => rfl⟩
theorem not_mem_drop {M : List Addr} {a : Addr} : a ∉ M.filter (fun b => decide (b ≠ a)) := fun h => of_decide_eq_true (List.mem_filter.mp h).2 rfl
theorem FrD.weak {Out' : List Addr} (F : FrD K Out M σ H ρ) (s : ∀ a ∈ Out', a ∈ Out) : FrD K Out' M σ H ρ :=
  ⟨F.len, F.dat, fun i xs q => let ⟨a, vs, e, m, o, r⟩ := F.cel i xs q; ⟨a, vs, e, m, fun z => o (s a z), r⟩, F.inj, fun a h => F.out a (s a h), F.live, F.tab⟩
/-- a cell that no slot holds is guarded -/
theorem FrD.guard (F : FrD K Out M σ H ρ) {a : Addr} (m : a ∈ M) (hs : ∀ (i : Nat) ys, ρ[i]? = some (En.cel ys) → σ[i]? ≠ some (some (V.ref a))) : FrD K (a :: Out) M σ H ρ :=
  ⟨F.len, F.dat, fun i xs q => let ⟨b, vs, e, m, o, r⟩ := F.cel i xs q; ⟨b, vs, e, m, fun z => by
    rcases List.mem_cons.mp z with z | z
    · exact hs i xs q (by rw [e, z])
    · exact o z, r⟩, F.inj, fun b h => by
    rcases List.mem_cons.mp h with z | z
    · rw [z]; exact m
    · exact F.out b z, F.live, F.tab⟩
/-- a slot is stored, what it held is forgotten -/
theorem FrD.set (F : FrD K Out M σ H ρ) {i : Nat} {v : V} {d : PyData} (h : Dq K (hid M H) v d) : FrD K Out M (σ.set i (some v)) H (ρ.set i (.dat d)) where
  len := by rw [List.length_set, List.length_set]; exact F.len
  dat := fun j e q => by
    by_cases hij : i = j
    · subst hij
      by_cases hl : i < ρ.length
      · rw [List.getElem?_set_self hl] at q; cases q
        exact ⟨v, List.getElem?_set_self (by rw [← F.len]; exact hl), h⟩
      · rw [List.getElem?_eq_none (by rw [List.length_set]; omega)] at q; cases q
    · rw [List.getElem?_set_ne hij] at q ⊢; exact F.dat j e q
  cel := fun j xs q => by
    by_cases hij : i = j
    · subst hij
      by_cases hl : i < ρ.length
      · rw [List.getElem?_set_self hl] at q; cases q
      · rw [List.getElem?_eq_none (by rw [List.length_set]; omega)] at q; cases q
    · rw [List.getElem?_set_ne hij] at q ⊢; exact F.cel j xs q
  inj := fun j k xs ys a q1 q2 e1 e2 => by
    have ne : ∀ {j : Nat} {xs : List PyData}, (ρ.set i (.dat d))[j]? = some (En.cel xs) → i ≠ j := fun {j xs} q z => by
      subst z
      by_cases hl : i < ρ.length
      · rw [List.getElem?_set_self hl] at q; cases q
      · rw [List.getElem?_eq_none (by rw [List.length_set]; omega)] at q; cases q
    have n1 := ne q1
    have n2 := ne q2
    rw [List.getElem?_set_ne n1] at q1 e1
    rw [List.getElem?_set_ne n2] at q2 e2
    exact F.inj j k xs ys a q1 q2 e1 e2
  out := F.out
  live := F.live
  tab := F.tab
/-- a new cell goes into a slot -/
theorem FrD.setNew (F : FrD K Out M σ H ρ) {i : Nat} {v : V} {xs : List PyData} (h : RvOk K Out M σ H ρ (.new xs) v) : FrD K Out M (σ.set i (some v)) H (ρ.set i (.cel xs)) := by
  obtain ⟨a, vs, rfl, m, o, ha, dd, hs⟩ := h
  have get : ∀ {j : Nat} {ys : List PyData}, (ρ.set i (.cel xs))[j]? = some (En.cel ys) → (i = j ∧ ys = xs ∧ j < ρ.length) ∨ (i ≠ j ∧ ρ[j]? = some (En.cel ys)) := fun {j ys} q => by
    by_cases hij : i = j
    · subst hij
      by_cases hl : i < ρ.length
      · rw [List.getElem?_set_self hl] at q; cases q; exact .inl ⟨rfl, rfl, hl⟩
      · rw [List.getElem?_eq_none (by rw [List.length_set]; omega)] at q; cases q
    · rw [List.getElem?_set_ne hij] at q; exact .inr ⟨hij, q⟩
  refine ⟨by rw [List.length_set, List.length_set]; exact F.len, fun j e q => ?_, fun j ys q => ?_, fun j k ys zs b q1 q2 e1 e2 => ?_, F.out, F.live, F.tab⟩
  · by_cases hij : i = j
    · subst hij
      by_cases hl : i < ρ.length
      · rw [List.getElem?_set_self hl] at q; cases q
      · rw [List.getElem?_eq_none (by rw [List.length_set]; omega)] at q; cases q
    · rw [List.getElem?_set_ne hij] at q ⊢; exact F.dat j e q
  · rcases get q with ⟨z, e, hl⟩ | ⟨z, q⟩
    · subst z; subst e
      exact ⟨a, vs, List.getElem?_set_self (by rw [← F.len]; exact hl), m, o, ha, dd⟩
    · rw [List.getElem?_set_ne z]; exact F.cel j ys q
  · rcases get q1 with ⟨z1, _, l1⟩ | ⟨z1, q1⟩ <;> rcases get q2 with ⟨z2, _, l2⟩ | ⟨z2, q2⟩
    · rw [← z1, ← z2]
    · subst z1
      rw [List.getElem?_set_self (by rw [← F.len]; exact l1)] at e1
      rw [List.getElem?_set_ne z2] at e2
      cases e1
      exact absurd e2 (hs k zs q2)
    · subst z2
      rw [List.getElem?_set_self (by rw [← F.len]; exact l2)] at e2
      rw [List.getElem?_set_ne z1] at e1
      cases e2
      exact absurd e1 (hs j ys q1)
    · rw [List.getElem?_set_ne z1] at e1
      rw [List.getElem?_set_ne z2] at e2
      exact F.inj j k ys zs b q1 q2 e1 e2
/-- a cell's content is changed -/
theorem FrD.celPut (F : FrD K Out M σ H ρ) {i : Nat} {a : Addr} {xs ys : List PyData} {ws : List V} (h : ρ[i]? = some (En.cel xs)) (e : σ[i]? = some (some (V.ref a))) (d : DqAll K (hid M H) ws ys) : FrD K Out M σ (upd H a (.lst ws)) (ρ.set i (.cel ys)) ∧ Ext Out M H M (upd H a (.lst ws)) := by
  obtain ⟨a', vs, e', m, o, ha, dd⟩ := F.cel i xs h
  rw [e] at e'; cases e'
  have hl : i < ρ.length := (List.getElem?_eq_some_iff.mp h).1
  have get : ∀ {j : Nat} {zs : List PyData}, (ρ.set i (.cel ys))[j]? = some (En.cel zs) → (i = j ∧ zs = ys) ∨ (i ≠ j ∧ ρ[j]? = some (En.cel zs)) := fun {j zs} q => by
    by_cases hij : i = j
    · subst hij; rw [List.getElem?_set_self hl] at q; cases q; exact .inl ⟨rfl, rfl⟩
    · rw [List.getElem?_set_ne hij] at q; exact .inr ⟨hij, q⟩
  have old : ∀ {j : Nat} {zs : List PyData}, (ρ.set i (.cel ys))[j]? = some (En.cel zs) → ∃ zs', ρ[j]? = some (En.cel zs') := fun {j zs} q => by
    rcases get q with ⟨z, _⟩ | ⟨_, q⟩
    · subst z; exact ⟨xs, h⟩
    · exact ⟨zs, q⟩
  refine ⟨⟨by rw [List.length_set]; exact F.len, fun j f q => ?_, fun j zs q => ?_, fun j k zs ws' b q1 q2 e1 e2 => ?_, F.out, fun b q z => ?_, F.tab.put m ws⟩, ⟨by rw [hid_mut m]; exact Same.refl _, fun b q => upd_ne fun z => o (by rw [← z]; exact q)⟩⟩
  · by_cases hij : i = j
    · subst hij; rw [List.getElem?_set_self hl] at q; cases q
    · rw [List.getElem?_set_ne hij] at q
      rw [hid_mut m]; exact F.dat j f q
  · rcases get q with ⟨z, e1⟩ | ⟨z, q⟩
    · subst z; subst e1
      exact ⟨a, ws, e, m, o, upd_same, by rw [hid_mut m]; exact d⟩
    · obtain ⟨b, us, e1, m1, o1, hb, db⟩ := F.cel j zs q
      refine ⟨b, us, e1, m1, o1, ?_, by rw [hid_mut m]; exact db⟩
      rw [upd_ne fun w => z (F.inj i j xs zs a h q e (by rw [e1, w]))]; exact hb
  · obtain ⟨_, o1⟩ := old q1
    obtain ⟨_, o2⟩ := old q2
    exact F.inj j k _ _ b o1 o2 e1 e2
  · by_cases w : b = a
    · subst w; rw [upd_same] at z; cases z
    · rw [upd_ne w] at z; exact F.live b q z
end
end DL


set_option Elab.async false
set_option linter.all false
set_option maxRecDepth 100000
set_option maxHeartbeats 1000000
namespace DL
open PySem L2

/-! ### judgements -/
def SE (K : PySem.W.Frag) (P : Nat) (te : TE) (f : FE) : Prop :=
  ∀ (Out M : List Addr) (σ : St) (H : Hp) (ρ : List En) (r : Rv) (ρ' : List En) (Q : VK), FrD K Out M σ H ρ → f ρ = some (r, ρ') →
    (∀ v M' H', FrD K Out M' σ H' ρ' → Ext Out M H M' H' → Kd P ρ ρ' → RvOk K Out M' σ H' ρ' r v → Q v H') → te σ H Q
def STt (K : PySem.W.Frag) (P : Nat) (tt : TT) (f : FT) : Prop :=
  ∀ (Out M : List Addr) (σ : St) (H : Hp) (ρ : List En) (b : Bool) (ρ' : List En) (Q : Bool → Hp → Prop), FrD K Out M σ H ρ → f ρ = some (b, ρ') →
    (∀ M' H', FrD K Out M' σ H' ρ' → Ext Out M H M' H' → Kd P ρ ρ' → Q b H') → tt σ H Q
def SA (K : PySem.W.Frag) (P : Nat) (ta : TA) (f : FA) : Prop :=
  ∀ (Out M : List Addr) (σ : St) (H : Hp) (ρ : List En) (ds : List PyData) (ρ' : List En) (Q : List V → Hp → Prop), FrD K Out M σ H ρ → f ρ = some (ds, ρ') →
    (∀ vs M' H', FrD K Out M' σ H' ρ' → Ext Out M H M' H' → Kd P ρ ρ' → DqAll K (hid M' H') vs ds → Q vs H') → ta σ H Q
def DE (X : Cx) (P : Nat) (e : Expr) (te : TE) (f : FE) : Prop := PE X e te ∧ SE X.K P te f
def DT (X : Cx) (P : Nat) (e : Expr) (tt : TT) (f : FT) : Prop := PT X e tt ∧ STt X.K P tt f
def DW (X : Cx) (P : Nat) (e : Expr) (tt : TT) (f : FT) : Prop := PW X e tt ∧ STt X.K P tt f
def DA (X : Cx) (P : Nat) (es : List Expr) (ta : TA) (f : FA) : Prop := PA X es ta ∧ SA X.K P ta f

/-! ### names, constants -/
def fVar (i : Nat) : FE := fun ρ => match ρ[i]? with
  | some (.dat d) => some (.dat d, ρ)
  | some (.cel _) => some (.slot i, ρ)
  | _ => none
def fC (d : PyData) : FE := fun ρ => some (.dat d, ρ)
section
variable {X : Cx} {P : Nat}
theorem se_var {K : PySem.W.Frag} (i : Nat) : SE K P (tVar i) (fVar i) := by
  intro Out M σ H ρ r ρ' Q F h q
  unfold fVar at h
  split at h
  · cases h
    rename_i d e
    obtain ⟨v, ev, dv⟩ := F.dat i d e
    exact ⟨v, ev, q v M H F (.refl _ _ _) (.refl _ _) dv⟩
  · cases h
    rename_i xs e
    obtain ⟨a, vs, ev, _⟩ := F.cel i xs e
    exact ⟨_, ev, q _ M H F (.refl _ _ _) (.refl _ _) ⟨ev, xs, e⟩⟩
  · cases h
theorem dv (i : Nat) {x : Str} {pos : Pos} (hN : X.N[i]? = some x := by rfl) (hv : Vis X.env.scope x := by first | exact Or.inl rfl | exact Or.inr (Or.inl rfl) | exact Or.inr (Or.inr rfl)) (hd : (x == ("__debug__" : Str)) = false := by decide)
    (hcd : (x == ("__classdict__" : Str)) = false := by decide) : DE X P (.Name x pos) (tVar i) (fVar i) := ⟨pe_var hN hv hd hcd, se_var i⟩
theorem se_c {K : PySem.W.Frag} {v : V} {d : PyData} (h : ∀ H, Dq K H v d) : SE K P (tC v) (fC d) := by
  intro Out M σ H ρ r ρ' Q F e q
  cases e
  exact q v M H F (.refl _ _ _) (.refl _ _) (h _)
theorem de_int {i j pos} : DE X P (.Constant (.int i) j pos) (tC (.int i)) (fC (.int i)) := ⟨pe_int, se_c fun _ => .int _⟩
theorem de_bl {b j pos} : DE X P (.Constant (.bool b) j pos) (tC (.bl b)) (fC (.bool b)) := ⟨pe_bl, se_c fun _ => .bl _⟩
end

/-! ### two operands -/
def OpD (K : PySem.W.Frag) (r : R2) (g : PyData → PyData → Option PyData) : Prop :=
  ∀ (M : List Addr) (H : Hp) (x y : V) (a b z : PyData) (Q : VK), (∀ c ∈ M, H c ≠ none) → Dq K (hid M H) x a → Dq K (hid M H) y b → g a b = some z → (∀ v H', Same H H' → Dq K (hid M H') v z → Q v H') → r x y H Q
def f2 (g : PyData → PyData → Option PyData) (fa fb : FE) : FE := fun ρ => match fa ρ with
  | some (.dat x, ρ1) => (match fb ρ1 with
    | some (.dat y, ρ2) => (match g x y with
      | some z => some (.dat z, ρ2)
      | none => none)
    | _ => none)
  | _ => none
section
variable {X : Cx} {P : Nat} {a b : Expr} {ta tb : TE} {fa fb : FE} {pos : Pos} {g : PyData → PyData → Option PyData} {r : R2}
theorem f2_some {ρ ρ' : List En} {v : Rv} (h : f2 g fa fb ρ = some (v, ρ')) : ∃ x ρ1 y z, fa ρ = some (.dat x, ρ1) ∧ fb ρ1 = some (.dat y, ρ') ∧ g x y = some z ∧ v = .dat z := by
  unfold f2 at h
  split at h
  · rename_i x ρ1 e1
    split at h
    · rename_i y ρ2 e2
      split at h
      · rename_i z e3
        cases h
        exact ⟨x, ρ1, y, z, e1, e2, e3, rfl⟩
      · cases h
    · cases h
  · cases h
theorem se_2 {K : PySem.W.Frag} (hg : OpD K r g) (sa : SE K P ta fa) (sb : SE K P tb fb) : SE K P (tOp r ta tb) (f2 g fa fb) := by
  intro Out M σ H ρ v ρ' Q F h q
  obtain ⟨x, ρ1, y, z, e1, e2, e3, rfl⟩ := f2_some h
  refine sa Out M σ H ρ _ _ _ F e1 fun v1 M1 H1 F1 X1 k1 o1 => ?_
  refine sb Out M1 σ H1 ρ1 _ ρ' _ F1 e2 fun v2 M2 H2 F2 X2 k2 o2 => ?_
  exact hg M2 H2 v1 v2 x y z Q F2.live (dp_mono X2.same o1) o2 e3 fun w H3 s d => q w M2 H3 (F2.grow s) ((X1.trans X2).trans (F2.ext s)) (k1.trans k2) d
theorem de_op {op : Operator} (ho : OpR X (binaryOp op) r) (hg : OpD X.K r g) (ha : DE X P a ta fa) (hb : DE X P b tb fb) : DE X P (.BinOp a op b pos) (tOp r ta tb) (f2 g fa fb) := ⟨pe_op ho ha.1 hb.1, se_2 hg ha.2 hb.2⟩
end
/-- two whole numbers -/
def gI (C : Int → Int → Bool) (g : Int → Int → PyData) : PyData → PyData → Option PyData
  | .int i, .int j => if C i j then some (g i j) else none
  | _, _ => none
theorem gI_some {C : Int → Int → Bool} {g : Int → Int → PyData} {a b z : PyData} (h : gI C g a b = some z) : ∃ i j, a = .int i ∧ b = .int j ∧ C i j = true ∧ z = g i j := by
  unfold gI at h
  split at h
  · rename_i i j
    split at h
    · rename_i c
      cases h
      exact ⟨i, j, rfl, rfl, c, rfl⟩
    · cases h
  · cases h
theorem opd_rI {K : PySem.W.Frag} {C : Int → Int → Prop} {c : Int → Int → Bool} {g : Int → Int → V} {gd : Int → Int → PyData} (hc : ∀ i j, c i j = true → C i j) (hv : ∀ i j H, Dq K H (g i j) (gd i j)) : OpD K (rI C g) (gI c gd) := by
  intro M H x y a b z Q _ dx dy e q
  obtain ⟨i, j, rfl, rfl, c, rfl⟩ := gI_some e
  cases dx; cases dy
  exact ⟨i, j, rfl, rfl, hc i j c, q _ H (Same.refl _) (hv i j _)⟩
theorem opd_rI0 {K : PySem.W.Frag} {g : Int → Int → V} {gd : Int → Int → PyData} (hv : ∀ i j H, Dq K H (g i j) (gd i j)) : OpD K (rI0 g) (gI (fun _ _ => true) gd) := by
  intro M H x y a b z Q _ dx dy e q
  obtain ⟨i, j, rfl, rfl, c, rfl⟩ := gI_some e
  cases dx; cases dy
  exact ⟨i, j, rfl, rfl, q _ H (Same.refl _) (hv i j _)⟩
def gAdd := gI (fun _ _ => true) fun i j => .int (i + j)
def gSub := gI (fun _ _ => true) fun i j => .int (i - j)
def okMul (i j : Int) : Bool := (decide (-(2 ^ 64) < i) && decide (i < 2 ^ 64)) || (decide (-(2 ^ 64) < j) && decide (j < 2 ^ 64))
def gMul := gI okMul fun i j => .int (i * j)
def gMod := gI (fun _ j => decide (0 < j)) fun i j => .int (i % j)
def okDiv (j : Int) : Bool := decide (0 < j) && decide (j < 2 ^ 200)
def gDiv := gI (fun _ j => okDiv j) fun i j => .int (i / j)
def okPow (i j : Int) : Bool := decide (0 ≤ j) && decide (j ≤ 1000000) && decide (i.natAbs < 2 ^ 64)
def gPow := gI okPow fun i j => .int (i ^ j.toNat)
def gLt := gI (fun _ _ => true) fun i j => .bool (decide (i < j))
def gLe := gI (fun _ _ => true) fun i j => .bool (decide (i ≤ j))
def gGt := gI (fun _ _ => true) fun i j => .bool (decide (j < i))
def gGe := gI (fun _ _ => true) fun i j => .bool (decide (j ≤ i))
theorem okMul_ok {i j : Int} (h : okMul i j = true) : CMul i j := by
  unfold okMul at h
  simp only [Bool.or_eq_true, Bool.and_eq_true, decide_eq_true_eq] at h
  exact h
abbrev rPl : R2 := rI0 fun i j => .int (i + j)
abbrev rMi : R2 := rI0 fun i j => .int (i - j)
abbrev rTi : R2 := rI CMul fun i j => .int (i * j)
abbrev rMd : R2 := rI (fun _ j => 0 < j) fun i j => .int (i % j)
abbrev rDv : R2 := rI (fun _ j => 0 < j ∧ j < 2 ^ 200) fun i j => .int (i / j)
abbrev rPw : R2 := rI CPow fun i j => .int (i ^ j.toNat)
section
variable {X : Cx} {P : Nat} {a b : Expr} {ta tb : TE} {fa fb : FE} {pos : Pos}
/-- // by a positive divisor below 2 ^ 200 -/
theorem op_fdivG : OpR X (binaryOp .FloorDiv) (rI (fun _ j => 0 < j ∧ j < 2 ^ 200) fun i j => .int (i / j)) := opI fun i j _ _ _ _ _ hc q => by
  have h1 : (0 : Int) < j := hc.1
  have h2 : j < 2 ^ 200 := hc.2
  refine PyProof.Rows.floordiv_int (by omega) (by rw [Int.fdiv_eq_ediv_of_nonneg i (by omega)]; exact q) (.inl (PyProof.noPylong_of_log2 ?_))
  have h3 : j.natAbs.log2 < 200 := (Nat.log2_lt (by omega)).mpr (by omega)
  omega
theorem de_add (ha : DE X P a ta fa) (hb : DE X P b tb fb) : DE X P (.BinOp a .Add b pos) (tOp rPl ta tb) (f2 gAdd fa fb) := de_op op_add (opd_rI0 fun _ _ _ => .int _) ha hb
theorem de_sub (ha : DE X P a ta fa) (hb : DE X P b tb fb) : DE X P (.BinOp a .Sub b pos) (tOp rMi ta tb) (f2 gSub fa fb) := de_op op_sub (opd_rI0 fun _ _ _ => .int _) ha hb
theorem de_mul (ha : DE X P a ta fa) (hb : DE X P b tb fb) : DE X P (.BinOp a .Mult b pos) (tOp rTi ta tb) (f2 gMul fa fb) := de_op op_mul (opd_rI (fun _ _ => okMul_ok) fun _ _ _ => .int _) ha hb
theorem de_mod (ha : DE X P a ta fa) (hb : DE X P b tb fb) : DE X P (.BinOp a .Mod b pos) (tOp rMd ta tb) (f2 gMod fa fb) := de_op op_mod (opd_rI (fun _ _ h => of_decide_eq_true h) fun _ _ _ => .int _) ha hb
theorem de_div (ha : DE X P a ta fa) (hb : DE X P b tb fb) : DE X P (.BinOp a .FloorDiv b pos) (tOp rDv ta tb) (f2 gDiv fa fb) :=
  de_op op_fdivG (opd_rI (fun _ _ h => by unfold okDiv at h; rw [Bool.and_eq_true] at h; exact ⟨of_decide_eq_true h.1, of_decide_eq_true h.2⟩) fun _ _ _ => .int _) ha hb
theorem de_pow (ha : DE X P a ta fa) (hb : DE X P b tb fb) : DE X P (.BinOp a .Pow b pos) (tOp rPw ta tb) (f2 gPow fa fb) :=
  de_op op_pow (opd_rI (fun _ _ h => by unfold okPow at h; rw [Bool.and_eq_true, Bool.and_eq_true] at h; exact ⟨of_decide_eq_true h.1.1, of_decide_eq_true h.1.2, of_decide_eq_true h.2⟩) fun _ _ _ => .int _) ha hb
end

/-! ### ==, != of data; is None -/
def gEq (a b : PyData) : Option PyData := if SeqAt.shaped a && SeqAt.shaped b then some (.bool (PyData.eqv a b)) else none
def gNe (a b : PyData) : Option PyData := if SeqAt.shaped a && SeqAt.shaped b then some (.bool (!PyData.eqv a b)) else none
def isNon : PyData → Bool
  | .none => true
  | _ => false
def gIsN (a b : PyData) : Option PyData := if isNon b then some (.bool (isNon a)) else none
def gNotN (a b : PyData) : Option PyData := if isNon b then some (.bool (!isNon a)) else none
section
variable {X : Cx} {P : Nat} {a b : Expr} {ta tb : TE} {fa fb : FE} {pos : Pos}
theorem opd_eq {K : PySem.W.Frag} : OpD K (rEqD K) gEq := by
  intro M H x y a b z Q _ dx dy e q
  unfold gEq at e
  split at e
  · rename_i c
    cases e
    rw [Bool.and_eq_true] at c
    exact ⟨a, b, dq_dp (SeqAt.canLay_of_shaped c.1) (dp_mono (hid_sub _ _) dx), dq_dp (SeqAt.canLay_of_shaped c.2) (dp_mono (hid_sub _ _) dy), c.1, c.2, q _ H (Same.refl _) (.bl _)⟩
  · cases e
theorem opd_ne {K : PySem.W.Frag} : OpD K (rNeD K) gNe := by
  intro M H x y a b z Q _ dx dy e q
  unfold gNe at e
  split at e
  · rename_i c
    cases e
    rw [Bool.and_eq_true] at c
    exact ⟨a, b, dq_dp (SeqAt.canLay_of_shaped c.1) (dp_mono (hid_sub _ _) dx), dq_dp (SeqAt.canLay_of_shaped c.2) (dp_mono (hid_sub _ _) dy), c.1, c.2, q _ H (Same.refl _) (.bl _)⟩
  · cases e
end

/-! ### tests -/
def fB (f : FE) : FT := fun ρ => match f ρ with
  | some (.dat (.bool b), ρ') => some (b, ρ')
  | _ => none
def fAnd (f g : FT) : FT := fun ρ => match f ρ with
  | some (true, ρ') => g ρ'
  | some (false, ρ') => some (false, ρ')
  | none => none
def fOr (f g : FT) : FT := fun ρ => match f ρ with
  | some (true, ρ') => some (true, ρ')
  | some (false, ρ') => g ρ'
  | none => none
def fNot (f : FT) : FT := fun ρ => match f ρ with
  | some (b, ρ') => some (!b, ρ')
  | none => none
def fV (f : FT) : FE := fun ρ => match f ρ with
  | some (b, ρ') => some (.dat (.bool b), ρ')
  | none => none
def fIfE (t : FT) (f g : FE) : FE := fun ρ => match t ρ with
  | some (true, ρ') => f ρ'
  | some (false, ρ') => g ρ'
  | none => none
section
variable {X : Cx} {P : Nat} {a b e : Expr} {ta tb te : TE} {tA tB' : TT} {fa fb fe : FE} {ft fu : FT} {pos : Pos} {rest : List Expr}
theorem st_val {K : PySem.W.Frag} (h : SE K P te fe) : STt K P (tB te) (fB fe) := by
  intro Out M σ H ρ b ρ' Q F e q
  unfold fB at e
  split at e
  · rename_i c ρ1 e1
    cases e
    refine h Out M σ H ρ _ _ _ F e1 fun v M1 H1 F1 X1 k1 o1 => ?_
    cases o1
    exact ⟨_, rfl, q M1 H1 F1 X1 k1⟩
  · cases e
theorem dt_cmp {op : CmpOp} {r : R2} {g : PyData → PyData → Option PyData} (ho : OpR X (compareOp op) r) (hg : OpD X.K r g) (ha : DE X P a ta fa) (hb : DE X P b tb fb) (hm : behindInMarks op b = false) :
    DT X P (.Compare a [op] [b] pos) (tTest (tOp r ta tb)) (fB (f2 g fa fb)) := ⟨pt_cmpR ho ha.1 hb.1 hm, st_val (se_2 hg ha.2 hb.2)⟩
theorem st_or {K : PySem.W.Frag} (h : STt K P tA ft) (h2 : STt K P tB' fu) : STt K P (tOr tA tB') (fOr ft fu) := by
  intro Out M σ H ρ b ρ' Q F e q
  unfold fOr at e
  split at e
  · rename_i ρ1 e1
    cases e
    exact h Out M σ H ρ _ _ _ F e1 fun M1 H1 F1 X1 k1 => iteT (q M1 H1 F1 X1 k1)
  · rename_i ρ1 e1
    refine h Out M σ H ρ _ _ _ F e1 fun M1 H1 F1 X1 k1 => iteF ?_
    exact h2 Out M1 σ H1 ρ1 b ρ' Q F1 e fun M2 H2 F2 X2 k2 => q M2 H2 F2 (X1.trans X2) (k1.trans k2)
  · cases e
theorem dw_or1 (h : DT X P a tA ft) : DW X P (.BoolOp .Or [a] pos) tA ft := ⟨pw_or1 h.1, h.2⟩
theorem dw_or (h : DT X P a tA ft) (h2 : DW X P (.BoolOp .Or (b :: rest) pos) tB' fu) : DW X P (.BoolOp .Or (a :: b :: rest) pos) (tOr tA tB') (fOr ft fu) := ⟨pw_or h.1 h2.1, st_or h.2 h2.2⟩
theorem dt_w (h : DW X P e tA ft) : DT X P e tA ft := ⟨h.1.pt, h.2⟩
/-! as values -/
def fAndV (f g : FE) : FE := fun ρ => match f ρ with
  | some (.dat (.bool true), ρ') => g ρ'
  | some (.dat (.bool false), ρ') => some (.dat (.bool false), ρ')
  | _ => none
def fOrV (f g : FE) : FE := fun ρ => match f ρ with
  | some (.dat (.bool true), ρ') => some (.dat (.bool true), ρ')
  | some (.dat (.bool false), ρ') => g ρ'
  | _ => none
def fNotV (f : FE) : FE := fun ρ => match f ρ with
  | some (.dat (.bool b), ρ') => some (.dat (.bool (!b)), ρ')
  | _ => none
end

/-! ### arguments, displays -/
def faNil : FA := fun ρ => some ([], ρ)
def faCons (f : FE) (g : FA) : FA := fun ρ => match f ρ with
  | some (.dat d, ρ1) => (match g ρ1 with
    | some (ds, ρ2) => some (d :: ds, ρ2)
    | none => none)
  | _ => none
def fTup (f : FA) : FE := fun ρ => match f ρ with
  | some (ds, ρ1) => if ds.length ≤ 1000 then some (.dat (.tuple ds), ρ1) else none
  | none => none
def fLst (f : FA) : FE := fun ρ => match f ρ with
  | some (ds, ρ1) => if ds.length ≤ 1000 then some (.new ds, ρ1) else none
  | none => none
/-- a new cell becomes data -/
def fFrz (f : FE) : FE := fun ρ => match f ρ with
  | some (.new xs, ρ1) => some (.dat (.list xs), ρ1)
  | _ => none
theorem le_line {n : Nat} (h : n ≤ 1000) : n ≤ sizeLine := Nat.le_of_lt (small1000 h)
section
variable {X : Cx} {P : Nat} {e : Expr} {es : List Expr} {te : TE} {ta : TA} {fe : FE} {fa : FA} {pos : Pos}
theorem da_nil : DA X P [] tNil faNil := ⟨pa_nil, fun Out M σ H ρ ds ρ' Q F e q => by cases e; exact q [] M H F (.refl _ _ _) (.refl _ _) .nil⟩
theorem sa_cons {K : PySem.W.Frag} (h : SE K P te fe) (t : SA K P ta fa) : SA K P (tCons te ta) (faCons fe fa) := by
  intro Out M σ H ρ ds ρ' Q F e q
  unfold faCons at e
  split at e
  · rename_i d ρ1 e1
    split at e
    · rename_i ds' ρ2 e2
      cases e
      refine h Out M σ H ρ _ _ _ F e1 fun v M1 H1 F1 X1 k1 o1 => ?_
      refine t Out M1 σ H1 ρ1 _ ρ' _ F1 e2 fun vs M2 H2 F2 X2 k2 o2 => ?_
      exact q (v :: vs) M2 H2 F2 (X1.trans X2) (k1.trans k2) (.cons (dp_mono X2.same o1) o2)
    · cases e
  · cases e
theorem da_cons (h : DE X P e te fe) (t : DA X P es ta fa) (hs : starEach (e :: es) X.env = (false, eval e X.env) :: starEach es X.env := by rfl) : DA X P (e :: es) (tCons te ta) (faCons fe fa) := ⟨pa_cons h.1 t.1 hs, sa_cons h.2 t.2⟩
theorem hid_data {K : PySem.W.Frag} {Out M : List Addr} {σ : St} {H : Hp} {ρ : List En} (F : FrD K Out M σ H ρ) {p : Addr} {o : HO} (h : H p = none) (n : ∀ ps, o ≠ .tbl ps := by exact fun _ z => nomatch z) : hid M (upd H p o) p = some o := hid_out (fun z => F.live p z h) upd_same n
theorem de_tup {x1} (h : DA X P es ta fa) : DE X P (.Tuple es x1 pos) (tTup ta) (fTup fa) := ⟨pe_tup h.1, by
  intro Out M σ H ρ r ρ' Q F e q
  unfold fTup at e
  split at e
  · rename_i ds ρ1 e1
    split at e
    · rename_i hl
      cases e
      refine h.2 Out M σ H ρ _ _ _ F e1 fun vs M1 H1 F1 X1 k1 o1 => ⟨by rw [dpAll_len o1]; exact le_line hl, fun p hp => ?_⟩
      have s := same_upd hp (.tup vs)
      exact q _ M1 _ (F1.grow s) (X1.trans (F1.ext s)) k1 (.tup (.inl (.inl (hid_data F1 hp))) (dpAll_mono (hid_same s) o1))
    · cases e
  · cases e⟩
theorem de_lst (h : DA X P es ta fa) : DE X P (.List es pos) (tLst ta) (fLst fa) := ⟨pe_lst h.1, by
  intro Out M σ H ρ r ρ' Q F e q
  unfold fLst at e
  split at e
  · rename_i ds ρ1 e1
    split at e
    · rename_i hl
      cases e
      refine h.2 Out M σ H ρ _ _ _ F e1 fun vs M1 H1 F1 X1 k1 o1 => ⟨by rw [dpAll_len o1]; exact le_line hl, fun p hp => ?_⟩
      exact q _ (p :: M1) _ (F1.celNew hp vs) (X1.trans (F1.extNew hp vs)) k1 (F1.rvNew hp o1)
    · cases e
  · cases e⟩
theorem se_frz {K : PySem.W.Frag} (h : SE K P te fe) : SE K P te (fFrz fe) := by
  intro Out M σ H ρ r ρ' Q F e q
  unfold fFrz at e
  split at e
  · rename_i xs ρ1 e1
    cases e
    refine h Out M σ H ρ _ _ _ F e1 fun v M1 H1 F1 X1 k1 o1 => ?_
    obtain ⟨a, vs, rfl, m, o, ha, dd, hs⟩ := o1
    refine q _ _ H1 (F1.drop o hs) (X1.trans Ext.drop) k1 (.lst (.inl (.inl ?_)) (dpAll_mono (hid_anti fun b h => (List.mem_filter.mp h).1) dd))
    exact hid_out not_mem_drop ha fun _ z => nomatch z
  · cases e
theorem de_frz (h : DE X P e te fe) : DE X P e te (fFrz fe) := ⟨h.1, se_frz h.2⟩
end

/-! ### calls of built-ins, on data -/
def CaD (K : PySem.W.Frag) (r : List V → Hp → VK → Prop) (g : List PyData → Option PyData) : Prop :=
  ∀ (M : List Addr) (H : Hp) (vs : List V) (ds : List PyData) (z : PyData) (Q : VK), (∀ c ∈ M, H c ≠ none) → DqAll K (hid M H) vs ds → g ds = some z → (∀ v H', Same H H' → Dq K (hid M H') v z → Q v H') → r vs H Q
/-- .. that lay a new list -/
def CaN (K : PySem.W.Frag) (r : List V → Hp → VK → Prop) (g : List PyData → Option (List PyData)) : Prop :=
  ∀ (M : List Addr) (H : Hp) (vs : List V) (ds zs : List PyData) (Q : VK), (∀ c ∈ M, H c ≠ none) → DqAll K (hid M H) vs ds → g ds = some zs → (∀ p ws, H p = none → DqAll K (hid M H) ws zs → Q (.ref p) (upd H p (.lst ws))) → r vs H Q
def fCa (g : List PyData → Option PyData) (fa : FA) : FE := fun ρ => match fa ρ with
  | some (ds, ρ1) => (match g ds with
    | some z => some (.dat z, ρ1)
    | none => none)
  | none => none
def fCaN (g : List PyData → Option (List PyData)) (fa : FA) : FE := fun ρ => match fa ρ with
  | some (ds, ρ1) => (match g ds with
    | some z => some (.new z, ρ1)
    | none => none)
  | none => none
section
variable {X : Cx} {P : Nat} {e : Expr} {es : List Expr} {ta : TA} {fa : FA} {pos p : Pos} {r : List V → Hp → VK → Prop} {g : List PyData → Option PyData} {gn : List PyData → Option (List PyData)} {x : Str} {id T : String}
theorem se_ca {K : PySem.W.Frag} (hg : CaD K r g) (h : SA K P ta fa) : SE K P (tCB r ta) (fCa g fa) := by
  intro Out M σ H ρ v ρ' Q F e q
  unfold fCa at e
  split at e
  · rename_i ds ρ1 e1
    split at e
    · rename_i z e2
      cases e
      refine h Out M σ H ρ _ _ _ F e1 fun vs M1 H1 F1 X1 k1 o1 => ?_
      exact hg M1 H1 vs ds z Q F1.live o1 e2 fun w H2 s d => q w M1 H2 (F1.grow s) (X1.trans (F1.ext s)) k1 d
    · cases e
  · cases e
theorem se_can {K : PySem.W.Frag} (hg : CaN K r gn) (h : SA K P ta fa) : SE K P (tCB r ta) (fCaN gn fa) := by
  intro Out M σ H ρ v ρ' Q F e q
  unfold fCaN at e
  split at e
  · rename_i ds ρ1 e1
    split at e
    · rename_i z e2
      cases e
      refine h Out M σ H ρ _ _ _ F e1 fun vs M1 H1 F1 X1 k1 o1 => ?_
      exact hg M1 H1 vs ds z Q F1.live o1 e2 fun p ws hp d => q _ (p :: M1) _ (F1.celNew hp ws) (X1.trans (F1.extNew hp ws)) k1 (F1.rvNew hp d)
    · cases e
  · cases e
theorem de_callB (hc : CallR X (.builtin id) r) (hd : CaD X.K r g) (hm : X.mg x = none) (ha : DA X P (e :: es) ta fa) (hv : bootBuiltins x = some (.builtin id) := by decide +kernel) (hg : Gl X x := by rfl) (hn : x ≠ "__name__" := by decide) (hdb : (x == ("__debug__" : Str)) = false := by decide)
    (he : starEach (e :: es) X.env = (false, eval e X.env) :: starEach es X.env := by rfl) (hpl : (backTo pos (starEach es X.env)).any (·.1) = false := by rfl) : DE X P (.Call (.Name x p) (e :: es) [] pos) (tCB r ta) (fCa g fa) := ⟨pe_callB hc hg hm hv ha.1 hn hdb he hpl, se_ca hd ha.2⟩
theorem de_callT (hc : CallR X (.type T) r) (hd : CaD X.K r g) (hm : X.mg x = none) (ha : DA X P (e :: es) ta fa) (hv : bootBuiltins x = some (.type T) := by decide +kernel) (hg : Gl X x := by rfl) (hn : x ≠ "__name__" := by decide) (hdb : (x == ("__debug__" : Str)) = false := by decide)
    (he : starEach (e :: es) X.env = (false, eval e X.env) :: starEach es X.env := by rfl) (hpl : (backTo pos (starEach es X.env)).any (·.1) = false := by rfl) : DE X P (.Call (.Name x p) (e :: es) [] pos) (tCB r ta) (fCa g fa) := ⟨pe_callTy hc hg hm hv ha.1 hn hdb he hpl, se_ca hd ha.2⟩
theorem de_callTN (hc : CallR X (.type T) r) (hd : CaN X.K r gn) (hm : X.mg x = none) (ha : DA X P (e :: es) ta fa) (hv : bootBuiltins x = some (.type T) := by decide +kernel) (hg : Gl X x := by rfl) (hn : x ≠ "__name__" := by decide) (hdb : (x == ("__debug__" : Str)) = false := by decide)
    (he : starEach (e :: es) X.env = (false, eval e X.env) :: starEach es X.env := by rfl) (hpl : (backTo pos (starEach es X.env)).any (·.1) = false := by rfl) : DE X P (.Call (.Name x p) (e :: es) [] pos) (tCB r ta) (fCaN gn fa) := ⟨pe_callTy hc hg hm hv ha.1 hn hdb he hpl, se_can hd ha.2⟩
end
end DL


set_option Elab.async false
set_option linter.all false
set_option maxRecDepth 100000
set_option maxHeartbeats 1000000
namespace DL
open PySem L2

/-! ### targets -/
abbrev FG := PyData → List En → Option (List En)
abbrev FGs := List PyData → List En → Option (List En)
/-- the parameters' cells stay in their slots -/
def Pin (P : Nat) (σ : St) (ρ : List En) (σ' : St) (ρ' : List En) : Prop := σ'.length = σ.length ∧ ∀ i : Nat, i < P → ∀ xs, ρ[i]? = some (En.cel xs) → σ'[i]? = σ[i]? ∧ ∃ ys, ρ'[i]? = some (En.cel ys)
theorem Pin.refl (P : Nat) (σ : St) (ρ : List En) : Pin P σ ρ σ ρ := ⟨rfl, fun _ _ xs h => ⟨rfl, xs, h⟩⟩
theorem Pin.trans {P : Nat} {σ σ1 σ2 : St} {a b c : List En} (x : Pin P σ a σ1 b) (y : Pin P σ1 b σ2 c) : Pin P σ a σ2 c := ⟨y.1.trans x.1, fun i hi xs h => by
  obtain ⟨e1, ys, h1⟩ := x.2 i hi xs h
  obtain ⟨e2, h2⟩ := y.2 i hi ys h1
  exact ⟨e2.trans e1, h2⟩⟩
theorem Kd.pin {P : Nat} {σ : St} {a b : List En} (x : Kd P a b) : Pin P σ a σ b := ⟨rfl, fun i hi xs h => ⟨rfl, x i hi xs h⟩⟩
theorem Pin.kd {P : Nat} {σ σ' : St} {a b : List En} (x : Pin P σ a σ' b) : Kd P a b := fun i hi xs h => (x.2 i hi xs h).2
/-- a slot is stored -/
def setE (P i : Nat) (e : En) (ρ : List En) : Option (List En) := if i < P then (match ρ[i]? with
  | some (.cel _) => none
  | _ => some (ρ.set i e)) else some (ρ.set i e)
theorem setE_some {P i : Nat} {e : En} {ρ ρ' : List En} (h : setE P i e ρ = some ρ') : ρ' = ρ.set i e ∧ (i < P → ∀ xs, ρ[i]? ≠ some (En.cel xs)) := by
  unfold setE at h
  split at h
  · split at h
    · cases h
    · rename_i n
      cases h
      exact ⟨rfl, fun _ xs z => n xs z⟩
  · cases h
    exact ⟨rfl, fun z => absurd z (by assumption)⟩
theorem pin_set {P i : Nat} {e : En} {v : V} {σ : St} {ρ : List En} (h : i < P → ∀ xs, ρ[i]? ≠ some (En.cel xs)) : Pin P σ ρ (σ.set i (some v)) (ρ.set i e) := ⟨List.length_set, fun j hj xs q => by
  have ne : i ≠ j := fun z => by subst z; exact h hj xs q
  rw [List.getElem?_set_ne ne, List.getElem?_set_ne ne]
  exact ⟨rfl, xs, q⟩⟩
def SG (K : PySem.W.Frag) (P : Nat) (tg : TG) (g : FG) (tv : List Nat) : Prop :=
  ∀ (Out M : List Addr) (σ : St) (H : Hp) (ρ : List En) (x : V) (d : PyData) (ρ' : List En) (Q : St → Hp → Prop), FrD K Out M σ H ρ → Dq K (hid M H) x d → g d ρ = some ρ' →
    (∀ σ', FrD K Out M σ' H ρ' → Pin P σ ρ σ' ρ' → (∀ i : Nat, i ∉ tv → σ'[i]? = σ[i]?) → σ'.length = σ.length → Q σ' H) → tg x σ H Q
def SGs (K : PySem.W.Frag) (P : Nat) (tg : TGs) (g : FGs) (tv : List Nat) : Prop :=
  ∀ (Out M : List Addr) (σ : St) (H : Hp) (ρ : List En) (xs : List V) (ds : List PyData) (ρ' : List En) (Q : St → Hp → Prop), FrD K Out M σ H ρ → DqAll K (hid M H) xs ds → g ds ρ = some ρ' →
    (∀ σ', FrD K Out M σ' H ρ' → Pin P σ ρ σ' ρ' → (∀ i : Nat, i ∉ tv → σ'[i]? = σ[i]?) → σ'.length = σ.length → Q σ' H) → tg xs σ H Q
def DG (X : Cx) (P : Nat) (t : Expr) (tg : TG) (g : FG) (tv : List Nat) : Prop := PG X t tg ∧ SG X.K P tg g tv
def DGs (X : Cx) (P : Nat) (t : List Expr) (tg : TGs) (g : FGs) (tv : List Nat) : Prop := PGs X t tg ∧ SGs X.K P tg g tv
def fgName (P i : Nat) : FG := fun d ρ => setE P i (.dat d) ρ
def fgNil : FGs := fun ds ρ => match ds with
  | [] => some ρ
  | _ => none
def fgCons (f : FG) (g : FGs) : FGs := fun ds ρ => match ds with
  | d :: r => (match f d ρ with
    | some ρ1 => g r ρ1
    | none => none)
  | [] => none
def fgTup (n : Nat) (g : FGs) : FG := fun d ρ => match d with
  | .tuple ds => if ds.length = n then g ds ρ else none
  | _ => none
section
variable {X : Cx} {P : Nat} {pos : Pos}
theorem sg_name {K : PySem.W.Frag} (i : Nat) : SG K P (gName i) (fgName P i) [i] := by
  intro Out M σ H ρ x d ρ' Q F dx e q
  obtain ⟨rfl, hn⟩ := setE_some e
  exact q _ (F.set dx) (pin_set hn) (fun j hj => List.getElem?_set_ne fun z => hj (by rw [z]; exact List.mem_cons_self)) (by rw [List.length_set])
theorem dg_name {i : Nat} {x : Str} (hN : X.N.Nodup) (hi : X.N[i]? = some x := by rfl) (hx : Loc X.env.scope x := by first | exact Or.inl rfl | exact Or.inr rfl) (hf : X.fn x = true ∨ X.env.scope.names.lookup x = some .local := by first | exact .inl rfl | exact .inr rfl | assumption) :
    DG X P (.Name x pos) (gName i) (fgName P i) [i] := ⟨pg_name hN hi hx hf, sg_name i⟩
theorem dgs_nil : DGs X P [] gNil fgNil [] := ⟨pgs_nil, fun Out M σ H ρ xs ds ρ' Q F dx e q => by
  unfold fgNil at e
  split at e
  · cases e
    cases dx
    exact ⟨rfl, q σ F (.refl _ _ _) (fun _ _ => rfl) rfl⟩
  · cases e⟩
theorem dgs_cons {e : Expr} {es : List Expr} {t : TG} {u : TGs} {f : FG} {g : FGs} {tv tw : List Nat} (h1 : DG X P e t f tv) (h2 : DGs X P es u g tw)
    (hs : (assignEach (e :: es) X.env).map (·.2) = assign e X.env :: (assignEach es X.env).map (·.2) := by rfl) : DGs X P (e :: es) (gCons t u) (fgCons f g) (tv ++ tw) := ⟨pgs_cons h1.1 h2.1 hs, fun Out M σ H ρ xs ds ρ' Q F dx e q => by
  unfold fgCons at e
  split at e
  · rename_i d r
    split at e
    · rename_i ρ1 e1
      cases dx with
      | cons dx dr =>
        refine ⟨_, _, rfl, h1.2 Out M σ H ρ _ d ρ1 _ F dx e1 fun σ1 F1 p1 o1 l1 => ?_⟩
        refine h2.2 Out M σ1 H ρ1 _ r ρ' Q F1 dr e fun σ2 F2 p2 o2 l2 => ?_
        exact q σ2 F2 (p1.trans p2) (fun i hi => (o2 i fun z => hi (List.mem_append.mpr (.inr z))).trans (o1 i fun z => hi (List.mem_append.mpr (.inl z)))) (l2.trans l1)
    · cases e
  · cases e⟩
theorem dg_tup {es : List Expr} {k : Nat} {t : TGs} {g : FGs} {n : Nat} {tv : List Nat} (hc : X.calm = true) (h : DGs X P es t g tv)
    (hn : (assignEach es X.env).length = n := by rfl) (hst : (assignEach es X.env).findIdx? (·.1) = none := by rfl) : DG X P (.Tuple es k pos) (gTup X.K n t) (fgTup n g) tv := ⟨pg_tup hc h.1 hn hst, fun Out M σ H ρ x d ρ' Q F dx e q => by
  unfold fgTup at e
  split at e
  · rename_i ds
    split at e
    · rename_i hl
      cases dx with
      | tup hs ha =>
        exact ⟨_, _, rfl, sameT (hid_sub _ _) hs, (dpAll_len ha).trans hl, h.2 Out M σ H ρ _ ds ρ' Q F ha e q⟩
    · cases e
  · cases e⟩
end

/-! ### statements -/
inductive Oc where
  | nx (ρ : List En)
  | rt (r : Rv) (ρ : List En)
  | bk (ρ : List En)
  | ct (ρ : List En)
abbrev FS := List En → Option Oc
def SQ (K : PySem.W.Frag) (P : Nat) (Out M : List Addr) (σ : St) (H : Hp) (ρ : List En) (D : Ends) : Oc → Prop
  | .nx ρ' => ∀ σ' M' H', FrD K Out M' σ' H' ρ' → Ext Out M H M' H' → Pin P σ ρ σ' ρ' → D.nx σ' H'
  | .bk ρ' => ∀ σ' M' H', FrD K Out M' σ' H' ρ' → Ext Out M H M' H' → Pin P σ ρ σ' ρ' → D.bk σ' H'
  | .ct ρ' => ∀ σ' M' H', FrD K Out M' σ' H' ρ' → Ext Out M H M' H' → Pin P σ ρ σ' ρ' → D.ct σ' H'
  | .rt r ρ' => ∀ v σ' M' H', FrD K Out M' σ' H' ρ' → Ext Out M H M' H' → Pin P σ ρ σ' ρ' → RvOk K Out M' σ' H' ρ' r v → D.rt v H'
theorem SQ.step {K : PySem.W.Frag} {P : Nat} {Out M M1 : List Addr} {σ σ1 : St} {H H1 : Hp} {ρ ρ1 : List En} {D : Ends} {o : Oc} (q : SQ K P Out M σ H ρ D o) (x : Ext Out M H M1 H1) (p : Pin P σ ρ σ1 ρ1) : SQ K P Out M1 σ1 H1 ρ1 D o := by
  cases o with
  | nx ρ' => exact fun σ' M' H' f y z => q σ' M' H' f (x.trans y) (p.trans z)
  | bk ρ' => exact fun σ' M' H' f y z => q σ' M' H' f (x.trans y) (p.trans z)
  | ct ρ' => exact fun σ' M' H' f y z => q σ' M' H' f (x.trans y) (p.trans z)
  | rt r ρ' => exact fun v σ' M' H' f y z => q v σ' M' H' f (x.trans y) (p.trans z)
def SS (K : PySem.W.Frag) (P : Nat) (ts : TS) (f : FS) : Prop :=
  ∀ (Out M : List Addr) (σ : St) (H : Hp) (ρ : List En) (o : Oc) (D : Ends), FrD K Out M σ H ρ → f ρ = some o → SQ K P Out M σ H ρ D o → ts D σ H
def DS (X : Cx) (P : Nat) (st : Stmt) (ts : TS) (f : FS) : Prop := PS X st ts ∧ SS X.K P ts f
def DSs (X : Cx) (P : Nat) (st : List Stmt) (ts : TS) (f : FS) : Prop := PSs X st ts ∧ SS X.K P ts f
def fNext : FS := fun ρ => some (.nx ρ)
def fSeq (f g : FS) : FS := fun ρ => match f ρ with
  | some (.nx ρ1) => g ρ1
  | some o => some o
  | none => none
def fIfS (t : FT) (f g : FS) : FS := fun ρ => match t ρ with
  | some (true, ρ1) => f ρ1
  | some (false, ρ1) => g ρ1
  | none => none
def fRet (f : FE) : FS := fun ρ => match f ρ with
  | some (r, ρ1) => some (.rt r ρ1)
  | none => none
def fRetN : FS := fun ρ => some (.rt (.dat .none) ρ)
def fDrop (f : FE) : FS := fun ρ => match f ρ with
  | some (_, ρ1) => some (.nx ρ1)
  | none => none
def fAsg (P i : Nat) (f : FE) : FS := fun ρ => match f ρ with
  | some (.dat d, ρ1) => (match setE P i (.dat d) ρ1 with
    | some ρ2 => some (.nx ρ2)
    | none => none)
  | some (.new xs, ρ1) => (match setE P i (.cel xs) ρ1 with
    | some ρ2 => some (.nx ρ2)
    | none => none)
  | _ => none
def fAsgG (f : FE) (g : FG) : FS := fun ρ => match f ρ with
  | some (.dat d, ρ1) => (match g d ρ1 with
    | some ρ2 => some (.nx ρ2)
    | none => none)
  | _ => none
def fBreak : FS := fun ρ => some (.bk ρ)
def fCont : FS := fun ρ => some (.ct ρ)
section
variable {X : Cx} {P : Nat} {pos : Pos} {st : Stmt} {rest : List Stmt} {t u : TS} {f g : FS} {e : Expr} {te : TE} {fe : FE}
theorem dss_nil : DSs X P [] tNext fNext := ⟨pss_nil, fun Out M σ H ρ o D F e q => by cases e; exact q σ M H F (.refl _ _ _) (.refl _ _ _)⟩
theorem ss_seq {K : PySem.W.Frag} (h1 : SS K P t f) (h2 : SS K P u g) : SS K P (tSeq t u) (fSeq f g) := by
  intro Out M σ H ρ o D F e q
  unfold fSeq at e
  split at e
  · rename_i ρ1 e1
    refine h1 Out M σ H ρ (.nx ρ1) { D with nx := u D } F e1 fun σ1 M1 H1 F1 X1 p1 => ?_
    exact h2 Out M1 σ1 H1 ρ1 o D F1 e (q.step X1 p1)
  · rename_i o1 n e1
    cases e
    cases o with
    | nx ρ' => exact absurd rfl (n ρ')
    | bk ρ' => exact h1 Out M σ H ρ _ { D with nx := u D } F e1 q
    | ct ρ' => exact h1 Out M σ H ρ _ { D with nx := u D } F e1 q
    | rt r ρ' => exact h1 Out M σ H ρ _ { D with nx := u D } F e1 q
  · cases e
theorem dss_cons (h1 : DS X P st t f) (h2 : DSs X P rest u g) : DSs X P (st :: rest) (tSeq t u) (fSeq f g) := ⟨pss_cons h1.1 h2.1, ss_seq h1.2 h2.2⟩
theorem dss_one (h1 : DS X P st t f) : DSs X P [st] t f := ⟨pss_one h1.1, h1.2⟩
theorem ds_if {c : Expr} {a b : List Stmt} {tc : TT} {ft : FT} (hc : DT X P c tc ft) (h1 : DSs X P a t f) (h2 : DSs X P b u g) : DS X P (.If c a b pos) (tIfS tc t u) (fIfS ft f g) := ⟨ps_if hc.1 h1.1 h2.1, by
  intro Out M σ H ρ o D F e q
  unfold fIfS at e
  split at e
  · rename_i ρ1 e1
    refine hc.2 Out M σ H ρ _ ρ1 _ F e1 fun M1 H1 F1 X1 k1 => iteT ?_
    exact h1.2 Out M1 σ H1 ρ1 o D F1 e (q.step X1 k1.pin)
  · rename_i ρ1 e1
    refine hc.2 Out M σ H ρ _ ρ1 _ F e1 fun M1 H1 F1 X1 k1 => iteF ?_
    exact h2.2 Out M1 σ H1 ρ1 o D F1 e (q.step X1 k1.pin)
  · cases e⟩
theorem ds_ret (h : DE X P e te fe) : DS X P (.Return (some e) pos) (tRet te) (fRet fe) := ⟨ps_ret h.1, by
  intro Out M σ H ρ o D F e q
  unfold fRet at e
  split at e
  · rename_i r ρ1 e1
    cases e
    exact h.2 Out M σ H ρ _ _ _ F e1 fun v M1 H1 F1 X1 k1 o1 => q v σ M1 H1 F1 X1 k1.pin o1
  · cases e⟩
theorem ds_expr (h : DE X P e te fe) (hs : swapsWith e none pos.line X.env = pure false := by rfl) : DS X P (.Expr e pos) (tDrop te) (fDrop fe) := ⟨ps_expr h.1 hs, by
  intro Out M σ H ρ o D F e q
  unfold fDrop at e
  split at e
  · rename_i r ρ1 e1
    cases e
    exact h.2 Out M σ H ρ _ _ _ F e1 fun v M1 H1 F1 X1 k1 o1 => q σ M1 H1 F1 X1 k1.pin
  · cases e⟩
theorem ss_set {K : PySem.W.Frag} {i : Nat} (h : SE K P te fe) : SS K P (tAsg te (gName i)) (fAsg P i fe) := by
  intro Out M σ H ρ o D F e q
  unfold fAsg at e
  split at e
  · rename_i d ρ1 e1
    split at e
    · rename_i ρ2 e2
      cases e
      obtain ⟨rfl, hn⟩ := setE_some e2
      exact h Out M σ H ρ _ _ _ F e1 fun v M1 H1 F1 X1 k1 o1 => q _ M1 H1 (F1.set o1) X1 (k1.pin.trans (pin_set hn))
    · cases e
  · rename_i xs ρ1 e1
    split at e
    · rename_i ρ2 e2
      cases e
      obtain ⟨rfl, hn⟩ := setE_some e2
      exact h Out M σ H ρ _ _ _ F e1 fun v M1 H1 F1 X1 k1 o1 => q _ M1 H1 (F1.setNew o1) X1 (k1.pin.trans (pin_set hn))
    · cases e
  · cases e
theorem ds_set {i : Nat} {x : Str} {pos' : Pos} (hN : X.N.Nodup) (h : DE X P e te fe) (hi : X.N[i]? = some x := by rfl) (hx : Loc X.env.scope x := by first | exact Or.inl rfl | exact Or.inr rfl) (hs : swapsWith e (some (.Name x pos')) pos.line X.env = pure false := by rfl)
    (hf : X.fn x = true ∨ X.env.scope.names.lookup x = some .local := by first | exact .inl rfl | exact .inr rfl | assumption) : DS X P (.Assign [.Name x pos'] e pos) (tAsg te (gName i)) (fAsg P i fe) := ⟨ps_set hN hi hx h.1 hs hf, ss_set h.2⟩
theorem ds_asg {tg : Expr} {tgt : TG} {fg : FG} {tv : List Nat} (h : DE X P e te fe) (hg : DG X P tg tgt fg tv) (hs : swapsWithSole [tg] e pos.line X.env = pure false := by rfl) (hw : swappedStores [tg] e X.env = pure none := by rfl)
    (h1 : (assignEach [tg] X.env).map (·.2) = [assign tg X.env] := by rfl) : DS X P (.Assign [tg] e pos) (tAsg te tgt) (fAsgG fe fg) := ⟨ps_asg h.1 hg.1 hs hw h1, by
  intro Out M σ H ρ o D F e q
  unfold fAsgG at e
  split at e
  · rename_i d ρ1 e1
    split at e
    · rename_i ρ2 e2
      cases e
      refine h.2 Out M σ H ρ _ _ _ F e1 fun v M1 H1 F1 X1 k1 o1 => ?_
      exact hg.2 Out M1 σ H1 _ v d _ _ F1 o1 e2 fun σ' F2 p2 _ _ => q σ' M1 H1 F2 X1 (k1.pin.trans p2)
    · cases e
  · cases e⟩
end

/-! ### a, b = x, y -/
def fPar (P i j : Nat) (f : FA) : FS := fun ρ => match f ρ with
  | some ([a, b], ρ1) => (match setE P i (.dat a) ρ1 with
    | some ρ2 => (match setE P j (.dat b) ρ2 with
      | some ρ3 => some (.nx ρ3)
      | none => none)
    | none => none)
  | _ => none
/-! ### a list of one's own: x[i] = e, x[i], x.append(e) -/
def fSetIx (j : Nat) (fi fe : FE) : FS := fun ρ => match fe ρ with
  | some (.dat d, ρ1) => (match ρ1[j]? with
    | some (.cel _) => (match fi ρ1 with
      | some (.dat (.int k), ρ2) => (match ρ2[j]? with
        | some (.cel xs) => (match ixN xs.length k with
          | some n => some (.nx (ρ2.set j (.cel (xs.set n d))))
          | none => none)
        | _ => none)
      | _ => none)
    | _ => none)
  | _ => none
theorem kd_put {P : Nat} {ρ : List En} {j : Nat} {xs ys : List PyData} (h : ρ[j]? = some (En.cel xs)) : Kd P ρ (ρ.set j (.cel ys)) := fun i _ zs q => by
  by_cases e : j = i
  · subst e
    exact ⟨ys, List.getElem?_set_self (List.getElem?_eq_some_iff.mp h).1⟩
  · exact ⟨zs, by rw [List.getElem?_set_ne e]; exact q⟩
theorem ds_setIx {X : Cx} {P : Nat} {j : Nat} {x : Str} {px pos spos : Pos} {i e : Expr} {ti te : TE} {fi fe : FE} (hi : DE X P i ti fi) (he : DE X P e te fe)
    (hN : X.N[j]? = some x := by rfl) (hv : Vis X.env.scope x := by first | exact Or.inl rfl | exact Or.inr (Or.inl rfl) | exact Or.inr (Or.inr rfl)) (hd : (x == ("__debug__" : Str)) = false := by decide) (hcd : (x == ("__classdict__" : Str)) = false := by decide)
    (ha : ∀ v, assign (.Subscript (.Name x px) i spos) X.env v = (do
      let ov ← holding [v] (eval (.Name x px) X.env)
      let iv ← holding [v, ov] (eval i X.env)
      standAt spos
      holding [v, ov, iv] (setItem ov iv v)
      release [v, ov, iv] []) := by intro _; rfl)
    (hs : swapsWithSole [.Subscript (.Name x px) i spos] e pos.line X.env = pure false := by rfl) (hw : swappedStores [.Subscript (.Name x px) i spos] e X.env = pure none := by rfl)
    (h1 : (assignEach [.Subscript (.Name x px) i spos] X.env).map (·.2) = [assign (.Subscript (.Name x px) i spos) X.env] := by rfl) :
    DS X P (.Assign [.Subscript (.Name x px) i spos] e pos) (tAsg te (L2.gSub (tVar j) ti rSetL)) (fSetIx j fi fe) := ⟨ps_asg he.1 (pg_sub (pe_var hN hv hd hcd) hi.1 set_list ha) hs hw h1, by
  intro Out M σ H ρ o D F e q
  unfold fSetIx at e
  split at e
  · rename_i d ρ1 e1
    split at e
    · rename_i xs0 e0
      split at e
      · rename_i k ρ2 e2
        split at e
        · rename_i xs e3
          split at e
          · rename_i n e4
            cases e
            refine he.2 Out M σ H ρ _ _ _ F e1 fun v M1 H1 F1 X1 k1 o1 => ?_
            obtain ⟨a, vs0, ea, _⟩ := F1.cel j xs0 e0
            refine ⟨_, ea, hi.2 Out M1 σ H1 _ _ _ _ F1 e2 fun w M2 H2 F2 X2 k2 o2 => ?_⟩
            cases o2
            obtain ⟨a', vs, ea', m, o, hl, dd⟩ := F2.cel j xs e3
            rw [ea] at ea'
            cases ea'
            refine ⟨a, vs, k, n, rfl, rfl, hl, by rw [dpAll_len dd]; exact e4, ?_⟩
            obtain ⟨F3, X3⟩ := F2.celPut e3 ea (dpAll_set (dp_mono X2.same o1) n dd)
            exact q σ M2 _ F3 ((X1.trans X2).trans X3) ((k1.trans (k2.trans (kd_put e3))).pin)
          · cases e
        · cases e
      · cases e
    · cases e
  · cases e⟩
/-- x[i], x a cell or data at a slot -/
def fCelIx (j : Nat) (fi : FE) : FE := fun ρ => match ρ[j]? with
  | some (.cel _) => (match fi ρ with
    | some (.dat (.int k), ρ1) => (match ρ1[j]? with
      | some (.cel xs) => (match atI xs k with
        | some d => some (.dat d, ρ1)
        | none => none)
      | _ => none)
    | _ => none)
  | _ => none
theorem dpAll_at {K : PySem.W.Frag} {H : Hp} {vs : List V} {ds : List PyData} {k : Int} {d : PyData} (h : DqAll K H vs ds) (e : atI ds k = some d) : ∃ v, atI vs k = some v ∧ Dq K H v d := by
  unfold atI at e ⊢
  rw [dpAll_len h]
  cases q : ixN ds.length k with
  | none => rw [q] at e; cases e
  | some n => rw [q] at e; exact dpAll_get h e
theorem de_celIx {X : Cx} {P : Nat} {j : Nat} {x : Str} {px pos : Pos} {i : Expr} {ti : TE} {fi : FE} (hi : DE X P i ti fi)
    (hN : X.N[j]? = some x := by rfl) (hv : Vis X.env.scope x := by first | exact Or.inl rfl | exact Or.inr (Or.inl rfl) | exact Or.inr (Or.inr rfl)) (hd : (x == ("__debug__" : Str)) = false := by decide) (hcd : (x == ("__classdict__" : Str)) = false := by decide)
    (hs : PlainIx i := by intro _ _; rfl) : DE X P (.Subscript (.Name x px) i pos) (tOp (rIxL X.K) (tVar j) ti) (fCelIx j fi) := ⟨pe_ix ix_list (pe_var hN hv hd hcd) hi.1 hs, by
  intro Out M σ H ρ r ρ' Q F e q
  unfold fCelIx at e
  split at e
  · rename_i xs0 e0
    split at e
    · rename_i k ρ1 e1
      split at e
      · rename_i xs e2
        split at e
        · rename_i d e3
          cases e
          obtain ⟨a, vs0, ea, _⟩ := F.cel j xs0 e0
          refine ⟨_, ea, hi.2 Out M σ H _ _ _ _ F e1 fun w M1 H1 F1 X1 k1 o1 => ?_⟩
          cases o1
          obtain ⟨a', vs, ea', m, o, hl, dd⟩ := F1.cel j xs e2
          rw [ea] at ea'
          cases ea'
          obtain ⟨v, ev, dv⟩ := dpAll_at dd e3
          exact ⟨a, vs, k, v, rfl, rfl, .inl (.inl hl), ev, q v M1 H1 F1 X1 k1 dv⟩
        · cases e
      · cases e
    · cases e
  · cases e⟩
/-- x.append(e) -/
def fAppend (j : Nat) (fe : FE) : FE := fun ρ => match ρ[j]? with
  | some (.cel _) => (match fe ρ with
    | some (.dat d, ρ1) => (match ρ1[j]? with
      | some (.cel xs) => if xs.length < 100000 then some (.dat .none, ρ1.set j (.cel (xs ++ [d]))) else none
      | _ => none)
    | _ => none)
  | _ => none
theorem lt_line {n : Nat} (h : n < 100000) : n < sizeLine := by rw [sizeLine_eq]; omega
theorem de_append {X : Cx} {P : Nat} {j : Nat} {x : Str} {px apos cpos : Pos} {e : Expr} {te : TE} {fe : FE} (he : DE X P e te fe)
    (hp : PE X (.Call (.Attribute (.Name x px) "append" apos) [e] [] cpos) (tBM X.K "list" rAppend (tVar j) (tCons te tNil))) : DE X P (.Call (.Attribute (.Name x px) "append" apos) [e] [] cpos) (tBM X.K "list" rAppend (tVar j) (tCons te tNil)) (fAppend j fe) := ⟨hp, by
  intro Out M σ H ρ r ρ' Q F e q
  unfold fAppend at e
  split at e
  · rename_i xs0 e0
    split at e
    · rename_i d ρ1 e1
      split at e
      · rename_i xs e2
        split at e
        · rename_i hl'
          cases e
          obtain ⟨a, vs0, ea, _, _, hl0, _⟩ := F.cel j xs0 e0
          refine ⟨_, ea, .inl ⟨rfl, vs0, .inl (.inl hl0)⟩, he.2 Out M σ H _ _ _ _ F e1 fun w M1 H1 F1 X1 k1 o1 => ?_⟩
          obtain ⟨a', vs, ea', m, o, hl, dd⟩ := F1.cel j xs e2
          rw [ea] at ea'
          cases ea'
          refine ⟨a, vs, w, rfl, rfl, hl, by rw [dpAll_len dd]; exact lt_line hl', ?_⟩
          obtain ⟨F3, X3⟩ := F1.celPut e2 ea (dpAll_app dd (.cons o1 .nil))
          exact q _ M1 _ F3 (X1.trans X3) (k1.trans (kd_put e2)) .non
        · cases e
      · cases e
    · cases e
  · cases e⟩

/-! ### what is walked -/
abbrev FI := List En → Option (List PyData × List En)
def ItOk (K : PySem.W.Frag) (M : List Addr) (H : Hp) (J : It) (items : List PyData) : Prop :=
  ∀ (M' : List Addr) (H' : Hp), (∀ c ∈ M', H' c ≠ none) → Same (hid M H) (hid M' H') →
    (∀ (i : Nat) d, items[i]? = some d → J.go i H' ∧ ∀ x H3, J.yld i H' x H3 → Same H' H3 ∧ Dq K (hid M' H3) x d) ∧ J.stop items.length H'
def SI (K : PySem.W.Frag) (P : Nat) (wi : TI) (f : FI) : Prop :=
  ∀ (Out M : List Addr) (σ : St) (H : Hp) (ρ : List En) (items : List PyData) (ρ' : List En) (R : It → Hp → Prop), FrD K Out M σ H ρ → f ρ = some (items, ρ') →
    (∀ J M' H', FrD K Out M' σ H' ρ' → Ext Out M H M' H' → Kd P ρ ρ' → ItOk K M' H' J items → R J H') → wi σ H R
def DI (X : Cx) (P : Nat) (tg iter : Expr) (wi : TI) (f : FI) : Prop := PI X tg iter wi ∧ SI X.K P wi f
def fiList (f : FE) : FI := fun ρ => match f ρ with
  | some (.dat (.list xs), ρ') => some (xs, ρ')
  | _ => none
def fiTup (f : FE) : FI := fun ρ => match f ρ with
  | some (.dat (.tuple xs), ρ') => some (xs, ρ')
  | _ => none
def rng (lo : Int) (n : Nat) : List PyData := (List.range n).map fun (i : Nat) => PyData.int (lo + (i : Int))
def small62 (i : Int) : Bool := Nat.ble i.natAbs 1000000000
theorem small62_ok {i : Int} (h : small62 i = true) : -(2 ^ 62) ≤ i ∧ i < 2 ^ 62 := by
  have := Nat.le_of_ble_eq_true h
  omega
def fiR1 (f : FA) : FI := fun ρ => match f ρ with
  | some ([.int n], ρ') => if small62 n then some (rng 0 n.toNat, ρ') else none
  | _ => none
def fiR2 (f : FA) : FI := fun ρ => match f ρ with
  | some ([.int a, .int b], ρ') => if small62 a && small62 b then some (rng a (b - a).toNat, ρ') else none
  | _ => none
section
variable {X : Cx} {P : Nat} {tg l : Expr} {te : TE} {ta : TA} {fe : FE} {fa : FA}
theorem itok_list {K : PySem.W.Frag} {M : List Addr} {H : Hp} {a : Addr} {ds : List PyData} (h : Dq K (hid M H) (.ref a) (.list ds)) : ItOk K M H (Itl K a) ds := by
  intro M' H' live s
  cases h with
  | lst hs ha =>
    have h1 := (hid_sub M' H').seq (s.seq hs)
    have ha1 := dpAll_mono s ha
    refine ⟨fun i d e => ?_, ⟨_, h1, by rw [dpAll_len ha]; exact Nat.le_refl _⟩⟩
    obtain ⟨v, ev, dv⟩ := dpAll_get ha1 e
    refine ⟨⟨_, v, h1, ev⟩, fun x H3 y => ?_⟩
    obtain ⟨rfl, y⟩ := y
    have q := y _ h1
    rw [ev] at q
    cases q
    exact ⟨Same.refl _, dv⟩
theorem itok_tup {K : PySem.W.Frag} {M : List Addr} {H : Hp} {a : Addr} {ds : List PyData} (h : Dq K (hid M H) (.ref a) (.tuple ds)) : ItOk K M H (Itt K a) ds := by
  intro M' H' live s
  cases h with
  | tup hs ha =>
    have h1 := sameT (hid_sub M' H') (sameT s hs)
    have ha1 := dpAll_mono s ha
    refine ⟨fun i d e => ?_, ⟨_, h1, by rw [dpAll_len ha]; exact Nat.le_refl _⟩⟩
    obtain ⟨v, ev, dv⟩ := dpAll_get ha1 e
    refine ⟨⟨_, v, h1, ev⟩, fun x H3 y => ?_⟩
    obtain ⟨rfl, y⟩ := y
    have q := y _ h1
    rw [ev] at q
    cases q
    exact ⟨Same.refl _, dv⟩
theorem itok_rng {K : PySem.W.Frag} {M : List Addr} {H : Hp} (lo : Int) (n : Nat) : ItOk K M H (Itr lo n) (rng lo n) := by
  intro M' H' live s
  refine ⟨fun i d e => ?_, by show n ≤ (rng lo n).length; unfold rng; rw [List.length_map, List.length_range]; exact Nat.le_refl _⟩
  unfold rng at e
  rw [List.getElem?_map] at e
  by_cases hi : i < n
  · rw [List.getElem?_range hi] at e
    cases e
    refine ⟨hi, fun x H3 y => ?_⟩
    obtain ⟨rfl, rfl⟩ := y
    exact ⟨Same.refl _, .int _⟩
  · rw [List.getElem?_eq_none (by rw [List.length_range]; omega)] at e
    cases e
theorem di_list (h : DE X P l te fe) : DI X P tg l (iList X.K te) (fiList fe) := ⟨pi_list h.1, by
  intro Out M σ H ρ items ρ' R F e q
  unfold fiList at e
  split at e
  · rename_i xs ρ1 e1
    cases e
    refine h.2 Out M σ H ρ _ _ _ F e1 fun v M1 H1 F1 X1 k1 o1 => ?_
    cases (show Dq X.K (hid M1 H1) v (.list items) from o1) with
    | lst hs ha => exact ⟨_, rfl, ⟨_, (hid_sub _ _).seq hs⟩, q _ M1 H1 F1 X1 k1 (itok_list (.lst hs ha))⟩
  · cases e⟩
theorem di_tup (h : DE X P l te fe) : DI X P tg l (iTup X.K te) (fiTup fe) := ⟨pi_tup h.1, by
  intro Out M σ H ρ items ρ' R F e q
  unfold fiTup at e
  split at e
  · rename_i xs ρ1 e1
    cases e
    refine h.2 Out M σ H ρ _ _ _ F e1 fun v M1 H1 F1 X1 k1 o1 => ?_
    cases (show Dq X.K (hid M1 H1) v (.tuple items) from o1) with
    | tup hs ha => exact ⟨_, rfl, ⟨_, sameT (hid_sub _ _) hs⟩, q _ M1 H1 F1 X1 k1 (itok_tup (.tup hs ha))⟩
  · cases e⟩
theorem di_r1 {a : Expr} {p pos : Pos} (hm : X.mg "range" = none) (ha : DA X P [a] ta fa) (hg : Gl X "range" := by rfl) (hs : starEach [a] X.env = [(false, eval a X.env)] := by rfl) : DI X P tg (.Call (.Name "range" p) [a] [] pos) (iRng1 ta) (fiR1 fa) := ⟨pi_range1 hg hm ha.1 hs, by
  intro Out M σ H ρ items ρ' R F e q
  unfold fiR1 at e
  split at e
  · rename_i n ρ1 e1
    split at e
    · rename_i hn
      cases e
      have hn := small62_ok hn
      refine ha.2 Out M σ H ρ _ _ _ F e1 fun vs M1 H1 F1 X1 k1 o1 => ?_
      cases o1 with
      | cons a1 o1 =>
        cases o1
        cases a1
        exact ⟨n, rfl, hn.1, hn.2, q _ M1 H1 F1 X1 k1 (itok_rng 0 n.toNat)⟩
    · cases e
  · cases e⟩
theorem di_r2 {a b : Expr} {p pos : Pos} (hm : X.mg "range" = none) (ha : DA X P [a, b] ta fa) (hg : Gl X "range" := by rfl) (hs : starEach [a, b] X.env = [(false, eval a X.env), (false, eval b X.env)] := by rfl) (hs2 : starEach [b] X.env = [(false, eval b X.env)] := by rfl) :
    DI X P tg (.Call (.Name "range" p) [a, b] [] pos) (iRng2 ta) (fiR2 fa) := ⟨pi_range2 hg hm ha.1 hs hs2, by
  intro Out M σ H ρ items ρ' R F e q
  unfold fiR2 at e
  split at e
  · rename_i n m ρ1 e1
    split at e
    · rename_i hn
      cases e
      rw [Bool.and_eq_true] at hn
      have h1 := small62_ok hn.1
      have h2 := small62_ok hn.2
      refine ha.2 Out M σ H ρ _ _ _ F e1 fun vs M1 H1 F1 X1 k1 o1 => ?_
      cases o1 with
      | cons a1 o1 =>
        cases o1 with
        | cons a2 o1 =>
          cases o1
          cases a1
          cases a2
          exact ⟨n, m, rfl, ⟨h1.1, h1.2, h2.1, h2.2⟩, q _ M1 H1 F1 X1 k1 (itok_rng n (m - n).toNat)⟩
    · cases e
  · cases e⟩
end
end DL


set_option Elab.async false
set_option linter.all false
set_option maxRecDepth 100000
set_option maxHeartbeats 1000000
namespace DL
open PySem L2

/-! ### for -/
def fForGo (g : FG) (body : FS) : List PyData → FS
  | [], ρ => some (.nx ρ)
  | x :: xs, ρ => match g x ρ with
    | none => none
    | some ρ1 => match body ρ1 with
      | some (.nx ρ2) => fForGo g body xs ρ2
      | some (.ct ρ2) => fForGo g body xs ρ2
      | some (.bk ρ2) => some (.nx ρ2)
      | some (.rt r ρ2) => some (.rt r ρ2)
      | none => none
def fFor (fi : FI) (g : FG) (body : FS) : FS := fun ρ => match fi ρ with
  | some (items, ρ1) => fForGo g body items ρ1
  | none => none
section
variable {X : Cx} {P : Nat} {tg iter : Expr} {body : List Stmt} {wi : TI} {g : TG} {tb : TS} {fi : FI} {fg : FG} {fb : FS} {tv : List Nat} {pos : Pos}
theorem ss_for {K : PySem.W.Frag} (hi : SI K P wi fi) (hg : SG K P g fg tv) (hb : SS K P tb fb) : SS K P (tFor wi g tb) (fFor fi fg fb) := by
  intro Out M σ H ρ o D F e q
  unfold fFor at e
  split at e
  · rename_i items ρ1 e1
    refine hi Out M σ H ρ items ρ1 _ F e1 fun J M1 H1 F1 X1 k1 it => ?_
    refine ⟨fun i m σi Hi => ∃ Mi ρi, FrD K Out Mi σi Hi ρi ∧ Ext Out M H Mi Hi ∧ Pin P σ ρ σi ρi ∧ Same (hid M1 H1) (hid Mi Hi) ∧ fForGo fg fb (items.drop i) ρi = some o ∧ i ≤ items.length ∧ m = items.length - i,
      ⟨items.length, M1, ρ1, F1, X1, k1.pin, Same.refl _, e, Nat.zero_le _, rfl⟩, ?_⟩
    rintro i m σi Hi ⟨Mi, ρi, Fi, Xi, pi, si, ei, hi', rfl⟩
    obtain ⟨go, stop⟩ := it Mi Hi Fi.live si
    by_cases hlt : i < items.length
    · have ed : items.drop i = items[i] :: items.drop (i + 1) := List.drop_eq_getElem_cons hlt
      rw [ed] at ei
      unfold fForGo at ei
      obtain ⟨g1, g2⟩ := go i items[i] (List.getElem?_eq_getElem hlt)
      split at ei
      · cases ei
      rename_i ρ2 e2
      refine .inr ⟨g1, fun σ' H' => ∃ M' ρ', FrD K Out M' σ' H' ρ' ∧ Ext Out M H M' H' ∧ Pin P σ ρ σ' ρ' ∧ Same (hid M1 H1) (hid M' H') ∧ fForGo fg fb (items.drop (i + 1)) ρ' = some o, ?_, fun x H3 y => ?_⟩
      · rintro σ' H' ⟨M', ρ', F', X', p', s', e'⟩
        exact ⟨items.length - (i + 1), by omega, M', ρ', F', X', p', s', e', by omega, rfl⟩
      · obtain ⟨s3, d3⟩ := g2 x H3 y
        have F3 := Fi.grow s3
        have X3 := Fi.ext s3
        refine hg Out Mi σi H3 ρi x items[i] ρ2 _ F3 d3 e2 fun σ4 F4 p4 _ _ => ?_
        have fin : ∀ (o' : Oc) (D' : Ends), fb ρ2 = some o' → SQ K P Out Mi σ4 H3 ρ2 D' o' → tb D' σ4 H3 := fun o' D' h h' => hb Out Mi σ4 H3 ρ2 o' D' F4 h h'
        have nxt : ∀ (ρ' : List En), fForGo fg fb (items.drop (i + 1)) ρ' = some o → ∀ σ' M' H', FrD K Out M' σ' H' ρ' → Ext Out Mi H3 M' H' → Pin P σ4 ρ2 σ' ρ' →
            ∃ M' ρ', FrD K Out M' σ' H' ρ' ∧ Ext Out M H M' H' ∧ Pin P σ ρ σ' ρ' ∧ Same (hid M1 H1) (hid M' H') ∧ fForGo fg fb (items.drop (i + 1)) ρ' = some o := fun ρ' eo σ' M' H' F' X' p' =>
          ⟨M', ρ', F', (Xi.trans X3).trans X', pi.trans (p4.trans p'), (si.trans X3.same).trans X'.same, eo⟩
        split at ei
        · rename_i ρ5 e5
          exact fin _ _ e5 fun σ' M' H' F' X' p' => nxt ρ5 ei σ' M' H' F' X' p'
        · rename_i ρ5 e5
          exact fin _ _ e5 fun σ' M' H' F' X' p' => nxt ρ5 ei σ' M' H' F' X' p'
        · rename_i ρ5 e5
          cases ei
          exact fin _ _ e5 fun σ' M' H' F' X' p' => q σ' M' H' F' ((Xi.trans X3).trans X') (pi.trans (p4.trans p'))
        · rename_i r ρ5 e5
          cases ei
          exact fin _ _ e5 fun v σ' M' H' F' X' p' o' => q v σ' M' H' F' ((Xi.trans X3).trans X') (pi.trans (p4.trans p')) o'
        · cases ei
    · have e0 : i = items.length := by omega
      subst e0
      rw [List.drop_length] at ei
      cases ei
      exact .inl ⟨stop, q σi Mi Hi Fi Xi pi⟩
  · cases e
theorem ds_for (hc : X.calm = true) (hp : PassesOwn (model X.prog X.w) X.A X.env X.xe) (hi : DI X P tg iter wi fi) (hg : DG X P tg g fg tv) (hb : DSs X P body tb fb) (hs : ∀ x, foldedSetIterable iter X.env x = pure x := by intro _; rfl) :
    DS X P (.For tg iter body [] pos) (tFor wi g tb) (fFor fi fg fb) := ⟨ps_for hp hc hi.1 hg.1 hb.1 hs, ss_for hi.2 hg.2 hb.2⟩
end

/-! ### while: by a number of turns that is enough -/
def fWhileN (t : FT) (body : FS) : Nat → FS
  | 0, _ => none
  | n + 1, ρ => match t ρ with
    | some (false, ρ1) => some (.nx ρ1)
    | some (true, ρ1) => (match body ρ1 with
      | some (.nx ρ2) => fWhileN t body n ρ2
      | some (.ct ρ2) => fWhileN t body n ρ2
      | some (.bk ρ2) => some (.nx ρ2)
      | some (.rt r ρ2) => some (.rt r ρ2)
      | none => none)
    | none => none
section
variable {X : Cx} {P : Nat} {c : Expr} {body : List Stmt} {tc : TT} {tb : TS} {ft : FT} {fb : FS} {pos : Pos}
theorem ss_while {K : PySem.W.Frag} (n : Nat) (ht : STt K P tc ft) (hb : SS K P tb fb) : SS K P (tWhile tc tb) (fWhileN ft fb n) := by
  intro Out M σ H ρ o D F e q
  refine ⟨fun m σi Hi => ∃ Mi ρi, FrD K Out Mi σi Hi ρi ∧ Ext Out M H Mi Hi ∧ Pin P σ ρ σi ρi ∧ fWhileN ft fb m ρi = some o, ⟨n, M, ρ, F, .refl _ _ _, .refl _ _ _, e⟩, ?_⟩
  rintro m σi Hi ⟨Mi, ρi, Fi, Xi, pi, ei⟩
  cases m with
  | zero => cases ei
  | succ m =>
    unfold fWhileN at ei
    split at ei
    · rename_i ρ1 e1
      cases ei
      exact ht Out Mi σi Hi ρi _ _ _ Fi e1 fun M1 H1 F1 X1 k1 => iteF (q σi M1 H1 F1 (Xi.trans X1) (pi.trans k1.pin))
    · rename_i ρ1 e1
      refine ht Out Mi σi Hi ρi _ _ _ Fi e1 fun M1 H1 F1 X1 k1 => iteT ⟨fun σ' H' => ∃ M' ρ', FrD K Out M' σ' H' ρ' ∧ Ext Out M H M' H' ∧ Pin P σ ρ σ' ρ' ∧ fWhileN ft fb m ρ' = some o, ?_, ?_⟩
      · rintro σ' H' ⟨M', ρ', F', X', p', e'⟩
        exact ⟨m, Nat.lt_succ_self _, M', ρ', F', X', p', e'⟩
      · have fin : ∀ (o' : Oc) (D' : Ends), fb ρ1 = some o' → SQ K P Out M1 σi H1 ρ1 D' o' → tb D' σi H1 := fun o' D' h h' => hb Out M1 σi H1 ρ1 o' D' F1 h h'
        split at ei
        · rename_i ρ5 e5
          exact fin _ _ e5 fun σ' M' H' F' X' p' => ⟨M', ρ5, F', (Xi.trans X1).trans X', pi.trans (k1.pin.trans p'), ei⟩
        · rename_i ρ5 e5
          exact fin _ _ e5 fun σ' M' H' F' X' p' => ⟨M', ρ5, F', (Xi.trans X1).trans X', pi.trans (k1.pin.trans p'), ei⟩
        · rename_i ρ5 e5
          cases ei
          exact fin _ _ e5 fun σ' M' H' F' X' p' => q σ' M' H' F' ((Xi.trans X1).trans X') (pi.trans (k1.pin.trans p'))
        · rename_i r ρ5 e5
          cases ei
          exact fin _ _ e5 fun v σ' M' H' F' X' p' o' => q v σ' M' H' F' ((Xi.trans X1).trans X') (pi.trans (k1.pin.trans p')) o'
        · cases ei
    · cases ei
theorem ds_while (n : Nat) (hp : PassesOwn (model X.prog X.w) X.A X.env X.xe) (hc : DT X P c tc ft) (hb : DSs X P body tb fb) : DS X P (.While c body [] pos) (tWhile tc tb) (fWhileN ft fb n) := ⟨ps_while hp hc.1 hb.1, ss_while n hc.2 hb.2⟩
end

/-! ### comprehensions -/
def wipeE (ρ : List En) : List Nat → List En
  | [] => ρ
  | v :: vs => (wipeE ρ vs).set v .un
theorem wipeE_length (ρ : List En) : ∀ vs : List Nat, (wipeE ρ vs).length = ρ.length
  | [] => rfl
  | v :: vs => by unfold wipeE; rw [List.length_set, wipeE_length ρ vs]
theorem wipeE_out {ρ : List En} {i : Nat} : ∀ {vs : List Nat}, i ∉ vs → (wipeE ρ vs)[i]? = ρ[i]?
  | [], _ => rfl
  | v :: vs, h => by
    have h1 : v ≠ i := fun e => h (by rw [e]; exact List.mem_cons_self)
    unfold wipeE
    rw [List.getElem?_set_ne h1]
    exact wipeE_out fun m => h (List.mem_cons_of_mem _ m)
theorem wipeE_in {ρ : List En} {i : Nat} : ∀ {vs : List Nat}, i ∈ vs → (wipeE ρ vs)[i]? = some En.un ∨ (wipeE ρ vs)[i]? = none
  | [], h => by cases h
  | v :: vs, h => by
    unfold wipeE
    by_cases e : v = i
    · subst e
      by_cases hl : v < (wipeE ρ vs).length
      · rw [List.getElem?_set_self hl]; exact .inl rfl
      · rw [List.getElem?_eq_none (by rw [List.length_set]; omega)]; exact .inr rfl
    · rw [List.getElem?_set_ne e]
      rcases List.mem_cons.mp h with z | z
      · exact absurd z.symm e
      · exact wipeE_in z
theorem wipe_in {σ : St} {i : Nat} : ∀ {vs : List Nat}, i ∈ vs → i < σ.length → (wipe σ vs)[i]? = some none
  | [], h, _ => by cases h
  | v :: vs, h, hl => by
    unfold wipe
    by_cases e : v = i
    · subst e
      rw [List.getElem?_set_self (by rw [wipe_length]; exact hl)]
    · rw [List.getElem?_set_ne e]
      rcases List.mem_cons.mp h with z | z
      · exact absurd z.symm e
      · exact wipe_in z hl
theorem wipe_eq {σ σ' : St} {vs : List Nat} (hl : σ'.length = σ.length) (h : ∀ i : Nat, i ∉ vs → σ'[i]? = σ[i]?) : wipe σ' vs = wipe σ vs := by
  apply List.ext_getElem?
  intro i
  by_cases m : i ∈ vs
  · by_cases l : i < σ.length
    · rw [wipe_in m l, wipe_in m (by rw [hl]; exact l)]
    · rw [List.getElem?_eq_none (by rw [wipe_length]; omega), List.getElem?_eq_none (by rw [wipe_length]; omega)]
  · rw [wipe_out m, wipe_out m]; exact h i m
theorem wipe_wipe (σ : St) (vs : List Nat) : wipe (wipe σ vs) vs = wipe σ vs := wipe_eq (wipe_length _ _) fun i h => wipe_out h
def noCel (vs : List Nat) (ρ : List En) : Bool := vs.all fun i => match ρ[i]? with
  | some (.cel _) => false
  | _ => true
theorem noCel_ok {vs : List Nat} {ρ : List En} (h : noCel vs ρ = true) {i : Nat} {xs : List PyData} (m : i ∈ vs) : ρ[i]? ≠ some (En.cel xs) := fun e => by
  unfold noCel at h
  have q := List.all_eq_true.mp h i m
  rw [e] at q
  cases q
theorem FrD.wipe {K : PySem.W.Frag} {Out M : List Addr} {σ : St} {H : Hp} {ρ : List En} (F : FrD K Out M σ H ρ) (vs : List Nat) : FrD K Out M (L2.wipe σ vs) H (wipeE ρ vs) := by
  have get : ∀ {i : Nat} {e : En}, (wipeE ρ vs)[i]? = some e → e = .un ∨ (i ∉ vs ∧ ρ[i]? = some e) := fun {i e} q => by
    by_cases m : i ∈ vs
    · rcases wipeE_in (ρ := ρ) m with z | z
      · rw [z] at q; cases q; exact .inl rfl
      · rw [z] at q; cases q
    · rw [wipeE_out m] at q; exact .inr ⟨m, q⟩
  have cel : ∀ {i : Nat} {xs : List PyData}, (wipeE ρ vs)[i]? = some (En.cel xs) → i ∉ vs ∧ ρ[i]? = some (En.cel xs) := fun {i xs} q => by
    rcases get q with z | z
    · cases z
    · exact z
  refine ⟨by rw [wipeE_length, wipe_length]; exact F.len, fun i d q => ?_, fun i xs q => ?_, fun i j xs ys a q1 q2 e1 e2 => ?_, F.out, F.live, F.tab⟩
  · rcases get q with z | ⟨m, z⟩
    · cases z
    · rw [wipe_out m]; exact F.dat i d z
  · obtain ⟨m, z⟩ := cel q
    rw [wipe_out m]; exact F.cel i xs z
  · obtain ⟨m1, z1⟩ := cel q1
    obtain ⟨m2, z2⟩ := cel q2
    rw [wipe_out m1] at e1
    rw [wipe_out m2] at e2
    exact F.inj i j xs ys a z1 z2 e1 e2
def restE (ρ0 ρ : List En) : List Nat → List En
  | [] => ρ
  | v :: vs => (restE ρ0 ρ vs).set v ((ρ0[v]?).getD .un)
theorem restE_length (ρ0 ρ : List En) : ∀ vs : List Nat, (restE ρ0 ρ vs).length = ρ.length
  | [] => rfl
  | v :: vs => by unfold restE; rw [List.length_set, restE_length ρ0 ρ vs]
theorem restE_out {ρ0 ρ : List En} {i : Nat} : ∀ {vs : List Nat}, i ∉ vs → (restE ρ0 ρ vs)[i]? = ρ[i]?
  | [], _ => rfl
  | v :: vs, h => by
    have h1 : v ≠ i := fun e => h (by rw [e]; exact List.mem_cons_self)
    unfold restE
    rw [List.getElem?_set_ne h1]
    exact restE_out fun m => h (List.mem_cons_of_mem _ m)
theorem restE_in {ρ0 ρ : List En} {i : Nat} (hl : i < ρ.length) : ∀ {vs : List Nat}, i ∈ vs → (restE ρ0 ρ vs)[i]? = some ((ρ0[i]?).getD .un)
  | [], h => by cases h
  | v :: vs, h => by
    unfold restE
    by_cases e : v = i
    · subst e
      rw [List.getElem?_set_self (by rw [restE_length]; exact hl)]
    · rw [List.getElem?_set_ne e]
      rcases List.mem_cons.mp h with z | z
      · exact absurd z.symm e
      · exact restE_in hl z
/-- behind the block the def's own values stand again -/
theorem FrD.rest {K : PySem.W.Frag} {Out M0 M : List Addr} {σ : St} {H0 H : Hp} {ρ0 ρ : List En} {vs : List Nat} (F0 : FrD K Out M0 σ H0 ρ0) (F : FrD K Out M (L2.wipe σ vs) H ρ) (s : Same (hid M0 H0) (hid M H)) (nc : noCel vs ρ0 = true) : FrD K Out M σ H (restE ρ0 ρ vs) := by
  have hl : ρ.length = σ.length := by rw [F.len, wipe_length]
  have get : ∀ {i : Nat} {e : En}, (restE ρ0 ρ vs)[i]? = some e → (i ∈ vs ∧ (e = .un ∨ ρ0[i]? = some e)) ∨ (i ∉ vs ∧ ρ[i]? = some e) := fun {i e} q => by
    by_cases m : i ∈ vs
    · by_cases l : i < ρ.length
      · rw [restE_in l m] at q
        cases z : ρ0[i]? with
        | none => rw [z] at q; cases q; exact .inl ⟨m, .inl rfl⟩
        | some e0 => rw [z] at q; cases q; exact .inl ⟨m, .inr rfl⟩
      · rw [List.getElem?_eq_none (by rw [restE_length]; omega)] at q; cases q
    · rw [restE_out m] at q; exact .inr ⟨m, q⟩
  have cel : ∀ {i : Nat} {xs : List PyData}, (restE ρ0 ρ vs)[i]? = some (En.cel xs) → i ∉ vs ∧ ρ[i]? = some (En.cel xs) := fun {i xs} q => by
    rcases get q with ⟨m, z | z⟩ | z
    · cases z
    · exact absurd z (noCel_ok nc m)
    · exact z
  refine ⟨by rw [restE_length]; exact hl, fun i d q => ?_, fun i xs q => ?_, fun i j xs ys a q1 q2 e1 e2 => ?_, F.out, F.live, F.tab⟩
  · rcases get q with ⟨m, z | z⟩ | ⟨m, z⟩
    · cases z
    · obtain ⟨v, ev, dv⟩ := F0.dat i d z
      exact ⟨v, ev, dp_mono s dv⟩
    · obtain ⟨v, ev, dv⟩ := F.dat i d z
      rw [wipe_out m] at ev
      exact ⟨v, ev, dv⟩
  · obtain ⟨m, z⟩ := cel q
    obtain ⟨a, ws, ev, r⟩ := F.cel i xs z
    rw [wipe_out m] at ev
    exact ⟨a, ws, ev, r⟩
  · obtain ⟨m1, z1⟩ := cel q1
    obtain ⟨m2, z2⟩ := cel q2
    exact F.inj i j xs ys a z1 z2 (by rw [wipe_out m1]; exact e1) (by rw [wipe_out m2]; exact e2)
def fYes : FT := fun ρ => some (true, ρ)
def fLcGo (vs : List Nat) (g : FG) (ft : FT) (fe : FE) : List PyData → List En → Option (List PyData × List En)
  | [], ρ => some ([], ρ)
  | x :: xs, ρ => match g x ρ with
    | none => none
    | some ρ1 => match ft ρ1 with
      | some (true, ρ2) => (match fe ρ2 with
        | some (.dat y, ρ3) => if noCel vs ρ3 then (match fLcGo vs g ft fe xs (wipeE ρ3 vs) with
          | some (ys, ρ4) => some (y :: ys, ρ4)
          | none => none) else none
        | _ => none)
      | some (false, ρ2) => if noCel vs ρ2 then fLcGo vs g ft fe xs (wipeE ρ2 vs) else none
      | none => none
def fLc (vs : List Nat) (fi : FI) (g : FG) (ft : FT) (fe : FE) : FE := fun ρ => match fi ρ with
  | some (items, ρ1) => if noCel vs ρ1 then (match fLcGo vs g ft fe items (wipeE ρ1 vs) with
    | some (ys, ρ2) => if ys.length < 100000 then some (.new ys, restE ρ1 ρ2 vs) else none
    | none => none) else none
  | none => none
section
variable {X : Cx} {P : Nat} {wi : TI} {g : TG} {tt : TT} {te : TE} {fi : FI} {fg : FG} {ft : FT} {fe : FE} {tv : List Nat} {pos : Pos}
theorem st_yes {K : PySem.W.Frag} : STt K P tYes fYes := fun Out M σ H ρ b ρ' Q F e q => by cases e; exact q M H F (.refl _ _ _) (.refl _ _)
theorem kd_wipe {P : Nat} {ρ : List En} {vs : List Nat} (nc : noCel vs ρ = true) : Kd P ρ (wipeE ρ vs) := fun i _ xs h => ⟨xs, by rw [wipeE_out fun m => noCel_ok nc m h]; exact h⟩
theorem se_lc {K : PySem.W.Frag} {vs : List Nat} (hi : SI K P wi fi) (hg : SG K P g fg tv) (ht : STt K P tt ft) (he : SE K P te fe) (hv : ∀ i ∈ tv, i ∈ vs) : SE K P (tLc wi g tt te vs) (fLc vs fi fg ft fe) := by
  intro Out M σ H ρ r ρ' Q F e q
  unfold fLc at e
  split at e
  · rename_i items ρ1 e1
    split at e
    · rename_i nc
      split at e
      · rename_i ys ρ2 e2
        split at e
        · rename_i hlen
          cases e
          refine hi Out M σ H ρ items ρ1 _ F e1 fun J M1 H1 F1 X1 k1 it D hD => ?_
          have F1w := F1.wipe vs
          have F2 := F1w.celNew hD []
          have X2 := F1w.extNew hD []
          have gd := F2.guard (a := D) List.mem_cons_self fun i zs z w => by
            obtain ⟨a, us, ea, m, _⟩ := F1w.cel i zs z
            rw [w] at ea
            cases ea
            exact F1w.live D m hD
          refine ⟨fun i m Hi => ∃ Mi ρi acc vacc zs, FrD K (D :: Out) Mi (wipe σ vs) Hi ρi ∧ Ext Out M1 H1 Mi Hi ∧ Same (hid M1 H1) (hid Mi Hi) ∧ Kd P (wipeE ρ1 vs) ρi ∧ Hi D = some (.lst vacc) ∧ DqAll K (hid Mi Hi) vacc acc ∧ fLcGo vs fg ft fe (items.drop i) ρi = some (zs, ρ2) ∧ acc ++ zs = ys ∧ i ≤ items.length ∧ m = items.length - i,
            ⟨items.length, D :: M1, _, [], [], ys, gd, X2, X2.same, .refl _ _, upd_same, .nil, e2, rfl, Nat.zero_le _, rfl⟩, ?_⟩
          rintro i m Hi ⟨Mi, ρi, acc, vacc, zs, Fi, Xi, si, ki, hDi, da, ei, ea, hi', rfl⟩
          obtain ⟨go, stop⟩ := it Mi Hi Fi.live si
          by_cases hlt : i < items.length
          · have ed : items.drop i = items[i] :: items.drop (i + 1) := List.drop_eq_getElem_cons hlt
            rw [ed] at ei
            unfold fLcGo at ei
            obtain ⟨g1, g2⟩ := go i items[i] (List.getElem?_eq_getElem hlt)
            split at ei
            · cases ei
            rename_i ρ3 e3
            refine .inr ⟨g1, fun H' => ∃ M' ρ' acc vacc zs, FrD K (D :: Out) M' (wipe σ vs) H' ρ' ∧ Ext Out M1 H1 M' H' ∧ Same (hid M1 H1) (hid M' H') ∧ Kd P (wipeE ρ1 vs) ρ' ∧ H' D = some (.lst vacc) ∧ DqAll K (hid M' H') vacc acc ∧ fLcGo vs fg ft fe (items.drop (i + 1)) ρ' = some (zs, ρ2) ∧ acc ++ zs = ys, ?_, fun x H3 y => ?_⟩
            · rintro H' ⟨M', ρ', acc', vacc', zs', F', X', s', k', d', da', e', ea'⟩
              exact ⟨items.length - (i + 1), by omega, M', ρ', acc', vacc', zs', F', X', s', k', d', da', e', ea', by omega, rfl⟩
            · obtain ⟨s3, d3⟩ := g2 x H3 y
              have F3 := Fi.grow s3
              have X3 := Fi.ext s3
              have hD3 : H3 D = some (.lst vacc) := s3 _ _ hDi
              refine hg (D :: Out) Mi (wipe σ vs) H3 ρi x items[i] ρ3 _ F3 d3 e3 fun σ4 F4 p4 o4 l4 => ⟨?_, ?_⟩
              · rw [← wipe_wipe σ vs]
                exact wipe_eq l4 fun j hj => o4 j fun z => hj (hv j z)
              have ew : wipe σ4 vs = wipe σ vs := by
                rw [← wipe_wipe σ vs]
                exact wipe_eq l4 fun j hj => o4 j fun z => hj (hv j z)
              have wk : ∀ {A : List Addr} {G : Hp} {B : List Addr} {G' : Hp}, Ext (D :: Out) A G B G' → Ext Out A G B G' := fun z => z.weak fun b hb => List.mem_cons_of_mem _ hb
              split at ei
              · rename_i ρ5 e5
                split at ei
                · rename_i y' ρ6 e6
                  split at ei
                  · rename_i nc6
                    split at ei
                    · rename_i ys' ρ7 e7
                      cases ei
                      refine ht (D :: Out) Mi σ4 H3 ρ3 _ ρ5 _ F4 e5 fun M5 H5 F5 X5 k5 => iteT ?_
                      refine he (D :: Out) M5 σ4 H5 ρ5 _ ρ6 _ F5 e6 fun v M6 H6 F6 X6 k6 o6 => ?_
                      have hD6 : H6 D = some (.lst vacc) := by rw [X6.out D List.mem_cons_self, X5.out D List.mem_cons_self]; exact hD3
                      have mD : D ∈ M6 := F6.out D List.mem_cons_self
                      have sA : Same (hid Mi Hi) (hid M6 H6) := (X3.same.trans X5.same).trans X6.same
                      have hlA : acc.length < 100000 := by
                        have z := congrArg List.length ea
                        rw [List.length_append] at z
                        omega
                      refine ⟨vacc, hD6, by rw [dpAll_len da]; exact lt_line hlA, ?_⟩
                      have F7 : FrD K (D :: Out) M6 σ4 (upd H6 D (.lst (vacc ++ [v]))) ρ6 := by
                        refine ⟨F6.len, fun j d z => ?_, fun j us z => ?_, F6.inj, F6.out, fun b hb z => ?_, F6.tab.put mD _⟩
                        · rw [hid_mut mD]; exact F6.dat j d z
                        · obtain ⟨a, ws, ea', m', o', h', d'⟩ := F6.cel j us z
                          refine ⟨a, ws, ea', m', o', ?_, by rw [hid_mut mD]; exact d'⟩
                          rw [upd_ne fun w => o' (by rw [w]; exact List.mem_cons_self)]
                          exact h'
                        · by_cases w : b = D
                          · subst w; rw [upd_same] at z; cases z
                          · rw [upd_ne w] at z; exact F6.live b hb z
                      have F8 := F7.wipe vs
                      rw [ew] at F8
                      refine ⟨M6, wipeE ρ6 vs, acc ++ [y'], vacc ++ [v], ys', F8, ?_, ?_, ?_, upd_same, ?_, e7, by rw [List.append_assoc]; exact ea⟩
                      · refine ⟨by rw [hid_mut mD]; exact si.trans sA, fun b hb => ?_⟩
                        have ne : b ≠ D := fun w => F1.live b (F1.out b hb) (by rw [w]; exact hD)
                        rw [upd_ne ne, (wk X6).out b hb, (wk X5).out b hb, (wk X3).out b hb, Xi.out b hb]
                      · rw [hid_mut mD]; exact si.trans sA
                      · exact ki.trans (p4.kd.trans (k5.trans (k6.trans (kd_wipe nc6))))
                      · rw [hid_mut mD]; exact dpAll_app (dpAll_mono sA da) (.cons o6 .nil)
                    · cases ei
                  · cases ei
                · cases ei
              · rename_i ρ5 e5
                split at ei
                · rename_i nc5
                  refine ht (D :: Out) Mi σ4 H3 ρ3 _ ρ5 _ F4 e5 fun M5 H5 F5 X5 k5 => iteF ?_
                  have hD5 : H5 D = some (.lst vacc) := by rw [X5.out D List.mem_cons_self]; exact hD3
                  have sA : Same (hid Mi Hi) (hid M5 H5) := X3.same.trans X5.same
                  have F8 := F5.wipe vs
                  rw [ew] at F8
                  exact ⟨M5, wipeE ρ5 vs, acc, vacc, zs, F8, ⟨si.trans sA, fun b hb => by rw [(wk X5).out b hb, (wk X3).out b hb, Xi.out b hb]⟩, si.trans sA, ki.trans (p4.kd.trans (k5.trans (kd_wipe nc5))), hD5, dpAll_mono sA da, ei, ea⟩
                · cases ei
              · cases ei
          · have e0 : i = items.length := by omega
            subst e0
            rw [List.drop_length] at ei
            cases ei
            rw [List.append_nil] at ea
            subst ea
            have Fw : FrD K Out Mi (wipe σ vs) Hi ρ2 := Fi.weak fun b hb => List.mem_cons_of_mem _ hb
            have Fr := F1.rest Fw si nc
            refine .inl ⟨stop, q _ Mi Hi Fr (X1.trans Xi) ?_ ⟨D, vacc, rfl, Fi.out D List.mem_cons_self, fun z => F1.live D (F1.out D z) hD, hDi, da, fun i zs z w => ?_⟩⟩
            · intro i hi0 xs h
              obtain ⟨xs1, h1⟩ := k1 i hi0 xs h
              have nm : i ∉ vs := fun m => noCel_ok nc m h1
              rw [restE_out nm]
              exact ki i hi0 xs1 (by rw [wipeE_out nm]; exact h1)
            · have nm : i ∉ vs := fun m => by
                by_cases l : i < ρ2.length
                · rw [restE_in l m] at z
                  cases z0 : ρ1[i]? with
                  | none => rw [z0] at z; cases z
                  | some e0 => rw [z0] at z; cases z; exact noCel_ok nc m z0
                · rw [List.getElem?_eq_none (by rw [restE_length]; omega)] at z; cases z
              rw [restE_out nm] at z
              obtain ⟨a, us, ea', m', o', _⟩ := Fi.cel i zs z
              rw [wipe_out nm, w] at ea'
              cases ea'
              exact o' List.mem_cons_self
        · cases e
      · cases e
    · cases e
  · cases e
end
end DL


set_option Elab.async false
set_option linter.all false
set_option maxRecDepth 100000
set_option maxHeartbeats 1000000
namespace DL
open PySem L2

section
variable {X : Cx} {P : Nat} {wi : TI} {g : TG} {tt : TT} {te : TE} {fi : FI} {fg : FG} {ft : FT} {fe : FE} {tv : List Nat} {pos : Pos}
/-! ### comprehensions, as values and stored -/
/-- a clause's tests -/
def DTs (X : Cx) (P : Nat) (ifs : List Expr) (tt : TT) (f : FT) : Prop := PTs X ifs tt ∧ STt X.K P tt f
theorem dts_nil : DTs X P [] tYes fYes := ⟨pts_nil, st_yes⟩
theorem dts_one {c : Expr} (h : DT X P c tt ft) : DTs X P [c] tt ft := ⟨pts_one h.1, h.2⟩
theorem de_lc {elt tg iter : Expr} {ifs : List Expr} {scope : Scope} {own : List (Str × Nat)} (hc : X.calm = true) (hN : X.N.Nodup) (hi : DI X P tg iter wi fi) (ok : BlkOk X.N X.env.scope scope own)
    (hg : ∀ (s : Shared) (H : Hp) (C : Addr) (cl : List (Str × Addr)) (fp : List Addr), DG (X.blk s H scope (compEnvC scope cl C X.env) fp) P tg g fg tv) (ht : ∀ (s : Shared) (H : Hp) (C : Addr) (cl : List (Str × Addr)) (fp : List Addr), DTs (X.blk s H scope (compEnvC scope cl C X.env) fp) P ifs tt ft)
    (he : ∀ (s : Shared) (H : Hp) (C : Addr) (cl : List (Str × Addr)) (fp : List Addr), DE (X.blk s H scope (compEnvC scope cl C X.env) fp) P elt te fe) (hv : ∀ i ∈ tv, i ∈ own.map (·.2) := by decide) (hs : ∀ x, foldedSetIterable iter X.env x = pure x := by intro _; rfl) :
    DE X P (.ListComp elt [⟨tg, iter, ifs, 0⟩] scope pos) (tLc wi g tt te (own.map (·.2))) (fLc (own.map (·.2)) fi fg ft fe) :=
  ⟨pe_lc hc hN hi.1 ok (fun s H C cl fp => (hg s H C cl fp).1) (fun s H C cl fp => (ht s H C cl fp).1) (fun s H C cl fp => (he s H C cl fp).1) hs,
    se_lc hi.2 (hg X.s_0 X.H_0 0 [] []).2 (ht X.s_0 X.H_0 0 [] []).2 (he X.s_0 X.H_0 0 [] []).2 hv⟩
end

/-! ### a local cell becomes data -/
def fFrzS (P i : Nat) : FE := fun ρ => if i < P then none else match ρ[i]? with
  | some (.cel xs) => some (.dat (.list xs), ρ.set i (.dat (.list xs)))
  | _ => none
theorem se_frzS {K : PySem.W.Frag} {P : Nat} (i : Nat) : SE K P (tVar i) (fFrzS P i) := by
  intro Out M σ H ρ r ρ' Q F e q
  unfold fFrzS at e
  split at e
  · cases e
  rename_i hp
  split at e
  · rename_i xs h
    cases e
    obtain ⟨a, vs, ea, m, o, hl, dd⟩ := F.cel i xs h
    have hi : i < ρ.length := (List.getElem?_eq_some_iff.mp h).1
    have sub : ∀ b, b ∈ M.filter (fun b => decide (b ≠ a)) → b ∈ M := fun b hb => (List.mem_filter.mp hb).1
    have dv : Dq K (hid (M.filter (fun b => decide (b ≠ a))) H) (.ref a) (.list xs) := .lst (.inl (.inl (hid_out not_mem_drop hl fun _ z => nomatch z))) (dpAll_mono (hid_anti sub) dd)
    have cel : ∀ {j : Nat} {ys : List PyData}, (ρ.set i (.dat (.list xs)))[j]? = some (En.cel ys) → i ≠ j ∧ ρ[j]? = some (En.cel ys) := fun {j ys} q => by
      by_cases hij : i = j
      · subst hij; rw [List.getElem?_set_self hi] at q; cases q
      · rw [List.getElem?_set_ne hij] at q; exact ⟨hij, q⟩
    refine ⟨_, ea, q _ (M.filter (fun b => decide (b ≠ a))) H ⟨by rw [List.length_set]; exact F.len, fun j d z => ?_, fun j ys z => ?_, fun j k ys zs b z1 z2 e1 e2 => ?_, fun b hb => ?_, fun b hb => F.live b (sub b hb), F.tab.sub sub⟩ Ext.drop ?_ dv⟩
    · by_cases hij : i = j
      · subst hij
        rw [List.getElem?_set_self hi] at z
        cases z
        exact ⟨_, ea, dv⟩
      · rw [List.getElem?_set_ne hij] at z
        obtain ⟨v, ev, dd'⟩ := F.dat j d z
        exact ⟨v, ev, dp_mono (hid_anti sub) dd'⟩
    · obtain ⟨hij, z⟩ := cel z
      obtain ⟨b, ws, eb, mb, ob, hb, db⟩ := F.cel j ys z
      refine ⟨b, ws, eb, List.mem_filter.mpr ⟨mb, decide_eq_true fun w => hij (F.inj i j xs ys a h z ea (by rw [eb, w]))⟩, ob, hb, dpAll_mono (hid_anti sub) db⟩
    · exact F.inj j k ys zs b (cel z1).2 (cel z2).2 e1 e2
    · exact List.mem_filter.mpr ⟨F.out b hb, decide_eq_true fun w => o (by rw [← w]; exact hb)⟩
    · intro j hj ys z
      have hij : i ≠ j := by omega
      exact ⟨ys, by rw [List.getElem?_set_ne hij]; exact z⟩
  · cases e
theorem dvz (i : Nat) {X : Cx} {P : Nat} {x : Str} {pos : Pos} (hN : X.N[i]? = some x := by rfl) (hv : Vis X.env.scope x := by first | exact Or.inl rfl | exact Or.inr (Or.inl rfl) | exact Or.inr (Or.inr rfl)) (hd : (x == ("__debug__" : Str)) = false := by decide)
    (hcd : (x == ("__classdict__" : Str)) = false := by decide) : DE X P (.Name x pos) (tVar i) (fFrzS P i) := ⟨pe_var hN hv hd hcd, se_frzS i⟩

/-! ### defs -/
def kpE : En → En → En
  | .cel _, .cel ys => .cel ys
  | _, _ => .un
def fFun (np k : Nat) (body : FS) : FE := fun ρ => match body (ρ ++ List.replicate k .un) with
  | some (.rt (.dat d) ρ') => some (.dat d, List.zipWith kpE ρ ρ')
  | some (.rt (.new xs) ρ') => some (.new xs, List.zipWith kpE ρ ρ')
  | some (.rt (.slot i) ρ') => if i < np then none else (match ρ'[i]? with
    | some (.cel xs) => some (.new xs, List.zipWith kpE ρ ρ')
    | _ => none)
  | some (.nx ρ') => some (.dat .none, List.zipWith kpE ρ ρ')
  | _ => none
/-- a def's promise -/
def spD (K : PySem.W.Frag) (np : Nat) (F : FE) : Sp := fun vs H Q _ => ∃ Out M ρ r ρ', FrD K Out M (vs.map some) H ρ ∧ F ρ = some (r, ρ') ∧ vs.length = np ∧
  ∀ v M' H', FrD K Out M' (vs.map some) H' ρ' → Ext Out M H M' H' → RvOk K Out M' (vs.map some) H' ρ' r v → Q v H'
section
variable {K : PySem.W.Frag} {Out M : List Addr} {σ : St} {H : Hp} {ρ : List En}
theorem FrD.more (F : FrD K Out M σ H ρ) (k : Nat) : FrD K Out M (σ ++ List.replicate k none) H (ρ ++ List.replicate k .un) := by
  have get : ∀ {i : Nat} {e : En}, (ρ ++ List.replicate k En.un)[i]? = some e → e = .un ∨ (i < σ.length ∧ ρ[i]? = some e) := fun {i e} q => by
    by_cases h : i < ρ.length
    · rw [List.getElem?_append_left h] at q; exact .inr ⟨by rw [← F.len]; exact h, q⟩
    · rw [List.getElem?_append_right (by omega), List.getElem?_replicate] at q
      split at q
      · cases q; exact .inl rfl
      · cases q
  have cel : ∀ {i : Nat} {xs : List PyData}, (ρ ++ List.replicate k En.un)[i]? = some (En.cel xs) → i < σ.length ∧ ρ[i]? = some (En.cel xs) := fun {i xs} q => by
    rcases get q with z | z
    · cases z
    · exact z
  refine ⟨by rw [List.length_append, List.length_append, List.length_replicate, List.length_replicate, F.len], fun i d q => ?_, fun i xs q => ?_, fun i j xs ys a q1 q2 e1 e2 => ?_, F.out, F.live, F.tab⟩
  · rcases get q with z | ⟨h, z⟩
    · cases z
    · rw [List.getElem?_append_left h]; exact F.dat i d z
  · obtain ⟨h, z⟩ := cel q
    rw [List.getElem?_append_left h]; exact F.cel i xs z
  · obtain ⟨h1, z1⟩ := cel q1
    obtain ⟨h2, z2⟩ := cel q2
    rw [List.getElem?_append_left h1] at e1
    rw [List.getElem?_append_left h2] at e2
    exact F.inj i j xs ys a z1 z2 e1 e2
theorem zipKp {ρ ρ' : List En} {i : Nat} {ys : List PyData} (h : (List.zipWith kpE ρ ρ')[i]? = some (En.cel ys)) : ∃ xs, ρ[i]? = some (En.cel xs) ∧ ρ'[i]? = some (En.cel ys) := by
  rw [List.getElem?_zipWith] at h
  cases h1 : ρ[i]? with
  | none => rw [h1] at h; cases h
  | some a =>
    cases h2 : ρ'[i]? with
    | none => rw [h1, h2] at h; cases h
    | some b =>
      rw [h1, h2] at h
      have h : kpE a b = .cel ys := Option.some.inj h
      cases a <;> cases b <;> first | cases h | skip
      exact ⟨_, rfl, rfl⟩
theorem zipKpD {ρ ρ' : List En} {i : Nat} {d : PyData} (h : (List.zipWith kpE ρ ρ')[i]? = some (En.dat d)) : False := by
  rw [List.getElem?_zipWith] at h
  cases h1 : ρ[i]? with
  | none => rw [h1] at h; cases h
  | some a =>
    cases h2 : ρ'[i]? with
    | none => rw [h1, h2] at h; cases h
    | some b =>
      rw [h1, h2] at h
      have h : kpE a b = .dat d := Option.some.inj h
      cases a <;> cases b <;> cases h
/-- the parameters' frame behind the body -/
theorem FrD.back {M' : List Addr} {σ' : St} {H' : Hp} {ρ' : List En} {np k : Nat} (F : FrD K Out M σ H ρ) (hn : σ.length = np) (F' : FrD K Out M' σ' H' ρ') (p : Pin np (σ ++ List.replicate k none) (ρ ++ List.replicate k .un) σ' ρ') :
    FrD K Out M' σ H' (List.zipWith kpE ρ ρ') ∧ ∀ (i : Nat) ys, (List.zipWith kpE ρ ρ')[i]? = some (En.cel ys) → i < np ∧ σ'[i]? = σ[i]? ∧ ρ'[i]? = some (En.cel ys) := by
  have hl : ρ.length ≤ ρ'.length := by
    rw [F'.len, p.1, List.length_append, F.len]
    exact Nat.le_add_right _ _
  have get : ∀ (i : Nat) ys, (List.zipWith kpE ρ ρ')[i]? = some (En.cel ys) → i < np ∧ σ'[i]? = σ[i]? ∧ ρ'[i]? = some (En.cel ys) := fun i ys q => by
    obtain ⟨xs, h1, h2⟩ := zipKp q
    have hi : i < ρ.length := (List.getElem?_eq_some_iff.mp h1).1
    have hs : i < σ.length := by rw [← F.len]; exact hi
    obtain ⟨e, _⟩ := p.2 i (by omega) xs (by rw [List.getElem?_append_left hi]; exact h1)
    rw [List.getElem?_append_left hs] at e
    exact ⟨by omega, e, h2⟩
  refine ⟨⟨by rw [List.length_zipWith, Nat.min_eq_left hl]; exact F.len, fun i d q => (zipKpD q).elim, fun i ys q => ?_, fun i j xs ys a q1 q2 e1 e2 => ?_, F'.out, F'.live, F'.tab⟩, get⟩
  · obtain ⟨hi, e, h⟩ := get i ys q
    rw [← e]; exact F'.cel i ys h
  · obtain ⟨h1, f1, g1⟩ := get i xs q1
    obtain ⟨h2, f2, g2⟩ := get j ys q2
    exact F'.inj i j xs ys a g1 g2 (by rw [f1]; exact e1) (by rw [f2]; exact e2)
end
theorem fun_ok {P : Program} {w : World} {K : PySem.W.Frag} {mg : Str → Option Value} {base : Heap} {x qual : Str} {st : Stmt} {f : Addr} {fd : FuncData} {N ps : List Str} {k np kk : Nat} {ts : TS} {fb : FS} (F : Fun K x qual st f fd) (S : FnScope N ps (defScope st)) (hnp : ps.length = np) (hkk : N.length - np = kk)
    (hbody : ∀ (cdv : Value) (A : Around) (outer : List Env) (s : Shared) (H : Hp) (E : XK), Room k (A.deeper (PyProof.Rows.envOfC qual (defScope st) s.heap.objs.size f cdv)) → DSs (cxOf CX0 P w K mg base N qual (defScope st) f cdv A outer s H E).nox np (defBody st) ts fb) :
    FnOk P w K mg base CX0 (k + 1) f fd ps (spD K np (fFun np kk fb)) := by
  refine F.ok S (fun vs H Q E h => ?_) (fun cdv A outer s H vs Q E hr h => ?_)
  · obtain ⟨_, _, _, _, _, _, _, hl, _⟩ := h
    rw [hl, hnp]
  obtain ⟨Out, M, ρ, r, ρ', F0, e, hl, q⟩ := h
  have B := hbody cdv A outer s H E hr
  refine ⟨ts, B.1, ?_⟩
  have es : L2.start N vs = vs.map some ++ List.replicate kk none := by unfold L2.start; rw [hl, hkk]
  rw [es]
  have lσ : (vs.map some).length = np := by rw [List.length_map]; exact hl
  have F1 := F0.more kk
  have key : ∀ (ρ2 : List En) (σ' : St) (M' : List Addr) (H' : Hp), FrD K Out M' σ' H' ρ2 → Pin np (vs.map some ++ List.replicate kk none) (ρ ++ List.replicate kk .un) σ' ρ2 → FrD K Out M' (vs.map some) H' (List.zipWith kpE ρ ρ2) ∧
      ∀ (i : Nat) ys, (List.zipWith kpE ρ ρ2)[i]? = some (En.cel ys) → i < np ∧ σ'[i]? = (vs.map some)[i]? ∧ ρ2[i]? = some (En.cel ys) := fun ρ2 σ' M' H' F2 p => F0.back lσ F2 p
  unfold fFun at e
  split at e
  · rename_i d ρ2 e2
    cases e
    refine B.2 Out M _ H _ _ _ F1 e2 fun v σ' M' H' F2 X2 p2 o2 => ?_
    exact q v M' H' (key ρ2 σ' M' H' F2 p2).1 X2 o2
  · rename_i xs ρ2 e2
    cases e
    refine B.2 Out M _ H _ _ _ F1 e2 fun v σ' M' H' F2 X2 p2 o2 => ?_
    obtain ⟨F3, g3⟩ := key ρ2 σ' M' H' F2 p2
    obtain ⟨a, ws, ev, m, o, hl', dd, hs⟩ := o2
    refine q v M' H' F3 X2 ⟨a, ws, ev, m, o, hl', dd, fun i ys z w => ?_⟩
    obtain ⟨_, h1, h2⟩ := g3 i ys z
    exact hs i ys h2 (by rw [h1]; exact w)
  · rename_i i ρ2 e2
    split at e
    · cases e
    rename_i hi
    split at e
    · rename_i xs e3
      cases e
      refine B.2 Out M _ H _ _ _ F1 e2 fun v σ' M' H' F2 X2 p2 o2 => ?_
      obtain ⟨F3, g3⟩ := key ρ2 σ' M' H' F2 p2
      obtain ⟨ev, _⟩ := o2
      obtain ⟨a, ws, ea, m, o, hl', dd⟩ := F2.cel i xs e3
      rw [ev] at ea
      cases ea
      refine q _ M' H' F3 X2 ⟨a, ws, rfl, m, o, hl', dd, fun j ys z w => ?_⟩
      obtain ⟨hj, h1, h2⟩ := g3 j ys z
      exact hi (by rw [F2.inj i j xs ys a e3 h2 ev (by rw [h1]; exact w)]; exact hj)
    · cases e
  · rename_i ρ2 e2
    cases e
    refine B.2 Out M _ H _ _ _ F1 e2 fun σ' M' H' F2 X2 p2 => ?_
    exact q _ M' H' (key ρ2 σ' M' H' F2 p2).1 X2 .non
  · cases e

/-! ### a call: the first argument data or a cell of this frame, the others data -/
def fCall (np : Nat) (F : FE) (fe : FE) (fa : FA) : FE := fun ρ => match fe ρ with
  | some (.dat d, ρ1) => (match fa ρ1 with
    | some (ds, ρ2) => if ds.length + 1 = np then (match F (.dat d :: ds.map .dat) with
      | some (.dat z, _) => some (.dat z, ρ2)
      | some (.new zs, _) => some (.new zs, ρ2)
      | _ => none) else none
    | none => none)
  | some (.slot i, ρ1) => (match fa ρ1 with
    | some (ds, ρ2) => if ds.length + 1 = np then (match ρ2[i]? with
      | some (.cel xs) => (match F (.cel xs :: ds.map .dat) with
        | some (.dat z, .cel ys :: _) => some (.dat z, ρ2.set i (.cel ys))
        | some (.new zs, .cel ys :: _) => some (.new zs, ρ2.set i (.cel ys))
        | _ => none)
      | _ => none) else none
    | none => none)
  | _ => none
section
variable {K : PySem.W.Frag} {Out M : List Addr} {σ : St} {H : Hp} {ρ : List En}
theorem dats_get {K : PySem.W.Frag} {G : Hp} {vs : List V} {ds : List PyData} (h : DqAll K G vs ds) {i : Nat} {e : En} (q : (ds.map En.dat)[i]? = some e) : ∃ d v, e = .dat d ∧ (vs.map some)[i]? = some (some v) ∧ Dq K G v d := by
  rw [List.getElem?_map] at q
  cases z : ds[i]? with
  | none => rw [z] at q; cases q
  | some d =>
    rw [z] at q; cases q
    obtain ⟨v, ev, dv⟩ := dpAll_get h z
    exact ⟨d, v, rfl, by rw [List.getElem?_map, ev]; rfl, dv⟩
/-- the callee's frame where all is data: every cell of ours is another's to it -/
theorem FrD.calleeD (F : FrD K Out M σ H ρ) {vs : List V} {ds : List PyData} (h : DqAll K (hid M H) vs ds) : FrD K M M (vs.map some) H (ds.map .dat) := by
  refine ⟨by rw [List.length_map, List.length_map, dpAll_len h], fun i d q => ?_, fun i xs q => ?_, fun i j xs ys a q1 _ _ _ => ?_, fun _ h => h, F.live, F.tab⟩
  · obtain ⟨d', v, e, ev, dv⟩ := dats_get h q
    cases e
    exact ⟨v, ev, dv⟩
  · obtain ⟨d', v, e, _⟩ := dats_get h q
    cases e
  · obtain ⟨d', v, e, _⟩ := dats_get h q1
    cases e
/-- .. behind it -/
theorem FrD.afterD {σc : St} {ρc : List En} {M' : List Addr} {H' : Hp} (F : FrD K Out M σ H ρ) (Fc : FrD K M M' σc H' ρc) (x : Ext M M H M' H') : FrD K Out M' σ H' ρ := by
  refine ⟨F.len, fun i d q => ?_, fun i xs q => ?_, F.inj, fun a h => Fc.out a (F.out a h), Fc.live, Fc.tab⟩
  · obtain ⟨v, ev, dv⟩ := F.dat i d q
    exact ⟨v, ev, dp_mono x.same dv⟩
  · obtain ⟨a, vs, ea, m, o, hl, dd⟩ := F.cel i xs q
    exact ⟨a, vs, ea, Fc.out a m, o, by rw [x.out a m]; exact hl, dpAll_mono x.same dd⟩
/-- the callee's frame where the first argument is our cell at a -/
theorem FrD.calleeC (F : FrD K Out M σ H ρ) {i : Nat} {a : Addr} {xs : List PyData} (h : ρ[i]? = some (En.cel xs)) (e : σ[i]? = some (some (V.ref a))) {vs : List V} {ds : List PyData} (hd : DqAll K (hid M H) vs ds) :
    FrD K (M.filter (fun b => decide (b ≠ a))) M (some (V.ref a) :: vs.map some) H (.cel xs :: ds.map .dat) := by
  obtain ⟨a', ws, ea, m, o, hl, dd⟩ := F.cel i xs h
  rw [e] at ea; cases ea
  refine ⟨by rw [List.length_cons, List.length_cons, List.length_map, List.length_map, dpAll_len hd], fun j d q => ?_, fun j ys q => ?_, fun j k ys zs b q1 q2 _ _ => ?_, fun b hb => (List.mem_filter.mp hb).1, F.live, F.tab⟩
  · cases j with
    | zero => cases q
    | succ j =>
      rw [List.getElem?_cons_succ] at q
      obtain ⟨d', v, e', ev, dv⟩ := dats_get hd q
      cases e'
      exact ⟨v, by rw [List.getElem?_cons_succ]; exact ev, dv⟩
  · cases j with
    | zero => cases q; exact ⟨a, ws, rfl, m, not_mem_drop, hl, dd⟩
    | succ j =>
      rw [List.getElem?_cons_succ] at q
      obtain ⟨d', v, e', _⟩ := dats_get hd q
      cases e'
  · cases j with
    | zero =>
      cases k with
      | zero => rfl
      | succ k =>
        rw [List.getElem?_cons_succ] at q2
        obtain ⟨d', v, e', _⟩ := dats_get hd q2
        cases e'
    | succ j =>
      rw [List.getElem?_cons_succ] at q1
      obtain ⟨d', v, e', _⟩ := dats_get hd q1
      cases e'
theorem FrD.afterC {σr : St} {ρr : List En} {M' : List Addr} {H' : Hp} {i : Nat} {a : Addr} {xs ys : List PyData} (F : FrD K Out M σ H ρ) (h : ρ[i]? = some (En.cel xs)) (e : σ[i]? = some (some (V.ref a)))
    (Fc : FrD K (M.filter (fun b => decide (b ≠ a))) M' (some (V.ref a) :: σr) H' (.cel ys :: ρr)) (x : Ext (M.filter (fun b => decide (b ≠ a))) M H M' H') :
    FrD K Out M' σ H' (ρ.set i (.cel ys)) ∧ Ext Out M H M' H' ∧ (∀ b, b ∈ M → b ≠ a → b ∈ M.filter (fun b => decide (b ≠ a))) ∧ a ∉ Out := by
  obtain ⟨a', ws, ea, m, o, hl, dd⟩ := F.cel i xs h
  rw [e] at ea; cases ea
  have hi : i < ρ.length := (List.getElem?_eq_some_iff.mp h).1
  have inO : ∀ b, b ∈ M → b ≠ a → b ∈ M.filter (fun b => decide (b ≠ a)) := fun b hb hn => List.mem_filter.mpr ⟨hb, decide_eq_true hn⟩
  have outO : ∀ b, b ∈ Out → b ∈ M.filter (fun b => decide (b ≠ a)) := fun b hb => inO b (F.out b hb) fun z => o (by rw [← z]; exact hb)
  obtain ⟨a2, ws2, ea2, m2, _, hl2, dd2⟩ := Fc.cel 0 ys rfl
  cases ea2
  have old : ∀ {j : Nat} {zs : List PyData}, (ρ.set i (.cel ys))[j]? = some (En.cel zs) → (i = j ∧ zs = ys) ∨ (i ≠ j ∧ ρ[j]? = some (En.cel zs)) := fun {j zs} q => by
    by_cases hij : i = j
    · subst hij; rw [List.getElem?_set_self hi] at q; cases q; exact .inl ⟨rfl, rfl⟩
    · rw [List.getElem?_set_ne hij] at q; exact .inr ⟨hij, q⟩
  have was : ∀ {j : Nat} {zs : List PyData}, (ρ.set i (.cel ys))[j]? = some (En.cel zs) → ∃ us, ρ[j]? = some (En.cel us) := fun {j zs} q => by
    rcases old q with ⟨z, _⟩ | ⟨_, z⟩
    · subst z; exact ⟨xs, h⟩
    · exact ⟨zs, z⟩
  refine ⟨⟨by rw [List.length_set]; exact F.len, fun j d q => ?_, fun j zs q => ?_, fun j k zs us b q1 q2 e1 e2 => ?_, fun b hb => Fc.out b (outO b hb), Fc.live, Fc.tab⟩, ⟨x.same, fun b hb => x.out b (outO b hb)⟩, inO, o⟩
  · by_cases hij : i = j
    · subst hij; rw [List.getElem?_set_self hi] at q; cases q
    · rw [List.getElem?_set_ne hij] at q
      obtain ⟨v, ev, dv⟩ := F.dat j d q
      exact ⟨v, ev, dp_mono x.same dv⟩
  · rcases old q with ⟨z, z2⟩ | ⟨z, q⟩
    · subst z; subst z2
      exact ⟨a, ws2, e, m2, o, hl2, dd2⟩
    · obtain ⟨b, us, eb, mb, ob, hb, db⟩ := F.cel j zs q
      have nb : b ≠ a := fun w => z (F.inj i j xs zs a h q e (by rw [eb, w]))
      exact ⟨b, us, eb, Fc.out b (inO b mb nb), ob, by rw [x.out b (inO b mb nb)]; exact hb, dpAll_mono x.same db⟩
  · obtain ⟨_, w1⟩ := was q1
    obtain ⟨_, w2⟩ := was q2
    exact F.inj j k _ _ b w1 w2 e1 e2
end
section
variable {X : Cx} {P : Nat} {k np : Nat} {f : Addr} {fd : FuncData} {ps : List Str} {x : Str} {p pos : Pos} {e : Expr} {es : List Expr} {te : TE} {ta : TA} {fe F : FE} {fa : FA}
theorem se_call {K : PySem.W.Frag} (he : SE K P te fe) (ha : SA K P ta fa) : SE K P (tCall (spD K np F) [] E0 (tCons te ta)) (fCall np F fe fa) := by
  intro Out M σ H ρ r ρ' Q F0 e q
  unfold fCall at e
  split at e
  · rename_i d ρ1 e1
    split at e
    · rename_i ds ρ2 e2
      split at e
      · rename_i hn
        refine he Out M σ H ρ _ ρ1 _ F0 e1 fun v M1 H1 F1 X1 k1 o1 => ?_
        refine ha Out M1 σ H1 ρ1 _ ρ2 _ F1 e2 fun vs M2 H2 F2 X2 k2 o2 => ?_
        have od : DqAll K (hid M2 H2) (v :: vs) (d :: ds) := .cons (dp_mono X2.same o1) o2
        have Fc := F2.calleeD od
        show spD K np F ((v :: vs) ++ []) H2 Q E0
        rw [List.append_nil]
        split at e
        · rename_i z ρc e3
          cases e
          exact ⟨M2, M2, _, _, _, Fc, e3, by rw [List.length_cons, dpAll_len o2]; exact hn, fun w M3 H3 F3 X3 o3 => q w M3 H3 (F2.afterD F3 X3) ((X1.trans X2).trans (X3.weak F2.out)) (k1.trans k2) o3⟩
        · rename_i zs ρc e3
          cases e
          refine ⟨M2, M2, _, _, _, Fc, e3, by rw [List.length_cons, dpAll_len o2]; exact hn, fun w M3 H3 F3 X3 o3 => q w M3 H3 (F2.afterD F3 X3) ((X1.trans X2).trans (X3.weak F2.out)) (k1.trans k2) ?_⟩
          obtain ⟨a, ws, ew, m, o, hl, dd, _⟩ := o3
          refine ⟨a, ws, ew, m, fun z => o (F2.out a z), hl, dd, fun i ys z w' => ?_⟩
          obtain ⟨b, us, eb, mb, _⟩ := F2.cel i ys z
          rw [w'] at eb
          cases eb
          exact o mb
        · cases e
      · cases e
    · cases e
  · rename_i i ρ1 e1
    split at e
    · rename_i ds ρ2 e2
      split at e
      · rename_i hn
        split at e
        · rename_i xs e4
          refine he Out M σ H ρ _ ρ1 _ F0 e1 fun v M1 H1 F1 X1 k1 o1 => ?_
          refine ha Out M1 σ H1 ρ1 _ ρ2 _ F1 e2 fun vs M2 H2 F2 X2 k2 o2 => ?_
          obtain ⟨ev, _⟩ := o1
          obtain ⟨a, ws0, ea, m0, o0, hl0, dd0⟩ := F2.cel i xs e4
          rw [ev] at ea
          cases ea
          have Fc := F2.calleeC e4 ev o2
          show spD K np F ((V.ref a :: vs) ++ []) H2 Q E0
          rw [List.append_nil]
          split at e
          · rename_i z ys ρc e3
            cases e
            refine ⟨_, M2, _, _, _, Fc, e3, by rw [List.length_cons, dpAll_len o2]; exact hn, fun w M3 H3 F3 X3 o3 => ?_⟩
            obtain ⟨F4, X4, _, _⟩ := F2.afterC e4 ev F3 X3
            exact q w M3 H3 F4 ((X1.trans X2).trans X4) (k1.trans (k2.trans (kd_put e4))) o3
          · rename_i zs ys ρc e3
            cases e
            refine ⟨_, M2, _, _, _, Fc, e3, by rw [List.length_cons, dpAll_len o2]; exact hn, fun w M3 H3 F3 X3 o3 => ?_⟩
            obtain ⟨F4, X4, inO, oa⟩ := F2.afterC e4 ev F3 X3
            refine q w M3 H3 F4 ((X1.trans X2).trans X4) (k1.trans (k2.trans (kd_put e4))) ?_
            obtain ⟨b, us, eb, mb, ob, hb, db, nb⟩ := o3
            refine ⟨b, us, eb, mb, fun z => ?_, hb, db, fun j ys' z w' => ?_⟩
            · exact ob (inO b (F2.out b z) fun y => oa (by rw [← y]; exact z))
            · have nba : b ≠ a := fun y => nb 0 ys rfl (by rw [y]; rfl)
              by_cases hij : i = j
              · subst hij
                rw [ev] at w'
                cases w'
                exact nba rfl
              · rw [List.getElem?_set_ne hij] at z
                obtain ⟨c, ws, ec, mc, _⟩ := F2.cel j ys' z
                rw [w'] at ec
                cases ec
                exact ob (inO b mc nba)
          · cases e
        · cases e
      · cases e
    · cases e
  · cases e
theorem de_call (G : FnOk X.prog X.w X.K X.mg X.base CX0 k f fd ps (spD X.K np F)) (hr : Room k X.A) (hm : X.mg x = some (.ref f)) (hk : PySem.W.keepIn X.K (.ref f) = true) (hb : Binds X.K fd ps []) (he : DE X P e te fe) (ha : DA X P es ta fa)
    (hg : Gl X x := by rfl) (hdb : (x == ("__debug__" : Str)) = false := by decide) (hst : starEach (e :: es) X.env = (false, eval e X.env) :: starEach es X.env := by rfl) (hpl : (backTo pos (starEach es X.env)).any (·.1) = false := by rfl) :
    DE X P (.Call (.Name x p) (e :: es) [] pos) (tCall (spD X.K np F) [] E0 (tCons te ta)) (fCall np F fe fa) :=
  ⟨pe_call G hr hg hm hk hb .nil pass0 (pa_cons he.1 ha.1 hst) hdb hst hpl, se_call he.2 ha.2⟩
end
end DL


set_option Elab.async false
set_option linter.all false
set_option maxRecDepth 100000
set_option maxHeartbeats 1000000
namespace DL
open PySem PySem.Spec PyProof.Rows L2

/-! ### built-ins on data -/
def seqOf : PyData → Option (List PyData)
  | .list xs => some xs
  | .tuple xs => some xs
  | _ => none
def gLen : List PyData → Option PyData
  | [d] => (match seqOf d with
    | some xs => some (.int xs.length)
    | none => none)
  | _ => none
/-- the greatest -/
def maxI : Int → List Int → Int
  | m, [] => m
  | m, n :: r => maxI (if n > m then n else m) r
def gMin2 : List PyData → Option PyData
  | [.int a, .int b] => some (.int (if b < a then b else a))
  | _ => none
def gMax2 : List PyData → Option PyData
  | [.int a, .int b] => some (.int (if b > a then b else a))
  | _ => none
def gAbs : List PyData → Option PyData
  | [.int a] => some (.int (if a < 0 then -a else a))
  | _ => none
def gListOf : List PyData → Option (List PyData)
  | [d] => seqOf d
  | _ => none
def gTupleOf : List PyData → Option PyData
  | [d] => (match seqOf d with
    | some xs => some (.tuple xs)
    | none => none)
  | _ => none
section
variable {K : PySem.W.Frag}
theorem dp_seq {H : Hp} {v : V} {d : PyData} {xs : List PyData} (h : Dq K H v d) (e : seqOf d = some xs) : ∃ a vs, v = .ref a ∧ (SqL K H a vs ∨ SqT K H a vs) ∧ DqAll K H vs xs := by
  cases h with
  | lst hs ha => cases e; exact ⟨_, _, rfl, .inl hs, ha⟩
  | tup hs ha => cases e; exact ⟨_, _, rfl, .inr hs, ha⟩
  | _ => cases e
theorem sq_sub {M : List Addr} {H : Hp} {a : Addr} {vs : List V} (h : SqL K (hid M H) a vs ∨ SqT K (hid M H) a vs) : SqL K H a vs ∨ SqT K H a vs := by
  rcases h with h | h
  · exact .inl ((hid_sub _ _).seq h)
  · exact .inr (sameT (hid_sub _ _) h)
abbrev rLen (K : PySem.W.Frag) : List V → Hp → VK → Prop := fun xs H Q => ∃ p ys, xs = [.ref p] ∧ (SqL K H p ys ∨ SqT K H p ys) ∧ Q (.int ys.length) H
theorem ca_len : CaD K (rLen K) gLen := by
  intro M H vs ds z Q live hd e q
  unfold gLen at e
  split at e
  · rename_i d
    split at e
    · rename_i xs ex
      cases e
      cases hd with
      | cons h t =>
        cases t
        obtain ⟨a, ws, rfl, hs, ha⟩ := dp_seq h ex
        exact ⟨a, ws, rfl, sq_sub hs, q _ H (Same.refl _) (by rw [dpAll_len ha]; exact .int _)⟩
    · cases e
  · cases e
abbrev rMin2 : List V → Hp → VK → Prop := fun xs H Q => ∃ i j, xs = [.int i, .int j] ∧ Q (.int (if j < i then j else i)) H
abbrev rMax2 : List V → Hp → VK → Prop := fun xs H Q => ∃ i j, xs = [.int i, .int j] ∧ Q (.int (if j > i then j else i)) H
theorem ca_min2 : CaD K rMin2 gMin2 := by
  intro M H vs ds z Q live hd e q
  unfold gMin2 at e
  split at e
  · cases e
    cases hd with
    | cons h t =>
      cases t with
      | cons h2 t =>
        cases t; cases h; cases h2
        exact ⟨_, _, rfl, q _ H (Same.refl _) (.int _)⟩
  · cases e
theorem ca_max2 : CaD K rMax2 gMax2 := by
  intro M H vs ds z Q live hd e q
  unfold gMax2 at e
  split at e
  · cases e
    cases hd with
    | cons h t =>
      cases t with
      | cons h2 t =>
        cases t; cases h; cases h2
        exact ⟨_, _, rfl, q _ H (Same.refl _) (.int _)⟩
  · cases e
abbrev rListOf (K : PySem.W.Frag) : List V → Hp → VK → Prop := fun xs H Q => ∃ p ys, xs = [.ref p] ∧ (SqL K H p ys ∨ SqT K H p ys) ∧ ∀ l, H l = none → Q (.ref l) (upd H l (.lst ys))
theorem ca_list : CaN K (rListOf K) gListOf := by
  intro M H vs ds zs Q live hd e q
  unfold gListOf at e
  split at e
  · cases hd with
    | cons h t =>
      cases t
      obtain ⟨a, ws, rfl, hs, ha⟩ := dp_seq h e
      exact ⟨a, ws, rfl, sq_sub hs, fun l hl => q l ws hl ha⟩
  · cases e
abbrev rTupleOf (K : PySem.W.Frag) : List V → Hp → VK → Prop := fun xs H Q => ∃ p ys, xs = [.ref p] ∧ ((SqL K H p ys ∧ ∀ l, H l = none → Q (.ref l) (upd H l (.tup ys))) ∨ (SqT K H p ys ∧ Q (.ref p) H))
theorem ca_tuple : CaD K (rTupleOf K) gTupleOf := by
  intro M H vs ds z Q live hd e q
  unfold gTupleOf at e
  split at e
  · split at e
    · rename_i d xs ex
      cases e
      cases hd with
      | cons h t =>
        cases t
        obtain ⟨a, ws, rfl, hs, ha⟩ := dp_seq h ex
        rcases hs with hs | hs
        · refine ⟨a, ws, rfl, .inl ⟨(hid_sub _ _).seq hs, fun l hl => ?_⟩⟩
          have s := same_upd hl (.tup ws)
          refine q _ _ s (.tup (.inl (.inl ?_)) (dpAll_mono (hid_same s) ha))
          exact hid_out (fun z => live l z hl) upd_same fun _ z => nomatch z
        · exact ⟨a, ws, rfl, .inr ⟨sameT (hid_sub _ _) hs, q _ H (Same.refl _) (.tup hs ha)⟩⟩
    · cases e
  · cases e
end

/-! ### the greatest of a tuple -/
section
variable {prog : Program} {w : World} {A : Around} {E : Value → Shared → Prop} {s : Shared} {Q : Value → Shared → Prop}
end
section
variable {X : Cx} {P : Nat} {e e2 : Expr} {ta : TA} {fa : FA} {pos p : Pos}
theorem de_len (hm : X.mg "len" = none) (ha : DA X P [e] ta fa) (hg : Gl X "len" := by rfl) (he : starEach [e] X.env = (false, eval e X.env) :: starEach [] X.env := by rfl) (hpl : (backTo pos (starEach [] X.env)).any (·.1) = false := by rfl) :
    DE X P (.Call (.Name "len" p) [e] [] pos) (tCB (rLen X.K) ta) (fCa gLen fa) := de_callB call_len_seq ca_len hm ha (hg := hg) (he := he) (hpl := hpl)
theorem de_min2 (hc : X.calm = true) (hm : X.mg "min" = none) (ha : DA X P [e, e2] ta fa) (hg : Gl X "min" := by rfl) (he : starEach [e, e2] X.env = (false, eval e X.env) :: starEach [e2] X.env := by rfl) (hpl : (backTo pos (starEach [e2] X.env)).any (·.1) = false := by rfl) :
    DE X P (.Call (.Name "min" p) [e, e2] [] pos) (tCB rMin2 ta) (fCa gMin2 fa) := de_callB (call_min2 hc) ca_min2 hm ha (hg := hg) (he := he) (hpl := hpl)
theorem de_max2 (hc : X.calm = true) (hm : X.mg "max" = none) (ha : DA X P [e, e2] ta fa) (hg : Gl X "max" := by rfl) (he : starEach [e, e2] X.env = (false, eval e X.env) :: starEach [e2] X.env := by rfl) (hpl : (backTo pos (starEach [e2] X.env)).any (·.1) = false := by rfl) :
    DE X P (.Call (.Name "max" p) [e, e2] [] pos) (tCB rMax2 ta) (fCa gMax2 fa) := de_callB (call_max2 hc) ca_max2 hm ha (hg := hg) (he := he) (hpl := hpl)
theorem de_list (hm : X.mg "list" = none) (ha : DA X P [e] ta fa) (hg : Gl X "list" := by rfl) (he : starEach [e] X.env = (false, eval e X.env) :: starEach [] X.env := by rfl) (hpl : (backTo pos (starEach [] X.env)).any (·.1) = false := by rfl) :
    DE X P (.Call (.Name "list" p) [e] [] pos) (tCB (rListOf X.K) ta) (fCaN gListOf fa) := de_callTN call_list_of ca_list hm ha (hg := hg) (he := he) (hpl := hpl)
theorem de_tuple (hm : X.mg "tuple" = none) (ha : DA X P [e] ta fa) (hg : Gl X "tuple" := by rfl) (he : starEach [e] X.env = (false, eval e X.env) :: starEach [] X.env := by rfl) (hpl : (backTo pos (starEach [] X.env)).any (·.1) = false := by rfl) :
    DE X P (.Call (.Name "tuple" p) [e] [] pos) (tCB (rTupleOf X.K) ta) (fCa gTupleOf fa) := de_callT call_tuple_of ca_tuple hm ha (hg := hg) (he := he) (hpl := hpl)
end

/-! ### x[i], slices, lists put together -/
def gIx : PyData → PyData → Option PyData
  | .list xs, .int k => atI xs k
  | .tuple xs, .int k => atI xs k
  | _, _ => none
theorem opd_ix {K : PySem.W.Frag} : OpD K (rIx K) gIx := by
  intro M H x y a b z Q live dx dy e q
  unfold gIx at e
  split at e
  · cases dy
    cases dx with
    | lst hs ha =>
      obtain ⟨v, ev, dv⟩ := dpAll_at ha e
      exact .inl ⟨_, _, _, v, rfl, rfl, (hid_sub _ _).seq hs, ev, q v H (Same.refl _) dv⟩
  · cases dy
    cases dx with
    | tup hs ha =>
      obtain ⟨v, ev, dv⟩ := dpAll_at ha e
      exact .inr (.inl ⟨_, _, _, v, rfl, rfl, sameT (hid_sub _ _) hs, ev, q v H (Same.refl _) dv⟩)
  · cases e
def gCat : PyData → PyData → Option PyData
  | .list xs, .list ys => if xs.length + ys.length ≤ 100000 then some (.list (xs ++ ys)) else none
  | _, _ => none
def rCatG (K : PySem.W.Frag) : R2 := fun x y H Q => ∃ l b xs zs, x = .ref l ∧ y = .ref b ∧ SqL K H l xs ∧ SqL K H b zs ∧ xs.length + zs.length ≤ sizeLine ∧ ∀ p, H p = none → Q (.ref p) (upd H p (.lst (xs ++ zs)))
section
variable {X : Cx} {P : Nat} {a b e : Expr} {ta tb te : TE} {fa fb fe : FE} {pos p2 : Pos}
theorem de_ix (ha : DE X P a ta fa) (hb : DE X P b tb fb) (hs : PlainIx b := by intro _ _; rfl) : DE X P (.Subscript a b pos) (tOp (rIx X.K) ta tb) (f2 gIx fa fb) := ⟨pe_ix ix_seq ha.1 hb.1 hs, se_2 opd_ix ha.2 hb.2⟩
theorem op_catG : OpR X (binaryOp .Add) (rCatG X.K) := by
  intro pins s σ H x y v u Q I rx ry h
  obtain ⟨l, b, xs, zs, rfl, rfl, hH, hB, hz, q⟩ := h
  cases rx
  cases ry
  obtain ⟨its, r, pl, _⟩ := I.list hH
  obtain ⟨its2, r2, pl2, _⟩ := I.list hB
  have l1 := r.length
  have l2 := r2.length
  obtain ⟨⟨cls, dd, data, sl⟩, ho, hc, n, hd⟩ := pl.isList
  obtain ⟨⟨cls2, dd2, data2, sl2⟩, ho2, hc2, n2, hd2⟩ := pl2.isList
  simp only at hc hd hc2 hd2
  subst hc hd hc2 hd2
  have ea : its.toArray ++ its2.toArray = (its ++ its2).toArray := by simp
  refine concat_meets ⟨_, ho, rfl⟩ ⟨_, ho2, rfl⟩ noFill_list_add seq_list_add PySem.F.slot_list_add PySem.F.entry_list_add (PySem.F.args_list_add_2 _ _) (list_addW l b its.toArray its2.toArray n n2 dd dd2 sl sl2 (by rw [List.size_toArray, List.size_toArray]; omega)) ⟨ho, ho2, ?_⟩
  rw [ea]
  exact ⟨.ref _, _, I.lnew (t' := s.toks) (r.append r2) (by rw [List.length_append]; omega), rfl, q _ I.fresh⟩
theorem opd_cat {K : PySem.W.Frag} : OpD K (rCatG K) gCat := by
  intro M H x y a b z Q live dx dy e q
  unfold gCat at e
  split at e
  · split at e
    · rename_i hl
      cases e
      cases dx with
      | @lst a1 xs1 _ hs ha =>
        cases dy with
        | @lst a2 xs2 _ hs2 ha2 =>
          refine ⟨_, _, _, _, rfl, rfl, (hid_sub _ _).seq hs, (hid_sub _ _).seq hs2, by rw [dpAll_len ha, dpAll_len ha2, sizeLine_eq]; omega, fun p hp => ?_⟩
          have s := same_upd hp (.lst (xs1 ++ xs2))
          refine q _ _ s (.lst (.inl (.inl ?_)) (dpAll_mono (hid_same s) (dpAll_app ha ha2)))
          exact hid_out (fun z => live p z hp) upd_same fun _ z => nomatch z
    · cases e
  · cases e
/-! slices of a list: a new list -/
def cutD (xs : List PyData) (lo hi : Option Int) : List PyData := (xs.drop (HT.sIx xs.length 0 lo)).take (HT.sIx xs.length xs.length hi - HT.sIx xs.length 0 lo)
abbrev FO := List En → Option (Option Int × List En)
def SO (K : PySem.W.Frag) (P : Nat) (t : TO) (f : FO) : Prop :=
  ∀ (Out M : List Addr) (σ : L2.St) (H : Hp) (ρ : List En) (o : Option Int) (ρ' : List En) (Q : Option Int → Hp → Prop), FrD K Out M σ H ρ → f ρ = some (o, ρ') →
    (∀ M' H', FrD K Out M' σ H' ρ' → Ext Out M H M' H' → Kd P ρ ρ' → Q o H') → t σ H Q
def DO (X : Cx) (P : Nat) (e : Option Expr) (t : TO) (f : FO) : Prop := PO X e t ∧ SO X.K P t f
def foNone : FO := fun ρ => some (none, ρ)
def foSome (f : FE) : FO := fun ρ => match f ρ with
  | some (.dat (.int i), ρ') => some (some i, ρ')
  | _ => none
theorem do_none : DO X P none tNoPart foNone := ⟨po_none, fun Out M σ H ρ o ρ' Q F e q => by cases e; exact q M H F (.refl _ _ _) (.refl _ _)⟩
theorem do_some (h : DE X P e te fe) : DO X P (some e) (tPart te) (foSome fe) := ⟨po_some h.1, by
  intro Out M σ H ρ o ρ' Q F e q
  unfold foSome at e
  split at e
  · rename_i i ρ1 e1
    cases e
    refine h.2 Out M σ H ρ _ _ _ F e1 fun v M1 H1 F1 X1 k1 o1 => ?_
    cases o1
    exact ⟨i, rfl, q M1 H1 F1 X1 k1⟩
  · cases e⟩
def fSl (fe : FE) (fl fh : FO) : FE := fun ρ => match fe ρ with
  | some (.dat (.list xs), ρ1) => (match fl ρ1 with
    | some (lo, ρ2) => (match fh ρ2 with
      | some (hi, ρ3) => some (.new (cutD xs lo hi), ρ3)
      | none => none)
    | none => none)
  | _ => none
/-! t < u of whole numbers -/
theorem de_cat (ha : DE X P a ta fa) (hb : DE X P b tb fb) : DE X P (.BinOp a .Add b pos) (tOp (rCatG X.K) ta tb) (f2 gCat fa fb) := de_op op_catG opd_cat ha hb
end
end DL


set_option Elab.async false
set_option linter.all false
set_option maxRecDepth 100000
set_option maxHeartbeats 1000000
namespace DL
open PySem PySem.Spec PyProof.Rows L2
section
variable {X : Cx} {P : Nat} {a b e st : Expr} {ta tb te ts : TE} {fa fb fe fs : FE} {pos p2 : Pos}
/-! ### x[::-1] of a list -/
theorem vals_rev : ∀ {xs : List V} {us : List Value}, Vals xs us → Vals xs.reverse us.reverse
  | _, _, .nil => .nil
  | _, _, .cons r t => by rw [List.reverse_cons, List.reverse_cons]; exact (vals_rev t).append (.cons r .nil)
theorem dpAll_rev {K : PySem.W.Frag} {H : Hp} : ∀ {vs : List V} {ds : List PyData}, DqAll K H vs ds → DqAll K H vs.reverse ds.reverse
  | _, _, .nil => .nil
  | _, _, .cons h t => by rw [List.reverse_cons, List.reverse_cons]; exact dpAll_app (dpAll_rev t) (.cons h .nil)
def fRev (fe fs : FE) : FE := fun ρ => match fe ρ with
  | some (.dat (.list xs), ρ1) => (match fs ρ1 with
    | some (.dat (.int i), ρ2) => if i = -1 then some (.new xs.reverse, ρ2) else none
    | _ => none)
  | _ => none
/-! ### -n -/
def gNeg : PyData → Option PyData
  | .int i => some (.int (-i))
  | _ => none
def f1 (g : PyData → Option PyData) (f : FE) : FE := fun ρ => match f ρ with
  | some (.dat d, ρ1) => (match g d with
    | some z => some (.dat z, ρ1)
    | none => none)
  | _ => none
theorem de_neg (h : DE X P e te fe) : DE X P (.UnaryOp .USub e pos) (tUn (rU fun i => .int (-i)) te) (f1 gNeg fe) := ⟨pe_un un_neg h.1, by
  intro Out M σ H ρ r ρ' Q F e q
  unfold f1 at e
  split at e
  · rename_i d ρ1 e1
    split at e
    · rename_i z ez
      cases e
      refine h.2 Out M σ H ρ _ _ _ F e1 fun v M1 H1 F1 X1 k1 o1 => ?_
      unfold gNeg at ez
      split at ez
      · cases ez
        cases o1
        exact ⟨_, rfl, q _ M1 H1 F1 X1 k1 (.int _)⟩
      · cases ez
    · cases e
  · cases e⟩
end

/-! ### list(range(n)) -/
/-! ### sorted, rows of whole numbers -/
end DL


set_option Elab.async false
set_option linter.all false
set_option maxRecDepth 100000
set_option maxHeartbeats 1000000
namespace DL
open PySem PySem.Spec PyProof.Rows L2
/-! ### sorted of rows -/
end DL


set_option Elab.async false
set_option linter.all false
set_option maxRecDepth 100000
set_option maxHeartbeats 1000000
namespace DL
open PySem PySem.Spec PyProof.Rows L2
section
variable {X : Cx} {P : Nat} {wi : TI} {g : TG} {tt : TT} {te : TE} {fi : FI} {fg : FG} {ft : FT} {fe : FE} {tv : List Nat} {pos : Pos}
end
/-- a def that may be called, by its name -/
structure Cal (P : Program) (w : World) (K : PySem.W.Frag) (mg : Str → Option Value) (base : Heap) (k : Nat) (x : Str) (ps : List Str) (np : Nat) (F : FE) : Prop where
  ex : ∃ f fd, FnOk P w K mg base CX0 k f fd ps (spD K np F) ∧ mg x = some (.ref f) ∧ PySem.W.keepIn K (.ref f) = true ∧ Binds K fd ps []
theorem Cal.mono {P : Program} {w : World} {K : PySem.W.Frag} {mg : Str → Option Value} {base : Heap} {j k : Nat} {x : Str} {ps : List Str} {np : Nat} {F : FE} (C : Cal P w K mg base j x ps np F) (h : j ≤ k) : Cal P w K mg base k x ps np F :=
  let ⟨f, fd, G, r⟩ := C.ex; ⟨f, fd, G.mono h, r⟩
section
variable {X : Cx} {P k np : Nat} {ps : List Str} {x : Str} {p pos : Pos} {e : Expr} {es : List Expr} {te : TE} {ta : TA} {fe F : FE} {fa : FA}
theorem de_cal (C : Cal X.prog X.w X.K X.mg X.base k x ps np F) (hr : Room k X.A) (he : DE X P e te fe) (ha : DA X P es ta fa)
    (hg : Gl X x := by rfl) (hdb : (x == ("__debug__" : Str)) = false := by decide) (hst : starEach (e :: es) X.env = (false, eval e X.env) :: starEach es X.env := by rfl) (hpl : (backTo pos (starEach es X.env)).any (·.1) = false := by rfl) :
    DE X P (.Call (.Name x p) (e :: es) [] pos) (tCall (spD X.K np F) [] E0 (tCons te ta)) (fCall np F fe fa) := by
  obtain ⟨f, fd, G, hm, hk, hb⟩ := C.ex
  exact de_call G hr hm hk hb he ha hg hdb hst hpl
/-- x.append(e) -/
theorem de_app {j : Nat} {px apos cpos : Pos} (he : DE X P e te fe) (hN : X.N[j]? = some x := by rfl) (hv : Vis X.env.scope x := by first | exact Or.inl rfl | exact Or.inr (Or.inl rfl) | exact Or.inr (Or.inr rfl)) (hd : (x == ("__debug__" : Str)) = false := by decide) (hcd : (x == ("__classdict__" : Str)) = false := by decide)
    (hst : starEach [e] X.env = (false, eval e X.env) :: starEach [] X.env := by rfl) (hbm : ∀ tx : TE, PE X (.Name x px) (tVar j) → PA X [e] (tCons tx tNil) → PE X (.Call (.Attribute (.Name x px) "append" apos) [e] [] cpos) (tBM X.K "list" rAppend (tVar j) (tCons tx tNil)) := by exact fun tx h1 h2 => pe_bm PySem.F.plainAttrs_list PySem.F.slot_list_append PySem.F.type_list_append mt_append h1 h2) :
    DE X P (.Call (.Attribute (.Name x px) "append" apos) [e] [] cpos) (tBM X.K "list" rAppend (tVar j) (tCons te tNil)) (fAppend j fe) :=
  de_append he (hbm te (pe_var hN hv hd hcd) (pa_cons he.1 pa_nil hst))
end
/-- the law: a list of whole numbers is handed in, True comes out -/
theorem law_sp {K : PySem.W.Frag} {F : FE} {ns : List Int} {H : Hp} {a : Addr} (hS : SqL K H a (ns.map V.int)) (tb : TbOk K [] H) (h : ∃ ρ', F [.dat (.list (ns.map PyData.int))] = some (.dat (.bool true), ρ')) : spD K 1 F [.ref a] H (fun v _ => v = .bl true) E0 := by
  obtain ⟨ρ', e⟩ := h
  have hS' : SqL K (hid [] H) a (ns.map V.int) := by
    rcases hS with (h | ⟨o, h⟩) | h
    · exact .inl (.inl (hid_out (by simp) h fun _ z => nomatch z))
    · exact .inl (.inr ⟨o, hid_out (by simp) h fun _ z => nomatch z⟩)
    · exact .inr h
  refine ⟨[], [], _, _, ρ', ⟨rfl, fun i d q => ?_, fun i xs q => ?_, fun i j xs ys b q1 _ _ _ => ?_, fun b hb => (by cases hb), fun b hb => (by cases hb), tb⟩, e, rfl, fun v M' H' F' X' o => ?_⟩
  · cases i with
    | zero => cases q; exact ⟨.ref a, rfl, Dq.lst hS' (dpAll_ofInts ns)⟩
    | succ i => cases q
  · cases i with
    | zero => cases q
    | succ i => cases q
  · cases i with
    | zero => cases q1
    | succ i => cases q1
  · cases (show Dq K (hid M' H') v (.bool true) from o)
    rfl
end DL


set_option Elab.async false
set_option linter.all false
set_option maxRecDepth 100000
set_option maxHeartbeats 1000000
namespace DL
open PySem PySem.Spec L2 GE
/-! ### all(.. for ..) -/
section
variable {K : PySem.W.Frag} {Out M : List Addr} {σ : St} {H : Hp} {ρ : List En}
end
section
variable {X : Cx} {P : Nat} {wi : TI} {g : TG} {tt : TT} {te : TE} {fi : FI} {fg : FG} {ft : FT} {fe : FE} {tv : List Nat} {pos p gpos : Pos}
end
end DL


set_option Elab.async false
set_option linter.all false
set_option maxRecDepth 100000
set_option maxHeartbeats 1000000
namespace DL
open PySem PySem.Spec L2 GE
open PyProof.Rows (AllBare)
open PySem.W (CodeHd tabObj tabIn noTabs)
/-! ### the head, with the codes' tables -/
/-- what stands in a base, of codes and built-ins -/
structure BsOk (K : PySem.W.Frag) (mg : Str → Option Value) (base : Heap) : Prop where
  bm : BmAt mg base
  cd : ∀ x ∈ tbNames, ∀ c P, tabIn K x = some (c, P) → CodeHd base c P
def tabsOf (K : PySem.W.Frag) : List Addr := tbNames.filterMap fun x => (tabIn K x).map (·.2)
theorem mem_tabs {K : PySem.W.Frag} {b : Addr} : b ∈ tabsOf K ↔ ∃ x ∈ tbNames, ∃ c, tabIn K x = some (c, b) := by
  unfold tabsOf
  rw [List.mem_filterMap]
  constructor
  · rintro ⟨x, hx, e⟩
    obtain ⟨q, hq, e'⟩ := Option.map_eq_some_iff.mp e
    exact ⟨x, hx, q.1, by rw [hq, ← e']⟩
  · rintro ⟨x, hx, c, e⟩
    exact ⟨x, hx, by rw [e]; rfl⟩
theorem law_callT {P : Program} {w : World} {K : PySem.W.Frag} {mg mb : Str → Option Value} {k : Nat} {fa a : Addr} {fd : FuncData} {x : Str} {sp : Sp} {s₁ : Shared} {vs : List Value} {ns : List Int}
    (KX : K.In s₁.heap) (hns : s₁.heap.Ns mainGlobals mg) (hb : s₁.heap.Ns builtinsNs mb) (hbb : ∀ x : Str, x ≠ "__name__" → mb x = bootBuiltins x) (hlim : s₁.heap.NoLimit) (hg : s₁.gens = #[])
    (ha : s₁.heap.get? a = some { cls := .type "list", data := .seq vs.toArray }) (hi : PyProof.Rows.IntsAre vs ns) (hl : ns.length ≤ sizeLine) (hr : Room k callerA)
    (hT : ∀ x ∈ tbNames, ∀ c P, tabIn K x = some (c, P) → CodeHd s₁.heap c P ∧ s₁.heap.get? P = some (tabObj #[])) (hbm : BmAt mg s₁.heap) (hnt : noTabs K = true)
    (F : ∀ base : Heap, K.In base → base.Ns mainGlobals mg → BsOk K mg base → FnOk P w K mg base CX0 k fa fd [x] sp) (hbind : ∀ (s : Shared) (u : Value), BindsTo s fd ⟨[u], []⟩ [(x, u)])
    (hsp : ∀ H : Hp, TbOk K [] H → SqL K H a (ns.map V.int) → sp [.ref a] H (fun v _ => v = .bl true) E0) :
    codeAny (model P w) callerA (.call (.ref fa) ⟨[.ref a], []⟩) (fun r s' => r = .ok (.ret (.bool true)) ∧ OldK s₁.heap s'.heap ∧ s'.os = s₁.os ∧ AllBare s'.gens) s₁ := by
  have rv := vals_ints hi
  have lenV := hi.length
  have tabAt : ∀ b ∈ tabsOf K, s₁.heap.get? b = some (tabObj #[]) ∧ isCodeTable s₁.heap b := fun b hb => by
    obtain ⟨x, hx, c, e⟩ := mem_tabs.mp hb
    obtain ⟨h1, h2⟩ := hT x hx c b e
    exact ⟨h2, (h1.tab h2).isCodeTable⟩
  have aTab : a ∉ tabsOf K := fun z => by
    have := (tabAt a z).1
    rw [ha] at this; cases this
  have core : ∀ H : Hp, (∀ b, b ∈ tabsOf K → H b = some (.tbl #[])) → (∀ b u, H b = some u → b ∈ tabsOf K ∨ (b = a ∧ K.lookup a = none ∧ ∃ o xs, u = .frz o (.lst xs))) → SqL K H a (ns.map V.int) → HOk P w H s₁.heap →
      codeAny (model P w) callerA (.call (.ref fa) ⟨[.ref a], []⟩) (fun r s' => r = .ok (.ret (.bool true)) ∧ OldK s₁.heap s'.heap ∧ s'.os = s₁.os ∧ AllBare s'.gens) s₁ := by
    intro H hTb hO hS hok
    have base_of : ∀ {b : Addr} {o : Obj}, s₁.heap.get? b = some o → H b = none → (hidT s₁.heap H).get? b = some o := fun e n => hidT_get e n
    -- an object that is neither a table nor a list is not tracked
    have free : ∀ {b : Addr} {o : Obj}, s₁.heap.get? b = some o → o ≠ tabObj #[] → (∀ vs n, o.data ≠ .seq vs n) → H b = none := fun {b o} e n1 n2 => by
      cases q : H b with
      | none => rfl
      | some u =>
        rcases hO b u q with z | ⟨z, _⟩
        · have := (tabAt b z).1
          rw [e] at this; exact absurd (Option.some.inj this) n1
        · subst z
          rw [ha] at e; cases e
          exact absurd rfl (n2 _ _)
    have nsK : ∀ {b : Addr} {m : Str → Option Value}, s₁.heap.Ns b m → (hidT s₁.heap H).Ns b m := fun {b m} ⟨o, es, ep, e, d, r⟩ =>
      ⟨o, es, ep, base_of e (free e (fun z => by rw [z] at d; cases d) fun vs n z => by rw [z] at d; cases d), d, r⟩
    have hKb : K.In (hidT s₁.heap H) := fun b o e => base_of (KX b o e) (by
      cases q : H b with
      | none => rfl
      | some u =>
        rcases hO b u q with z | ⟨z, hk, _⟩
        · have h1 := KX b o e
          rw [(tabAt b z).1] at h1; cases h1
          have h2 := List.all_eq_true.mp hnt (b, _) (PySem.W.mem_of_lookupK e)
          exact absurd (show false = true from h2) Bool.false_ne_true
        · subst z
          rw [hk] at e; cases e)
    have hM : Mod K mg (hidT s₁.heap H) := ⟨hKb, nsK hns, ⟨mb, nsK hb, hbb⟩, let ⟨mc, h1, h2⟩ := hlim; ⟨mc, nsK h1, h2⟩⟩
    have hBs : BsOk K mg (hidT s₁.heap H) := by
      refine ⟨?_, fun x hx c Pt e => ?_⟩
      · obtain ⟨bm, ob, b1, b2, b3, b4, b5, b6⟩ := hbm
        exact ⟨bm, ob, b1, b2, base_of b3 (free b3 (fun z => by rw [z] at b4; cases b4) fun vs n z => by rw [z] at b6; cases b6), b4, b5, b6⟩
      · obtain ⟨o, vs, file, tf, flags, tg, inF, text, tt, e1, r1, r2, r⟩ := (hT x hx c Pt e).1
        exact ⟨o, vs, file, tf, flags, tg, inF, text, tt, base_of e1 (free e1 (fun z => by rw [z] at r1; cases r1) fun vs n z => by rw [z] at r2; cases r2), r1, r2, r⟩
    have e0 : Env0 P w K mg (hidT s₁.heap H) callerA [] s₁ H := ⟨rfl, hM, fun b o e => of_hidT e, Nat.le_of_eq (hidT_size _ _), trivial, fun b hb => absurd (show b ∈ ([] : List Addr) from hb) (by simp), hok, .of_eq hg⟩
    have tb0 : TbOk K [] H := ⟨fun b hb => absurd hb (by simp), fun b hb => absurd hb (by simp), fun x hx c Pt e => ⟨#[], hTb Pt (mem_tabs.mpr ⟨x, hx, c, e⟩), trivial, fun pos cv z => nomatch z⟩⟩
    refine codeAny_mono ((F _ hKb (nsK hns) hBs).run callerA [] s₁ H ⟨[.ref a], []⟩ [.ref a] [.ref a] _ _ hr e0 (hbind s₁ (.ref a)) (.cons rfl .nil) (hsp H tb0 hS)) fun r s' h => ?_
    cases r with
    | error e => exact False.elim h
    | ok fl =>
      cases fl with
      | next => exact False.elim h
      | brk => exact False.elim h
      | cont => exact False.elim h
      | ret u =>
        obtain ⟨v, H', os, bare, un, hok', r', q⟩ := h
        have q' : v = .bl true := q
        subst q'
        obtain rfl : u = Value.bool true := r'
        have key : ∀ b o, s₁.heap.get? b = some o → asItWas s₁.heap s'.heap b o ∧ ∃ o', s'.heap.get? b = some o' := fun b o e => by
          cases q : H b with
          | none =>
            have z := un.keep b o e q (by intro z; exact absurd (show b ∈ ([] : List Addr) from z) (by simp)) (by simp)
            exact ⟨.inl z, o, z⟩
          | some u =>
            rcases hO b u q with z | ⟨_, _, ob, xs, z⟩
            · have q2 := hTb b z
              obtain ⟨more, q3⟩ := un.tbls b _ q2
              have q4 : s'.heap.get? b = some { cls := .none, data := .fields (#[] ++ more) } := hok' b _ q3
              have q5 := (tabAt b z).1
              rw [e] at q5; cases q5
              exact ⟨.inr (.inl ⟨(tabAt b z).2, rfl, #[], more, rfl, q4⟩), _, q4⟩
            · subst z
              have z2 := un.frzs b ob _ q
              obtain ⟨e1, _⟩ := hok b _ q
              obtain ⟨e2, _⟩ := hok' b _ z2
              rw [e] at e1; cases e1
              exact ⟨.inl e2, o, e2⟩
        exact ⟨rfl, ⟨fun b o e => (key b o e).1, fun b o e => (key b o e).2⟩, os, bare⟩
  cases hk : K.lookup a with
  | some o =>
    have e := KX a o hk
    rw [ha] at e
    cases e
    refine core (fun b => if b ∈ tabsOf K then some (.tbl #[]) else none) (fun b hb => if_pos hb) (fun b u z => .inl ?_) (.inr ⟨_, vs.toArray, _, hk, rfl, rfl, rfl, by rw [List.size_toArray, lenV]; exact hl, by simpa using rv⟩) (fun b u z => ?_)
    · by_cases hb : b ∈ tabsOf K
      · exact hb
      · have z' := (if_neg hb).symm.trans z; cases z'
    · by_cases hb : b ∈ tabsOf K
      · have z' := (if_pos hb).symm.trans z
        cases z'
        exact (tabAt b hb).1
      · have z' := (if_neg hb).symm.trans z; cases z'
  | none =>
    have val : ∀ b u, (if b ∈ tabsOf K then some (HO.tbl #[]) else if b = a then some (.frz { cls := .type "list", data := .seq vs.toArray } (.lst (ns.map V.int))) else none) = some u →
        (b ∈ tabsOf K ∧ u = .tbl #[]) ∨ (b = a ∧ u = .frz { cls := .type "list", data := .seq vs.toArray } (.lst (ns.map V.int))) := fun b u z => by
      split at z
      · rename_i hb; cases z; exact .inl ⟨hb, rfl⟩
      · split at z
        · rename_i hb; cases z; exact .inr ⟨hb, rfl⟩
        · cases z
    refine core (fun b => if b ∈ tabsOf K then some (.tbl #[]) else if b = a then some (.frz { cls := .type "list", data := .seq vs.toArray } (.lst (ns.map V.int))) else none) (fun b hb => if_pos hb) (fun b u z => ?_)
      (.inl (.inr ⟨{ cls := .type "list", data := .seq vs.toArray }, (if_neg aTab).trans (if_pos rfl)⟩)) (fun b u z => ?_)
    · rcases val b u z with ⟨h, _⟩ | ⟨h, e⟩
      · exact .inl h
      · exact .inr ⟨h, hk, _, _, e⟩
    · rcases val b u z with ⟨h, e⟩ | ⟨h, e⟩
      · subst e; exact (tabAt b h).1
      · subst e; subst h
        exact ⟨ha, by rw [List.length_map]; exact hl, vs, _, rv, ha⟩
theorem walk_ofT {l : PySem.W.OpenLaw} {n k : Nat} {q : Program} {loose : List Str} {XP : (Str → Option Value) → Heap → Prop} {YP : World → Heap → Prop} {d : DefRec} {K : Params → PySem.W.Frag} {sp : PySem.W.Frag → Sp} {x : Str}
    (hn : l.most = some n) (hn2 : n ≤ sizeLine) (hdf : d.params.defaults = []) (hr : Room k callerA)
    (hY : ∀ (w : World) (h : Heap), YP w h → (K w.params).In h)
    (hNT : ∀ w : World, noTabs (K w.params) = true)
    (hTN : ∀ (w : World), ∀ x ∈ tbNames, (∃ d, (PyProof.Rows.recsOf q).find? (fun e => e.name == x) = some d) ∨ PySem.W.nsIn (K w.params) mainGlobals x = some none)
    (F : ∀ (w : World) (mg : Str → Option Value) (fa : Addr) (h : Heap), (K w.params).In h → h.Ns mainGlobals mg → mg d.name = some (.ref fa) →
      ∃ fd : FuncData, (∀ (s : Shared) (u : Value), BindsTo s fd ⟨[u], []⟩ [(x, u)]) ∧
        ∀ base : Heap, (K w.params).In base → base.Ns mainGlobals mg → BsOk (K w.params) mg base → FnOk l.prog w (K w.params) mg base CX0 k fa fd [x] (sp (K w.params)))
    (hsp : ∀ (K : PySem.W.Frag) (H : Hp) (a : Addr) (ns : List Int), ns.length ≤ n → TbOk K [] H → SqL K H a (ns.map V.int) → sp K [.ref a] H (fun v _ => v = .bl true) E0) :
    PySem.W.WalkO q loose XP YP l.row.toRowW d [] (fun f vs => PySem.call f vs) := by
  refine Att.attach_call hn hdf fun w s₀ s₁ mg mb fa o pm cd doc a vs ns G Y ho hd hcd hmg hobj hints hlen hg => ?_
  have KX := hY w _ Y
  obtain ⟨fd, hb, hF⟩ := F w mg fa _ KX G.T.g hmg
  refine law_callT KX G.T.g G.T.b G.T.builtins G.T.nolimit hg hobj hints (Nat.le_trans hlen hn2) hr (fun x hx c P e => ?_) ?_ (hNT w) hF hb fun H hO hS => hsp _ H a ns hlen hO hS
  · rcases hTN w x hx with ⟨d, hd⟩ | z
    · exact PySem.W.tab_of G.T KX hd e
    · unfold tabIn at e
      rw [z] at e
      cases e
  · obtain ⟨bm, ob, a1, a2, a3, a4, a5, a6⟩ := G.T.bmain
    exact ⟨bm, ob, a1, a2, a3, a4, a5, a6⟩
end DL


set_option Elab.async false
set_option linter.all false
set_option maxRecDepth 100000
set_option maxHeartbeats 1000000
namespace DL
open PySem PySem.Spec PyProof.Rows L2
/-! ### isinstance -/
section
variable {X : Cx} {P : Nat} {e : Expr} {te : TE} {fe : FE} {pos p p2 : Pos} {T : String}
end
/-! ### a < b < c -/
section
variable {X : Cx} {P : Nat} {a b c : Expr} {ta tb tc : TE} {fa fb fc : FE} {pos : Pos}
end
/-! ### is True, is not True -/
section
variable {X : Cx} {P : Nat} {a b : Expr} {ta tb : TE} {fa fb : FE} {pos : Pos}
end
end DL


set_option Elab.async false
set_option linter.all false
set_option maxRecDepth 100000
set_option maxHeartbeats 1000000
namespace L2
open PySem PySem.Spec PyProof.Rows
end L2
namespace DL
open PySem L2
end DL


set_option Elab.async false
set_option linter.all false
set_option maxRecDepth 100000
set_option maxHeartbeats 1000000
/-! sets: the order of a set's table -/
namespace ST
open PySem
abbrev Rise (xs : Array Nat) : Prop := xs.toList.Pairwise (· < ·)
/-- what the search for a place comes to -/
structure BelowIs (xs : Array Nat) (j p : Nat) : Prop where
  le : p ≤ xs.size
  lo : ∀ i a, i < p → xs[i]? = some a → a < j
  hi : ∀ i a, p ≤ i → xs[i]? = some a → j ≤ a
/-- of a table: who leads it, and its places rise where they are its own -/
structure Gd (led : Bool) (t : SetTable) : Prop where
  led : t.led = led
  rise : t.plain = true → Rise t.place
end ST


set_option Elab.async false
set_option linter.all false
set_option maxRecDepth 100000
set_option maxHeartbeats 1000000
namespace ST
open PySem PySem.Spec PyProof.Rows
def intOf : Value → Int
  | .int i _ => i
  | _ => 0
section
variable {prog : Program} {w : World}
/-- a set of whole numbers, F in some order, with its table -/
def SetI (prog : Program) (w : World) (led : Bool) (h : Heap) (a : Addr) (F : List Int) : Prop :=
  ∃ o es ep t, h.get? a = some o ∧ o.ExactSet ∧ o.data = .set es ep t ∧ (∀ e ∈ es.toList, ∃ i tk, e.2 = .int i tk ∧ e.1 = (intKind prog w).hash i) ∧ (es.toList.map fun e => intOf e.2).Perm F ∧ es.size < scanBound ∧ t.fits es.size = true ∧ Gd led t
theorem SetI.at {led : Bool} {h h' : Heap} {a : Addr} {F : List Int} (x : SetI prog w led h a F) (k : ∀ o, h.get? a = some o → h'.get? a = some o) : SetI prog w led h' a F :=
  let ⟨o, es, ep, t, e, r⟩ := x; ⟨o, es, ep, t, k o e, r⟩
variable {A : Around} {E : Value → Shared → Prop} {s : Shared}
end
end ST


set_option Elab.async false
set_option linter.all false
set_option maxRecDepth 100000
set_option maxHeartbeats 3200000
namespace ST
open PySem PySem.Spec PyProof.Rows
section
variable {prog : Program} {w : World} {A : Around} {R : Result → Shared → Prop} {I : Addr} {fp wr : List Addr} {G : Array GenState → Array GenState → Prop} {n : Nat} {P : Nat → Value → Prop} {St : Nat → Shared → Prop}
end
section
variable {prog : Program} {w : World} {A : Around} {E : Value → Shared → Prop} {s : Shared}
end
end ST


set_option Elab.async false
set_option linter.all false
set_option maxRecDepth 100000
set_option maxHeartbeats 3200000
namespace PySem
open PyProof.Rows ST
section
variable {prog : Program} {w : World} {A : Around} {E : Value → Shared → Prop} {s : Shared}
end
end PySem


set_option Elab.async false
set_option linter.all false
set_option maxRecDepth 100000
set_option maxHeartbeats 1000000
namespace ST
open PySem PySem.Spec PyProof.Rows
/-! the orders in which a set is gone through -/
section
variable {M : Model} {A : Around} {E : Value → Shared → Prop}
end
end ST


set_option Elab.async false
set_option linter.all false
set_option maxRecDepth 100000
set_option maxHeartbeats 1000000
namespace ST
open PySem PySem.Spec PyProof.Rows
/-- a set as it stands, and its iterator -/
def SetAt (h : Heap) (a : Addr) (es : Array (Int × Value)) (ep : Nat) (t : SetTable) : Prop := ∃ o, h.get? a = some o ∧ o.ExactSet ∧ o.data = .set es ep t ∧ t.fits es.size = true
def SIter (h : Heap) (I a : Addr) (first : Value) (i n ep : Nat) : Prop := ∃ o, h.get? I = some o ∧ o.cls = .type "set_iterator" ∧ o.data = .fields #[first, .int i 0, .ref a, .int n 0, .int ep 0]
section
variable {prog : Program} {w : World} {A : Around} {E : Value → Shared → Prop} {s : Shared}
end
end ST


set_option Elab.async false
set_option linter.all false
set_option maxRecDepth 100000
set_option maxHeartbeats 1000000
namespace ST
open PySem PySem.Spec PyProof.Rows
section
variable {prog : Program} {w : World} {A : Around} {E : Value → Shared → Prop} {s : Shared}
theorem SIter.typeIs {I a : Addr} {first : Value} {i n ep : Nat} (x : SIter s.heap I a first i n ep) : s.TypeIs (.ref I) "set_iterator" := let ⟨o, ho, hc, _⟩ := x; ⟨o, ho, hc⟩
end
end ST


set_option Elab.async false
set_option linter.all false
set_option maxRecDepth 100000
set_option maxHeartbeats 1000000
namespace ST
open PySem PySem.Spec PyProof.Rows
section
variable {prog : Program} {w : World} {A : Around} {E : Value → Shared → Prop} {s : Shared}
theorem SetAt.at {h h' : Heap} {a : Addr} {es : Array (Int × Value)} {ep : Nat} {t : SetTable} (x : SetAt h a es ep t) (k : ∀ o, h.get? a = some o → h'.get? a = some o) : SetAt h' a es ep t := let ⟨o, e, r⟩ := x; ⟨o, k o e, r⟩
theorem SIter.at {h h' : Heap} {I a : Addr} {first : Value} {i n ep : Nat} (x : SIter h I a first i n ep) (k : ∀ o, h.get? I = some o → h'.get? I = some o) : SIter h' I a first i n ep := let ⟨o, e, r⟩ := x; ⟨o, k o e, r⟩
end
end ST


set_option Elab.async false
set_option linter.all false
set_option maxRecDepth 100000
set_option maxHeartbeats 1000000
namespace ST
open PySem PySem.Spec PyProof.Rows
section
variable {prog : Program} {w : World} {A : Around} {E : Value → Shared → Prop} {s : Shared}
end
end ST


set_option Elab.async false
set_option linter.all false
set_option maxRecDepth 100000
set_option maxHeartbeats 1000000
namespace ST
open PySem PySem.Spec PyProof.Rows
section
variable {prog : Program} {w : World} {A : Around} {E : Value → Shared → Prop} {s : Shared}
end
end ST


set_option Elab.async false
set_option linter.all false
set_option maxRecDepth 100000
set_option maxHeartbeats 1000000
namespace ST
open PySem PySem.Spec PyProof.Rows
section
variable {prog : Program} {w : World} {A : Around} {E : Value → Shared → Prop} {s : Shared}
end
end ST


set_option Elab.async false
set_option linter.all false
set_option maxRecDepth 100000
set_option maxHeartbeats 1000000
namespace ST
open PySem PySem.Spec L2
open PyProof.Rows (firstMet IntsAre firstMet_length_le seqObj)
section
variable {X : Cx} {pins : List (Addr × Obj)} {σ : St} {H : Hp} {s : Shared}
variable {e : Expr} {ta : TA} {p p2 pos pos2 : Pos}
end
end ST


set_option Elab.async false
set_option linter.all false
set_option maxRecDepth 100000
set_option maxHeartbeats 1000000
namespace DL
open PySem PySem.Spec L2 ST
open PyProof.Rows (firstMet step_dedup firstMet_any firstMet_succ firstMet_zero)
/-! ### sorted(set(..)) of whole numbers -/
section
variable {X : Cx} {P : Nat} {e : Expr} {ta : TA} {fa : FA} {p p2 pos pos2 : Pos}
end
end DL


set_option Elab.async false
set_option linter.all false
set_option maxRecDepth 100000
set_option maxHeartbeats 1000000
/-! sorted(.., key=lambda ..): the lambda made, called -/
namespace SK
open PySem PySem.Spec PyProof.Rows L2 GE
open PySem.W (CodeHd tabObj kla_fn)
section
variable {X : Cx} {pins : List (Addr × Obj)} {σ : L2.St} {H : Hp} {s : Shared} {c P : Addr} {ps : Array Value} {args : Arguments} {body : Expr} {scope : Scope} {lpos : Pos}
/-- a code that is kept -/
def Code (H : Hp) (cc : Addr) (q : Str) : Prop := ∃ oc vs t, H cc = some (.frz oc (.own 0)) ∧ oc.data = .fields vs ∧ vs[1]? = some (.str q t)
end
section
variable {prog : Program} {w : World} {A : Around} {R : Result → Shared → Prop} {s : Shared}
end
end SK


set_option Elab.async false
set_option linter.all false
set_option maxRecDepth 100000
set_option maxHeartbeats 1000000
/-! sorted by keys: what comes out -/
namespace SK
open PySem PyProof.Rows L2 GE DL
end SK


set_option Elab.async false
set_option linter.all false
set_option maxRecDepth 100000
set_option maxHeartbeats 1000000
/-! sorted by keys: the run -/
namespace SK
open PySem PySem.Spec PyProof.Rows L2 GE DL
open PySem.W (CodeHd tabObj kla_fn)
section
variable {X : Cx} {pins : List (Addr × Obj)} {σ : L2.St} {H : Hp} {s : Shared}
end
section
variable {X : Cx} {pins : List (Addr × Obj)} {σ : L2.St} {H : Hp} {s : Shared} {k : Nat} {f cc kS D : Addr} {qual q x : Str} {args : Arguments} {body : Expr} {scope : Scope} {pm ct : Value} {N : List Str} {tb : TE} {e1 : Nat} {xs : List V} {its : List Value} {Q : VK}
  {P : PySem.Fin → Shared → Prop} {E : Value → Shared → Prop}
end
end SK


set_option Elab.async false
set_option linter.all false
set_option maxRecDepth 100000
set_option maxHeartbeats 1000000
namespace SK
open PySem PySem.Spec PyProof.Rows L2 GE DL
open PySem.W (CodeHd tabObj kla_fn)
section
variable {X : Cx} {pins : List (Addr × Obj)} {σ : L2.St} {H : Hp} {s : Shared} {k : Nat} {f cc kS D : Addr} {qual q x : Str} {args : Arguments} {body : Expr} {scope : Scope} {pm ct : Value} {N : List Str} {tb : TE} {e1 : Nat} {xs : List V} {its : List Value} {Q : VK}
  {P : PySem.Fin → Shared → Prop} {E : Value → Shared → Prop}
end
end SK


set_option Elab.async false
set_option linter.all false
set_option maxRecDepth 100000
set_option maxHeartbeats 1000000
namespace SK
open PySem PySem.Spec PyProof.Rows L2 GE DL
open PySem.W (CodeHd tabObj kla_fn)
section
variable {X : Cx} {k : Nat} {c P : Addr} {x : Str} {args : Arguments} {e body : Expr} {scope : Scope} {N : List Str} {te tb : TE} {p pos lpos kp : Pos}
end
end SK


set_option Elab.async false
set_option linter.all false
set_option maxRecDepth 100000
set_option maxHeartbeats 1000000
namespace DL
open PySem PySem.Spec PyProof.Rows L2 GE SK
open PySem.W (CodeHd tabObj kla_fn)
/-! ### sorted(.., key=lambda ..), the keys rows of whole numbers -/
section
variable {K : PySem.W.Frag} {P : Nat} {y : Str} {te tb : TE} {fe fb : FE}
end
section
variable {X : Cx} {P k : Nat} {e body : Expr} {te tb : TE} {fe fb : FE} {args : Arguments} {scope : Scope} {y x : Str} {c Pt : Addr} {p pos lpos kp : Pos}
end
end DL


set_option Elab.async false
set_option linter.all false
set_option maxRecDepth 100000
set_option maxHeartbeats 1000000
namespace DL
open PySem PySem.Spec PyProof.Rows L2
/-! ### a, b = a list -/
section
variable {X : Cx} {P : Nat} {pos : Pos}
end
end DL


set_option Elab.async false
set_option linter.all false
set_option maxRecDepth 100000
set_option maxHeartbeats 1000000
namespace DL
open PySem PySem.Spec L2
/-! ### [.. for .. in .. for .. in ..] -/
def fLc2Go (vs vs1 : List Nat) (g : FG) (ft : FT) (fi1 : FI) (g1 : FG) (ft1 : FT) (fe : FE) : List PyData → List En → Option (List PyData × List En)
  | [], ρ => some ([], ρ)
  | x :: xs, ρ => match g x ρ with
    | none => none
    | some ρ1 => match ft ρ1 with
      | some (true, ρ2) => (match fi1 ρ2 with
        | some (items1, ρ3) => if noCel vs1 ρ3 then (match fLcGo vs1 g1 ft1 fe items1 (wipeE ρ3 vs1) with
          | some (ys, ρ4) => if noCel vs ρ4 then (match fLc2Go vs vs1 g ft fi1 g1 ft1 fe xs (wipeE ρ4 vs) with
            | some (zs, ρ5) => some (ys ++ zs, ρ5)
            | none => none) else none
          | none => none) else none
        | none => none)
      | some (false, ρ2) => if noCel vs ρ2 then fLc2Go vs vs1 g ft fi1 g1 ft1 fe xs (wipeE ρ2 vs) else none
      | none => none
theorem wipe_sub {σ : St} {vs vs1 : List Nat} (h : ∀ i ∈ vs1, i ∈ vs) : wipe (wipe σ vs1) vs = wipe σ vs := by
  refine wipe_eq (by rw [wipe_length]) fun j hj => ?_
  rw [L2.wipe_out fun m => hj (h j m)]
section
variable {X : Cx} {P : Nat} {wi wi1 : TI} {g g1 : TG} {tt tt1 : TT} {te : TE} {fi fi1 : FI} {fg fg1 : FG} {ft ft1 : FT} {fe : FE} {tv tv1 : List Nat} {pos : Pos}
end
end DL


set_option Elab.async false
set_option linter.all false
set_option maxRecDepth 100000
set_option maxHeartbeats 1000000
namespace DL
open PySem PySem.Spec PyProof.Rows L2
section
variable {X : Cx} {P : Nat} {wi wi1 : TI} {g g1 : TG} {tt tt1 : TT} {te : TE} {fi fi1 : FI} {fg fg1 : FG} {ft ft1 : FT} {fe : FE} {tv tv1 : List Nat} {pos : Pos}
end
/-! ### truth of a thing -/
def truD : PyData → Option Bool
  | .none => some false
  | .bool b => some b
  | .int i => some (i != 0)
  | .list xs => some (!xs.isEmpty)
  | .tuple xs => some (!xs.isEmpty)
  | _ => none
def fTru (f : FE) : FT := fun ρ => match f ρ with
  | some (.dat d, ρ') => (match truD d with
    | some b => some (b, ρ')
    | none => none)
  | _ => none
def tTru (K : PySem.W.Frag) (te : TE) : TT := fun σ H Q => te σ H fun x H' => ∃ k, TruV K x H' k ∧ Q k H'
theorem isEmpty_len {α β : Type} {xs : List α} {ys : List β} (h : xs.length = ys.length) : xs.isEmpty = ys.isEmpty := by
  cases xs <;> cases ys <;> first | rfl | cases h
theorem st_tru {K : PySem.W.Frag} {P : Nat} {te : TE} {fe : FE} (h : SE K P te fe) : STt K P (tTru K te) (fTru fe) := by
  intro Out M σ H ρ b ρ' Q F e q
  unfold fTru at e
  split at e
  · rename_i d ρ1 e1
    split at e
    · rename_i c e2
      cases e
      refine h Out M σ H ρ _ _ _ F e1 fun v M1 H1 F1 X1 k1 o1 => ⟨b, ?_, q M1 H1 F1 X1 k1⟩
      have o2 : Dq K (hid M1 H1) v d := o1
      cases o2 with
      | non => cases e2; rfl
      | bl c => cases e2; rfl
      | int i => cases e2; rfl
      | str x => cases e2
      | lst hs ha => cases e2; exact .inl ⟨_, (hid_sub _ _).seq hs, by rw [isEmpty_len (dpAll_len ha)]⟩
      | tup hs ha => cases e2; exact .inr (.inl ⟨_, sameT (hid_sub _ _) hs, by rw [isEmpty_len (dpAll_len ha)]⟩)
      | dct _ _ => cases e2
      | dcn _ _ _ _ => cases e2
    · cases e
  · cases e
theorem dt_tru {X : Cx} {P : Nat} {a : Expr} {ta : TE} {fa : FE} (h : DE X P a ta fa) (he : ∀ whole, isTrue a X.env whole = (do let v ← whole; standAt a.pos; holding [v] (truthy v)) := by intro _; rfl) : DT X P a (tTru X.K ta) (fTru fa) := ⟨pt_truth h.1 he, st_tru h.2⟩
end DL


set_option Elab.async false
set_option linter.all false
set_option maxRecDepth 100000
set_option maxHeartbeats 1000000
namespace DL
open PySem PySem.Spec PyProof.Rows L2
/-! ### a def whose last parameter has a default, a whole number: called by place, with the default, by names alone -/
/-- by names: rv, in the order turned about -/
def ord (rv : Bool) {α : Type} (xs : List α) : List α := if rv then xs.reverse else xs
structure CalD (P : Program) (w : World) (K : PySem.W.Frag) (mg : Str → Option Value) (base : Heap) (k : Nat) (x : Str) (ps : List Str) (np : Nat) (F : FE) (dv : Int) : Prop where
  ex : ∃ f fd t, FnOk P w K mg base CX0 k f fd ps (spD K np F) ∧ mg x = some (.ref f) ∧ PySem.W.keepIn K (.ref f) = true ∧ Binds K fd ps [] ∧ Binds K fd ps [.int dv t] ∧
    ∀ (rv : Bool) (s : Shared) (ws : List Value), K.In s.heap → ws.length = ps.length → BindsTo s fd ⟨[], (ord rv ps).zip ws⟩ (ps.zip (ord rv ws))
section
variable {X : Cx} {P k np : Nat} {ps : List Str} {x : Str} {p pos : Pos} {e : Expr} {es : List Expr} {te : TE} {ta : TA} {fe F : FE} {fa : FA} {dv : Int}
end
end DL


set_option Elab.async false
set_option linter.all false
set_option maxRecDepth 100000
set_option maxHeartbeats 1000000
/-! min of a list, the things compared by what stands in the heap -/
namespace MN
open PySem PySem.Spec PyProof.Rows
section
variable {prog : Program} {w : World} {A : Around} {R : Result → Shared → Prop} {I : Addr} {fp wr : List Addr} {n : Nat} {P : Nat → Value → Prop} {St : Nat → Heap → Prop} {h0 : Heap}
end
end MN


set_option Elab.async false
set_option linter.all false
set_option maxRecDepth 100000
set_option maxHeartbeats 1000000
namespace MN
open PySem PySem.Spec PyProof.Rows PySem.SeqAt L2
open AutoSeq1 (wpAny_loadPart')
open MeetsSeq MeetsSeq2 MeetsSeq3
/-! list < list, the items rows of whole numbers -/
end MN


set_option Elab.async false
set_option linter.all false
set_option maxRecDepth 100000
set_option maxHeartbeats 1000000
namespace DL
open PySem PySem.Spec PyProof.Rows L2 MN
open PySem.SeqAt (EqAt)
/-! ### min of lists of rows -/
section
variable {X : Cx} {pins : List (Addr × Obj)} {σ : L2.St} {H : Hp} {s : Shared}
end
end DL


set_option Elab.async false
set_option linter.all false
set_option maxRecDepth 100000
set_option maxHeartbeats 1000000
namespace L2
open PySem PySem.Spec PyProof.Rows
/-- a def whose last parameter has a whole number as its default -/
structure FunD (K : PySem.W.Frag) (x qual : Str) (st : Stmt) (f : Addr) (fd : FuncData) (dv : Int) : Prop where
  ex : ∃ (oc : Value) (od : Option Addr) (kV doc pm : Value) (an : Option Addr) (cdv ct : Value) (osl : Array (Option Value)) (T : Addr) (o : Obj) (n : Nat) (t : Tok),
    fd = PySem.W.fnOf x qual (defArgs st) (defBody st) (defScope st) (.ref T) kV doc pm an cdv ct ∧ K.lookup f = some ⟨oc, od, .func fd, osl⟩ ∧ PySem.W.codeIn K cdv qual = true ∧ K.lookup T = some o ∧ o.data = .seq #[.int dv t] n
theorem FunD.ok {P : Program} {w : World} {K : PySem.W.Frag} {mg : Str → Option Value} {base : Heap} {x qual : Str} {st : Stmt} {f : Addr} {fd : FuncData} {dv : Int} {N ps : List Str} {k : Nat} {sp : Sp} (F : FunD K x qual st f fd dv) (S : FnScope N ps (defScope st)) (len : ∀ vs H Q E, sp vs H Q E → vs.length = ps.length)
    (hbody : ∀ (cdv : Value) (A : Around) (outer : List Env) (s : Shared) (H : Hp) (vs : List V) (Q : VK) (E : XK), Room k (A.deeper (envOfC qual (defScope st) s.heap.objs.size f cdv)) → sp vs H Q E →
      ∃ t, PSs (cxOf CX0 P w K mg base N qual (defScope st) f cdv A outer s H E).nox (defBody st) t ∧ t { nx := fun _ H' => Q .non H', rt := Q } (start N vs) H) : FnOk P w K mg base CX0 (k + 1) f fd ps sp := by
  obtain ⟨oc, od, kV, doc, pm, an, cdv, ct, osl, T, o, n, t, rfl, lk, hcd, _⟩ := F.ex
  refine fn_of lk hcd S len fun A outer s H vs Q E hr hsp => ?_
  obtain ⟨t, h, q⟩ := hbody cdv A outer s H vs Q E hr hsp
  exact ⟨t, h.nox, q⟩
end L2
namespace DL
open PySem PySem.Spec L2
end DL


set_option Elab.async false
set_option linter.all false
set_option maxRecDepth 100000
set_option maxHeartbeats 1000000
namespace L2
open PySem PySem.Spec PyProof.Rows
section
variable {X : Cx}
end
end L2


set_option Elab.async false
set_option linter.all false
set_option maxRecDepth 100000
set_option maxHeartbeats 1000000
/-! a generator that is woken later on: tuple(.. for ..); any(.. for ..) -/
namespace GE
open PySem PySem.Spec L2
open PyProof.Rows (AllBare)
open PySem.W (CodeHd tabObj)
section
variable {X : Cx} {pins : List (Addr × Obj)} {σ : St} {H : Hp} {s : Shared} {elt tg iter : Expr} {ifs : List Expr} {scope : Scope} {own : List (Str × Nat)} {gpos pos p : Pos} {wi : TI} {g : TG} {tt : TT} {te : TE} {c P : Addr} {k : Nat}
end
end GE


set_option Elab.async false
set_option linter.all false
set_option maxRecDepth 100000
set_option maxHeartbeats 1000000
namespace GE
open PySem PySem.Spec L2
open PyProof.Rows (AllBare)
open PySem.W (CodeHd tabObj)
open AutoSeq1 (wpAny_loadPart')
section
variable {Z : Cx} {A : Around} {fp : List Addr} {tn : Nat → Heap → Prop} {σ0 : St} {pn : List (Addr × Obj)} {gi : Nat} {W : Nat → Nat → Hp → Prop} {Stop : Hp → Prop} {S : Addr}
end
end GE


set_option Elab.async false
set_option linter.all false
set_option maxRecDepth 100000
set_option maxHeartbeats 1000000
namespace GE
open PySem PySem.Spec L2
open PyProof.Rows (AllBare)
open PySem.W (CodeHd tabObj)
open AutoSeq1 (wpAny_loadPart')
section
variable {Z : Cx} {A : Around} {fp : List Addr} {tn : Nat → Heap → Prop} {σ0 : St} {pn : List (Addr × Obj)} {gi : Nat} {W : Nat → Nat → Hp → Prop} {Stop : Hp → Prop}
end
section
variable {X : Cx} {elt tg iter : Expr} {ifs : List Expr} {scope : Scope} {own : List (Str × Nat)} {gpos pos p : Pos} {wi : TI} {g : TG} {tt : TT} {te : TE} {c P : Addr} {k : Nat}
end
end GE


set_option Elab.async false
set_option linter.all false
set_option maxRecDepth 100000
set_option maxHeartbeats 1000000
/-! any(.. for ..) -/
namespace GE
open PySem PySem.Spec L2
open PyProof.Rows (AllBare)
open PySem.W (CodeHd tabObj)
section
variable {Z : Cx} {A : Around} {A₁ : Around} {elt tg iter : Expr} {ifs : List Expr} {scope : Scope} {pos : Pos} {it : Addr} {fp : List Addr} {tn : Nat → Heap → Prop} {J : It} {g : TG} {tt : TT} {te : TE} {σ0 : St} {vs : List Nat} {pn : List (Addr × Obj)} {gi : Nat}
  {W : Nat → Nat → Hp → Prop} {Yp : Nat → Nat → V → Hp → Prop} {Stop : Hp → Prop}
end
section
variable {X : Cx} {elt tg iter : Expr} {ifs : List Expr} {scope : Scope} {own : List (Str × Nat)} {gpos pos p : Pos} {wi : TI} {g : TG} {tt : TT} {te : TE} {c P : Addr} {k : Nat}
end
end GE


set_option Elab.async false
set_option linter.all false
set_option maxRecDepth 100000
set_option maxHeartbeats 1000000
/-! ### enumerate over a tuple -/
namespace EN
open PySem PySem.Spec PyProof.Rows L2
open AutoSeq1 (wpAny_loadPart')
section
variable {P : Program} {w : World} {A : Around} {E : Value → Shared → Prop} {s : Shared} {it t : Addr} {i : Nat} {items : Array Value}
theorem nextT_item {Q : Value → Shared → Prop} {x : Value} (hit : s.heap.IsTupleIter it t i) (ht : s.heap.IsTuple t items) (hx : items[i]? = some x)
    (hQ : ∀ h', h'.IsTupleIter it t (i + 1) → Heap.SameBut it s.heap h' → Q x { s with heap := h' }) : wpAny (model P w) A (Builtin.SmallTypes.nextOf (.ref it)) Q E s := by
  have ty := hit.typeIs
  obtain ⟨o, g1, g2, g3⟩ := id hit
  obtain ⟨ot, q1, _, n, q2⟩ := ht
  unfold Builtin.SmallTypes.nextOf
  refine wpAny_bind (wpAny_callSpecial?_slot (name := Str.ofString "__next__") ty F.slot_tuple_iterator_next (wpAny_call_entry F.slot_tuple_iterator_next ty F.entry_tuple_iterator_next ?_ (F.args_tuple_iterator_next_1 _)))
  show wpAny _ _ (field (.ref it) 0 >>= _) _ _ s
  refine wpAny_bind (wpAny_field g1 g3 (x := .ref t) rfl ?_)
  show wpAny _ _ (if (Value.ref t == Value.none) = true then _ else _) _ _ s
  have nn : ¬ (Value.ref t == Value.none) = true := Bool.false_ne_true
  rw [if_neg nn]
  show wpAny _ _ (field (.ref it) 1 >>= _) _ _ s
  refine wpAny_bind (wpAny_field g1 g3 (x := .int i 0) rfl ?_)
  show wpAny _ _ (seqItems? (.ref t) >>= _) _ _ s
  refine wpAny_bind (wpAny_seqItems q1 q2 ?_)
  simp only [Int.toNat_natCast, hx]
  refine wpAny_bind (wpAny_setField g1 g3 (by simp) (wpAny_pure ⟨x, rfl, wpAny_pure (hQ _ ?_ (Heap.SameBut.update ..))⟩))
  refine ⟨_, Heap.get?_update_self _ g1 (Obj.isFreed_of_fields (Obj.data_mapFields g3 _)), (Obj.cls_mapFields ..).trans g2, ?_⟩
  rw [Obj.data_mapFields g3]
  simp [rawInt]
theorem nextT_end {Q : Value → Shared → Prop} (hh : A.handled = none) (hit : s.heap.IsTupleIter it t i) (ht : s.heap.IsTuple t items) (hx : items[i]? = none)
    (hE : ∀ h' e, Heap.ExtBut it s.heap h' → (∃ o, h'.get? e = some o ∧ o.cls = .type "StopIteration") → E (.ref e) { s with heap := h' }) : wpAny (model P w) A (Builtin.SmallTypes.nextOf (.ref it)) Q E s := by
  have ty := hit.typeIs
  obtain ⟨o, g1, g2, g3⟩ := id hit
  obtain ⟨ot, q1, _, n, q2⟩ := ht
  unfold Builtin.SmallTypes.nextOf
  refine wpAny_bind (wpAny_callSpecial?_slot (name := Str.ofString "__next__") ty F.slot_tuple_iterator_next (wpAny_call_entry F.slot_tuple_iterator_next ty F.entry_tuple_iterator_next ?_ (F.args_tuple_iterator_next_1 _)))
  show wpAny _ _ (field (.ref it) 0 >>= _) _ _ s
  refine wpAny_bind (wpAny_field g1 g3 (x := .ref t) rfl ?_)
  show wpAny _ _ (if (Value.ref t == Value.none) = true then _ else _) _ _ s
  have nn : ¬ (Value.ref t == Value.none) = true := Bool.false_ne_true
  rw [if_neg nn]
  show wpAny _ _ (field (.ref it) 1 >>= _) _ _ s
  refine wpAny_bind (wpAny_field g1 g3 (x := .int i 0) rfl ?_)
  show wpAny _ _ (seqItems? (.ref t) >>= _) _ _ s
  refine wpAny_bind (wpAny_seqItems q1 q2 ?_)
  simp only [Int.toNat_natCast, hx]
  refine wpAny_bind (wpAny_rule (wpAny_bind (wpAny_setField g1 g3 (by simp) ?_)))
  show wpAny _ _ (newExc (.type "StopIteration") [] >>= _) _ _ _
  refine wpAny_bind ?_
  simp only [newExc, newTuple]
  refine wpAny_bind (wpAny_newObj_type ?_ (by size_fits))
  refine wpAny_bind (m := firstArgMember _ _) (wpAny_of_eq (a := Value.none) (by first | rfl | (simp only [firstArgMember]; rfl)) ?_)
  refine wpAny_newObj_type ?_ (by size_fits)
  simp only [raiseNew]
  refine wpAny_bind (wpAny_handled ?_)
  first | rw [show A.in1.handled = none from hh] | rw [hh]
  refine wpAny_bind (wpAny_pure (wpAny_throw ?_))
  exact hE _ _ (((Heap.SameBut.update ..).extBut.push _).push _) ⟨_, Heap.get?_push_size _ rfl, rfl⟩
end
theorem drawsT {P : Program} {w : World} {A : Around} (hh : A.handled = none) (it l : Addr) (hne : l ≠ it) (items : Array Value) :
    Draws P w A it [it, l] items.size (fun i v => items[i]? = some v) (fun i h => h.IsTupleIter it l i ∧ h.IsTuple l items) where
  live := fun _ _ st => let ⟨o, ho, _⟩ := st.1; ⟨o, ho⟩
  frame := fun _ _ _ st hk => ⟨st.1.at fun o e => hk it (by simp) o e, let ⟨o, ho, r⟩ := st.2; ⟨o, hk l (by simp) o ho, r⟩⟩
  item := fun i s Q E hi st hQ => by
    refine nextT_item st.1 st.2 (x := items[i]) (by simp [hi]) fun h' a b => ?_
    exact hQ _ h' s.toks (by simp [hi]) ⟨a, let ⟨o, ho, r⟩ := st.2; ⟨o, b.extBut l o hne ho, r⟩⟩ b
  done := fun s Q E st hE => nextT_end hh st.1 st.2 (by simp) hE
theorem enumT_new (l : Addr) (items : Array Value) (n : Nat) (dct : Option Addr) (sl : Array (Option Value)) :
    Meets (Builtin.«enumerate.__new__» ⟨[.type "enumerate", .ref l], []⟩) (fun _ R s => s.heap.get? l = some { cls := .type "tuple", dict := dct, data := .seq items n, slots := sl } ∧
      R (.ok (.ret (.ref (s.heap.push { cls := .type "tuple_iterator", data := .fields #[.ref l, .int 0 0] }).objs.size)))
        { s with heap := (s.heap.push { cls := .type "tuple_iterator", data := .fields #[.ref l, .int 0 0] }).push { cls := .type "enumerate", data := .fields #[.none, .bool false, .ref s.heap.objs.size, rawInt 0, .none, .none] } }) :=
  .of_wp fun P w A R s h => by
    obtain ⟨hp, g, d, tk, os⟩ := s
    obtain ⟨hl, h⟩ := h
    have sub := sub_enumerate
    have hT : Heap.IsTuple (Shared.heap ⟨hp, g, d, tk, os⟩) l items := ⟨_, hl, rfl, n, rfl⟩
    wp_walk using wpAny_loadPart' hl
    refine wpAny_stack_any fun st => wpAny_pure ?_
    split
    · rename_i c _ _ _ _ _
      cases (c == Value.type "enumerate") <;> (wp_walk using wpAny_loadPart' hl, wpAny_pyIter_tuple hT; exact ⟨_, rfl, h⟩)
    · wp_walk using wpAny_loadPart' hl, wpAny_pyIter_tuple hT
      exact ⟨_, rfl, h⟩
theorem call_enumT {P : Program} {w : World} {A : Around} {E : Value → Shared → Prop} {s : Shared} {l : Addr} {items : Array Value} {Q : Value → Shared → Prop} (hT : s.heap.IsTuple l items)
    (h : ∀ h', IsEnum h' (s.heap.objs.size + 1) s.heap.objs.size 0 .none → h'.IsTupleIter s.heap.objs.size l 0 → h'.objs.size = s.heap.objs.size + 2 →
      (∀ b o, s.heap.get? b = some o → h'.get? b = some o) → Q (.ref (s.heap.objs.size + 1)) { s with heap := h' }) : wpAny (model P w) A (call (.type "enumerate") [.ref l]) Q E s := by
  obtain ⟨⟨c, dct, dt, sl⟩, hl, hc, n, hd⟩ := hT
  cases (show c = .type "tuple" from hc)
  cases (show dt = .seq items n from hd)
  refine callType_new F.called_enumerate (by decide) (F.typeCall_enumerate_1 _) (F.newCall_enumerate_1 _) (fun obj => F.args_object_init_2 obj _) F.entry_enumerate_new (enumT_new l items n dct sl) ⟨hl, ?_⟩
  have hz : (s.heap.push { cls := .type "tuple_iterator", data := .fields #[.ref l, .int 0 0] }).objs.size = s.heap.objs.size + 1 := Heap.size_push ..
  show _ ∧ _
  rw [hz]
  generalize e1 : s.heap.push { cls := .type "tuple_iterator", data := .fields #[.ref l, .int 0 0] } = h1 at hz ⊢
  have he : IsEnum (h1.push { cls := .type "enumerate", data := .fields #[.none, .bool false, .ref s.heap.objs.size, rawInt 0, .none, .none] }) (s.heap.objs.size + 1) s.heap.objs.size 0 .none := by
    have z := Heap.get?_push_size h1 (o := { cls := .type "enumerate", data := .fields #[.none, .bool false, .ref s.heap.objs.size, rawInt 0, .none, .none] }) rfl
    rw [hz] at z
    exact z
  have hi : h1.get? s.heap.objs.size = some { cls := .type "tuple_iterator", data := .fields #[.ref l, .int 0 0] } := by rw [← e1]; exact Heap.get?_push_size _ rfl
  exact ⟨⟨_, he, rfl⟩, h _ he ⟨_, Heap.get?_push_of_some _ hi, rfl, rfl⟩ (by rw [Heap.size_push, hz]) fun b o x => Heap.get?_push_of_some _ (by rw [← e1]; exact Heap.get?_push_of_some _ x)⟩
/-- the tuple at a, each item in a new pair with its place -/
def ItE (K : PySem.W.Frag) (a : Addr) : It :=
  ⟨fun i H => ∃ (xs : List V) (x : V), SqT K H a xs ∧ xs[i]? = some x, fun i H v H' => ∃ T x, v = .ref T ∧ H T = none ∧ H' = upd H T (.tup [.int (i : Nat), x]) ∧ ∀ xs, SqT K H a xs → xs[i]? = some x, fun i H => ∃ xs : List V, SqT K H a xs ∧ xs.length ≤ i⟩
theorem turn_E {P : Program} {w : World} {K : PySem.W.Frag} {elts : List Expr} {kk : Nat} {tpos : Pos} (a e it : Addr) (hai : a ≠ it) :
    Turn P w K (.Tuple elts kk tpos) (ItE K a) [e, it] e (fun i h => (∃ old, IsEnum h e it ((i : Nat) : Int) old) ∧ h.IsTupleIter it a i ∧ e ≠ it ∧ e ≠ a) where
  mem := by simp
  obj := fun i h st b hb => by
    obtain ⟨⟨old, he⟩, ⟨o, ho, hc, hd⟩, _⟩ := st
    have e' : b = e ∨ b = it := by simpa using hb
    rcases e' with z | z
    · rw [z]; exact ⟨_, he, fun v q => nomatch q⟩
    · rw [z]; exact ⟨o, ho, fun v q => by rw [hd] at q; cases q⟩
  keep := fun i h h' st k => let ⟨⟨old, he⟩, hi, hne⟩ := st; ⟨⟨old, k e (by simp) _ he⟩, hi.at fun o q => k it (by simp) o q, hne⟩
  item := by
    intro X hP hw hK hc i pins s σ H E I hf st hg
    subst hP hw hK
    obtain ⟨⟨old, he⟩, hit, hne, hea⟩ := st
    obtain ⟨xs, x, hq, hx⟩ := hg
    obtain ⟨its, rv, p, hz⟩ := I.tuple hq
    obtain ⟨u, hu, ru⟩ := rv.get hx
    have hel : e < s.heap.objs.size := Heap.lt_size he
    have hil : it < s.heap.objs.size := by obtain ⟨_, q, _⟩ := hit; exact Heap.lt_size q
    have D := drawsT (P := X.prog) (w := X.w) (A := X.A.in1) (I.ok.hd hc) it a hai its.toArray
    have hlt : i < its.toArray.size := by
      have z := (List.getElem?_eq_some_iff.mp hu).1
      simpa using z
    refine wpAny_pyNext_enum_itemD D he ⟨hit, p⟩ hlt hne (by simp [hne, hea]) fun y h' tk hy ho st' hT hsz hk => ?_
    have ey : y = u := by
      have z : its.toArray[i]? = some u := by simpa using hu
      have hy' : its.toArray[i]? = some y := hy
      rw [z] at hy'
      exact (Option.some.inj hy').symm
    subst ey
    refine ⟨_, rfl, wpAny_letOwnedTupleGo_enum (s := { s with heap := h', toks := tk + 1 }) ho fun h'' he' sb => ?_⟩
    have hT2 : h''.get? s.heap.objs.size = some { cls := .type "tuple", data := .seq #[.int i tk, y] } := (sb.2 _ (Nat.ne_of_gt hel)).trans hT
    have new : ObjOk X.prog X.w (upd H s.heap.objs.size (.tup [.int (i : Nat), x])) h'' s.heap.objs.size (.tup [.int (i : Nat), x]) :=
      ⟨by show 2 ≤ sizeLine; decide, [.int i tk, y], .cons ⟨_, rfl⟩ (.cons ru .nil), ⟨_, hT2, rfl, _, rfl⟩⟩
    have I1 : Inv X pins σ (upd H s.heap.objs.size (.tup [.int (i : Nat), x])) { s with heap := h'', toks := tk + 1 } :=
      I.turnedNew (ch := [e, it]) (fun b ob hb q => (sb.2 b (fun z => hb (by simp [z]))).trans (hk b ob (fun z => hb (by simp [z])) (fun z => hb (by simp [z])) q)) hf (Nat.le_refl _) new
    refine ⟨.ref s.heap.objs.size, _, I1, rfl, ⟨_, x, rfl, I.hok.fresh (Nat.le_refl _), rfl, fun ys hy => by rw [I.tuple_inj hy hq]; exact hx⟩, ⟨⟨y, ?_⟩, st'.1.at fun o q => (sb.2 it (Ne.symm hne)).trans q, hne, hea⟩, fun b hb => ?_⟩
    · have e1 : ((i + 1 : Nat) : Int) = (i : Int) + 1 := by omega
      rw [e1]; exact he'
    · have hb' : b < s.heap.objs.size := by
        have e' : b = e ∨ b = it := by simpa using hb
        rcases e' with z | z
        · rw [z]; exact hel
        · rw [z]; exact hil
      rw [upd_ne (Nat.ne_of_lt hb')]
      exact (hf b hb).1
  done := by
    intro X hP hw hK hc i pins s σ H E I hf st hg
    subst hP hw hK
    obtain ⟨⟨old, he⟩, hit, hne, hea⟩ := st
    obtain ⟨xs, hq, hx⟩ := hg
    obtain ⟨its, rv, p, hz⟩ := I.tuple hq
    obtain ⟨f0, f1, f2, f3, f4, f5⟩ := hf it (by simp)
    have hl := rv.length
    have hT : s.TypeIs (.ref e) "enumerate" := ⟨_, he, rfl⟩
    unfold pyNext
    refine wpAny_bind (wpAny_attempt (wpAny_callSpecial?_slot (name := Str.ofString "__next__") hT F.slot_enumerate_next (wpAny_call_entry F.slot_enumerate_next hT F.entry_enumerate_next ?_ (F.args_enumerate_next_1 _))))
    show wpAny _ _ (field (.ref e) 2 >>= _) _ _ _
    refine wpAny_bind (wpAny_field he rfl (x := .ref it) rfl ?_)
    refine wpAny_bind (nextT_end (A := X.A.in1) (I.ok.hd hc) hit (show s.heap.IsTuple a its.toArray from p) (by simp; omega) fun h' x he' hx' => ?_)
    obtain ⟨o, ho, hc'⟩ := hx'
    refine wpAny_bind (wpAny_isInstance (T := "StopIteration") (b := true) ⟨o, ho, hc'⟩ isSubtype_stop ?_)
    exact wpAny_pure ⟨rfl, I.turned (t' := s.toks) (fun b o hb q => he' b o hb q) f0 f1 f3 f4 f5⟩
  self := fun A i s Q E st h => let ⟨⟨_, he⟩, _⟩ := st; wpAny_pyIter_enum he h
def iE (K : PySem.W.Frag) (ta : TA) : TI := fun σ H R => ta σ H fun vs H1 => ∃ a xs, vs = [.ref a] ∧ SqT K H1 a xs ∧ R (ItE K a) H1
theorem pi_E {X : Cx} {e : Expr} {ta : TA} {p pos tpos : Pos} {elts : List Expr} {kk : Nat} (hg : Gl X "enumerate") (hm : X.mg "enumerate" = none) (ha : PA X [e] ta) (hs : starEach [e] X.env = [(false, eval e X.env)] := by rfl) :
    PI X (.Tuple elts kk tpos) (.Call (.Name "enumerate" p) [e] [] pos) (iE X.K ta) := by
  intro pins s σ H R I h
  refine Call_ (ld_blt I hg hm boot_enumerate (PyProof.Rows.callWith_type1 (thn (ha pos pins s σ H _ I h) fun us s1 ⟨vs, H1, I1, r1, q1⟩ => ?_) hs rfl))
  obtain ⟨a, xs, ex, hq, q⟩ := q1
  subst ex
  cases r1 with
  | cons r rr =>
    cases rr
    cases r
    obtain ⟨its, rv, p', hz⟩ := I1.tuple hq
    have hal : a < s1.heap.objs.size := by obtain ⟨_, q, _⟩ := p'; exact Heap.lt_size q
    refine call_enumT p' fun h' he hit hsz hk => wpAny_pyIter_enum he ?_
    have I2 : Inv X pins σ H1 { s1 with heap := h' } := I1.kept (t' := s1.toks) hk
    refine ⟨s1.heap.objs.size + 1, [s1.heap.objs.size + 1, s1.heap.objs.size], _, _, H1, rfl, I2, turn_E a (s1.heap.objs.size + 1) s1.heap.objs.size (Nat.ne_of_lt hal), ⟨⟨.none, he⟩, hit, Nat.succ_ne_self _, Nat.ne_of_gt (Nat.lt_succ_of_lt hal)⟩, fun b hb => ?_, q⟩
    have e' : b = s1.heap.objs.size + 1 ∨ b = s1.heap.objs.size := by simpa using hb
    have hle : s1.heap.objs.size ≤ b := by
      rcases e' with z | z
      · rw [z]; exact Nat.le_add_right _ _
      · rw [z]; exact Nat.le_refl _
    exact I1.fpOk hle (I1.hok.fresh hle)
end EN


set_option Elab.async false
set_option linter.all false
set_option maxRecDepth 100000
set_option maxHeartbeats 1000000
namespace L2
open PySem PySem.Spec PyProof.Rows
/-- an entry stored in a tracked dict -/
theorem put_ok {X : Cx} {pins : List (Addr × Obj)} {σ : St} {H : Hp} {s : Shared} {E : Value → Shared → Prop} {D : Addr} {kvs : List (Key × V)} {k : Key} {y : V} {u v : Value} {Q : Unit → Shared → Prop} (I : Inv X pins σ H s) (hD : H D = some (.dK kvs)) (hz : kvs.length < sizeLine) (rk : RelV (kV k) u) (r : RelV y v)
    (h : ∀ s', Inv X pins σ (upd H D (.dK (putK kvs k y))) s' → Q () s') : wpAny (model X.prog X.w) X.A (dictSet D u v) Q E s := by
  obtain ⟨z, hd, vs, rel, dd⟩ := dk_of I.hok hD
  have hl : (putK kvs k y).length ≤ sizeLine := by have := length_putK kvs k y; omega
  refine wpAny_dictSet_pairs (hsz := by rw [← rel.length]; exact z) (kV_is rk) dd fun h' dd' hs => h _ ?_
  have he : ∃ q, h'.get? D = some q := let ⟨q, _, _, hq, _⟩ := dd'; ⟨q, hq⟩
  exact d_write I (by rw [hD]; exact True.intro) hs he (dk_new hl hd (rel.put k r) dd')
theorem codeAny_compStart_dict {prog : Program} {w : World} {A : Around} {R : Result → Shared → Prop} {s : Shared} {kx vx target iter : Expr} {ifs : List Expr} {rest : List Comprehension} {scope : Scope} {pos : Pos} {it acc : Value} {env : Env}
    (h0 : codeAny (model prog w) A (.compLoop (.DictComp kx vx (⟨target, iter, ifs, 0⟩ :: rest) scope pos) 0 it acc env) R s)
    (h : wpAny (model prog w) A (pyIter it) (fun it' s' => codeAny (model prog w) A (.compLoop (.DictComp kx vx (⟨target, iter, ifs, 0⟩ :: rest) scope pos) 0 it' acc env) R s')
      (notedBy (model prog w) A env fun x s' => R (.error x) s') s) :
    codeAny (model prog w) A (.compStart (.DictComp kx vx (⟨target, iter, ifs, 0⟩ :: rest) scope pos) 0 it acc env) R s := by
  refine codeAny_of_tree ?_
  show wpAny _ _ ((compStart (.DictComp kx vx (⟨target, iter, ifs, 0⟩ :: rest) scope pos) 0 it acc env).onRaise (fun x => do noteFrame x env; standAt theWindowsPlace)) _ _ s
  refine wpAny_notedAt ?_
  unfold compStart
  show wpAny _ _ (ask >>= _) _ _ s
  refine wpAny_bind (wpAny_askSetting (wpAny_ite ?_))
  split
  · first
      | exact wpAny_bind (wpAny_pure (wpAny_pure (And.intro rfl h0)))
      | exact wpAny_pure (And.intro rfl h0)
  · first
      | exact wpAny_bind (wpAny_rule (wpAny_bind (wpAny_standAt (wpAny_bind (wpAny_mono h (fun it' s' h' => wpAny_pure (And.intro rfl h')) fun _ _ x => x)))))
      | (refine wpAny_bind (wpAny_rule ?_); show wpAny _ _ (standAt iter.pos >>= _) _ _ s; exact wpAny_bind (wpAny_standAt (wpAny_bind (wpAny_mono h (fun it' s' h' => wpAny_pure (And.intro rfl h')) fun _ _ x => x))))
theorem compTurnD2_out (elt vlt t0 i0 t1 i1 : Expr) (ifs0 ifs1 : List Expr) (scope : Scope) (pos : Pos) (it acc : Value) (env : Env) :
    compTurn (.DictComp elt vlt [⟨t0, i0, ifs0, 0⟩, ⟨t1, i1, ifs1, 0⟩] scope pos) 0 it acc env = (do
      standAt i0.pos
      match ← pyNext it with
      | none => pure (.done .next)
      | some v =>
        letOwnedTupleGo t0 it v
        assign t0 env v
        let mut ok := true
        for c in ifs0 do
          if ok then ok ← isTrue c env (eval c env)
        if ok then
          let x ← eval i1 env
          standAt i1.pos
          let x ← foldedSetIterable i1 env x
          let _ ← runOwn (.compStart (.DictComp elt vlt [⟨t0, i0, ifs0, 0⟩, ⟨t1, i1, ifs1, 0⟩] scope pos) 1 (← holding [x] (pyIter x)) acc env) env
        again (.compLoop (.DictComp elt vlt [⟨t0, i0, ifs0, 0⟩, ⟨t1, i1, ifs1, 0⟩] scope pos) 0 it acc env)) := by rfl
theorem compTurnD2_in (elt vlt t0 i0 t1 i1 : Expr) (ifs0 ifs1 : List Expr) (scope : Scope) (pos : Pos) (it acc : Value) (env : Env) :
    compTurn (.DictComp elt vlt [⟨t0, i0, ifs0, 0⟩, ⟨t1, i1, ifs1, 0⟩] scope pos) 1 it acc env = (do
      standAt i1.pos
      match ← pyNext it with
      | none => pure (.done .next)
      | some v =>
        letOwnedTupleGo t1 it v
        assign t1 env v
        let mut ok := true
        for c in ifs1 do
          if ok then ok ← isTrue c env (eval c env)
        if ok then
          (do
            let kv ← eval elt env
            let vv ← holding [kv] (eval vlt env)
            match acc with
            | .ref d => do
              standAt { elt.pos with endLine := vlt.pos.endLine, endCol := vlt.pos.endCol }
              holding [kv, vv] (dictSet d kv vv)
            | _ => unsupported "internal:dictcomp")
        again (.compLoop (.DictComp elt vlt [⟨t0, i0, ifs0, 0⟩, ⟨t1, i1, ifs1, 0⟩] scope pos) 1 it acc env)) := by rfl

section
variable {prog : Program} {w : World} {A : Around} {R : Result → Shared → Prop} {s : Shared} {elt vlt t0 i0 t1 i1 : Expr} {ifs0 ifs1 : List Expr} {scope : Scope} {pos : Pos} {it acc : Value} {env : Env}
/-- the loop of the first clause -/
theorem compLoopD2_out (hs : ∀ x, foldedSetIterable i1 env x = pure x) (I : Nat → Shared → Prop)
    (turn : ∀ n s, I n s → wpAny (model prog w) A (pyNext it) (fun r s₁ => match r with
      | none => R (.ok .next) s₁
      | some v => wpAny (model prog w) A (letOwnedTupleGo t0 it v) (fun _ s₁' => wpAny (model prog w) A (assign t0 env v) (fun _ s₂ =>
          wpAny (model prog w) A (forIn ifs0 true fun c r => if r = true then do let ok ← isTrue c env (eval c env); pure (ForInStep.yield ok) else pure (ForInStep.yield r)) (fun ok s₃ =>
            if ok = true then wpAny (model prog w) A (eval i1 env) (fun x s₄ => wpAny (model prog w) A (pyIter x) (fun it1 s₅ =>
              codeAny (model prog w) A (.compStart (.DictComp elt vlt [⟨t0, i0, ifs0, 0⟩, ⟨t1, i1, ifs1, 0⟩] scope pos) 1 it1 acc env) (fun r s' => match r with
                | .ok _ => ∃ m, m < n ∧ I m s'
                | .error _ => False) s₅) (notedBy (model prog w) A env fun e s' => R (.error e) s') s₄) (notedBy (model prog w) A env fun e s' => R (.error e) s') s₃
            else ∃ m, m < n ∧ I m s₃) (notedBy (model prog w) A env fun e s' => R (.error e) s') s₂) (notedBy (model prog w) A env fun e s' => R (.error e) s') s₁') (notedBy (model prog w) A env fun e s' => R (.error e) s') s₁) (notedBy (model prog w) A env fun e s' => R (.error e) s') s)
    (n : Nat) (h : I n s) :
    codeAny (model prog w) A (.compLoop (.DictComp elt vlt [⟨t0, i0, ifs0, 0⟩, ⟨t1, i1, ifs1, 0⟩] scope pos) 0 it acc env) R s := by
  refine codeAny_loop rfl I (fun n s hI => ?_) n h
  show wpAny _ A ((compTurn (.DictComp elt vlt [⟨t0, i0, ifs0, 0⟩, ⟨t1, i1, ifs1, 0⟩] scope pos) 0 it acc env).onRaise (fun x => do noteFrame x env; theTreesLotGoes x)) _ _ s
  refine wpAny_noted ?_
  rw [compTurnD2_out]
  refine wpAny_bind (wpAny_standAt (wpAny_bind (wpAny_mono (turn n s hI) (fun r s₁ h₁ => ?_) fun _ _ h' => h')))
  cases r with
  | none => exact wpAny_pure h₁
  | some v =>
    refine wpAny_bind (wpAny_mono h₁ (fun _ s₁' h₁' => ?_) fun _ _ h' => h')
    refine wpAny_bind (wpAny_mono h₁' (fun _ s₂ h₂ => wpAny_bind (wpAny_mono h₂ (fun ok s₃ h₃ => ?_) fun _ _ h' => h')) fun _ _ h' => h')
    cases ok with
    | false => exact wpAny_pure ⟨rfl, h₃⟩
    | true =>
      refine wpAny_bind (wpAny_mono h₃ (fun x s₄ h₄ => ?_) fun _ _ h' => h')
      refine wpAny_bind (wpAny_standAt (wpAny_bind (wpAny_of_eq (hs x) (wpAny_bind (wpAny_holding (wpAny_mono h₄ (fun it1 s₅ h₅ => ?_) fun _ _ h' => h'))))))
      refine wpAny_bind (wpAny_runOwn ?_)
      rw [Around.mark_none]
      refine codeAny_mono h₅ fun r s' hr => ?_
      cases r with
      | ok f =>
        first
          | exact wpAny_pure ⟨rfl, hr⟩
          | exact wpAny_bind (wpAny_pure (wpAny_pure ⟨rfl, hr⟩))
      | error e => exact hr.elim
/-- the loop of the second -/
theorem compLoopD2_in {D : Addr} (I : Nat → Shared → Prop)
    (turn : ∀ n s, I n s → wpAny (model prog w) A (pyNext it) (fun r s₁ => match r with
      | none => R (.ok .next) s₁
      | some v => wpAny (model prog w) A (letOwnedTupleGo t1 it v) (fun _ s₁' => wpAny (model prog w) A (assign t1 env v) (fun _ s₂ =>
          wpAny (model prog w) A (forIn ifs1 true fun c r => if r = true then do let ok ← isTrue c env (eval c env); pure (ForInStep.yield ok) else pure (ForInStep.yield r)) (fun ok s₃ =>
            if ok = true then wpAny (model prog w) A (eval elt env) (fun x s₄ => wpAny (model prog w) A (eval vlt env) (fun y s₄' =>
              wpAny (model prog w) A (dictSet D x y) (fun _ s₅ => ∃ m, m < n ∧ I m s₅) (notedBy (model prog w) A env fun e s' => R (.error e) s') s₄') (notedBy (model prog w) A env fun e s' => R (.error e) s') s₄) (notedBy (model prog w) A env fun e s' => R (.error e) s') s₃
            else ∃ m, m < n ∧ I m s₃) (notedBy (model prog w) A env fun e s' => R (.error e) s') s₂) (notedBy (model prog w) A env fun e s' => R (.error e) s') s₁') (notedBy (model prog w) A env fun e s' => R (.error e) s') s₁) (notedBy (model prog w) A env fun e s' => R (.error e) s') s)
    (n : Nat) (h : I n s) :
    codeAny (model prog w) A (.compLoop (.DictComp elt vlt [⟨t0, i0, ifs0, 0⟩, ⟨t1, i1, ifs1, 0⟩] scope pos) 1 it (.ref D) env) R s := by
  refine codeAny_loop rfl I (fun n s hI => ?_) n h
  show wpAny _ A ((compTurn (.DictComp elt vlt [⟨t0, i0, ifs0, 0⟩, ⟨t1, i1, ifs1, 0⟩] scope pos) 1 it (.ref D) env).onRaise (fun x => do noteFrame x env; theTreesLotGoes x)) _ _ s
  refine wpAny_noted ?_
  rw [compTurnD2_in]
  refine wpAny_bind (wpAny_standAt (wpAny_bind (wpAny_mono (turn n s hI) (fun r s₁ h₁ => ?_) fun _ _ h' => h')))
  cases r with
  | none => exact wpAny_pure h₁
  | some v =>
    refine wpAny_bind (wpAny_mono h₁ (fun _ s₁' h₁' => ?_) fun _ _ h' => h')
    refine wpAny_bind (wpAny_mono h₁' (fun _ s₂ h₂ => wpAny_bind (wpAny_mono h₂ (fun ok s₃ h₃ => ?_) fun _ _ h' => h')) fun _ _ h' => h')
    cases ok with
    | false => exact wpAny_pure ⟨rfl, h₃⟩
    | true =>
      refine wpAny_bind (wpAny_bind (wpAny_mono h₃ (fun x s₄ h₄ => ?_) fun _ _ h' => h'))
      refine wpAny_bind (wpAny_holding (wpAny_mono h₄ (fun y s₄' h₅ => ?_) fun _ _ h' => h'))
      exact wpAny_bind (wpAny_standAt (wpAny_holding (wpAny_mono h₅ (fun _ s₅ h₆ => wpAny_pure ⟨rfl, h₆⟩) fun _ _ h' => h')))
/-- the second clause's start -/
theorem compStartD1_ok (h0 : codeAny (model prog w) A (.compLoop (.DictComp elt vlt [⟨t0, i0, ifs0, 0⟩, ⟨t1, i1, ifs1, 0⟩] scope pos) 1 it acc env) R s)
    (h : wpAny (model prog w) A (pyIter it) (fun it' s' => codeAny (model prog w) A (.compLoop (.DictComp elt vlt [⟨t0, i0, ifs0, 0⟩, ⟨t1, i1, ifs1, 0⟩] scope pos) 1 it' acc env) R s')
      (notedBy (model prog w) A env fun x s' => R (.error x) s') s) :
    codeAny (model prog w) A (.compStart (.DictComp elt vlt [⟨t0, i0, ifs0, 0⟩, ⟨t1, i1, ifs1, 0⟩] scope pos) 1 it acc env) R s := by
  refine codeAny_of_tree ?_
  show wpAny _ _ ((compStart (.DictComp elt vlt [⟨t0, i0, ifs0, 0⟩, ⟨t1, i1, ifs1, 0⟩] scope pos) 1 it acc env).onRaise (fun x => do noteFrame x env; standAt theWindowsPlace)) _ _ s
  refine wpAny_notedAt ?_
  unfold compStart
  show wpAny _ _ (ask >>= _) _ _ s
  refine wpAny_bind (wpAny_askSetting (wpAny_ite ?_))
  split
  · first
      | exact wpAny_bind (wpAny_pure (wpAny_pure (And.intro rfl h0)))
      | exact wpAny_pure (And.intro rfl h0)
  · first
      | exact wpAny_bind (wpAny_rule (wpAny_bind (wpAny_standAt (wpAny_bind (wpAny_mono h (fun it' s' h' => wpAny_pure (And.intro rfl h')) fun _ _ x => x)))))
      | (refine wpAny_bind (wpAny_rule ?_); show wpAny _ _ (standAt i1.pos >>= _) _ _ s; exact wpAny_bind (wpAny_standAt (wpAny_bind (wpAny_mono h (fun it' s' h' => wpAny_pure (And.intro rfl h')) fun _ _ x => x))))
end

section
variable {X : Cx}
/-- [elt for tg in iter if .. for tg1 in iter1 if ..]: behind the first clause's store and tests the second source's own loop, from which Nx is reached. vs: the block's names; vs1: those of the second target -/
def tDc2 (wi : TI) (g : TG) (tt : TT) (wi1 : TI) (g1 : TG) (tt1 : TT) (tk tv : TE) (vs vs1 : List Nat) : TE := fun σ H Q => wi σ H fun J H1 => ∀ D, H1 D = none → ∃ W : Nat → Nat → Hp → Prop, (∃ m, W 0 m (upd H1 D (.dK []))) ∧ ∀ i m H, W i m H →
  (J.stop i H ∧ Q (.ref D) H) ∨ (J.go i H ∧ ∃ Nx : Hp → Prop, (∀ H', Nx H' → ∃ m', m' < m ∧ W (i + 1) m' H') ∧ ∀ x H', J.yld i H x H' → g x (wipe σ vs) H' fun σ2 H2 => wipe σ2 vs = wipe σ vs ∧ tt σ2 H2 fun b H3 =>
    if b = true then wi1 σ2 H3 fun J1 H4 => ∃ W1 : Nat → Nat → Hp → Prop, (∃ m, W1 0 m H4) ∧ ∀ j k H, W1 j k H →
      (J1.stop j H ∧ Nx H) ∨ (J1.go j H ∧ ∃ Nx1 : Hp → Prop, (∀ H', Nx1 H' → ∃ k', k' < k ∧ W1 (j + 1) k' H') ∧ ∀ x H', J1.yld j H x H' → g1 x (wipe σ2 vs1) H' fun σ3 H5 => wipe σ3 vs1 = wipe σ2 vs1 ∧ tt1 σ3 H5 fun b H6 =>
        if b = true then tk σ3 H6 fun y H7 => tv σ3 H7 fun z H8 => ∃ acc k, y = kV k ∧ H8 D = some (.dK acc) ∧ acc.length < sizeLine ∧ Nx1 (upd H8 D (.dK (putK acc k z))) else Nx1 H6)
    else Nx H3)
theorem dc2_core {pins : List (Addr × Obj)} {s : Shared} {σ : St} {H : Hp} {Q : VK} {elt vlt tg iter tg1 iter1 : Expr} {ifs ifs1 : List Expr} {scope : Scope} {own : List (Str × Nat)} {vs1 : List Nat} {pos pos' : Pos} {wi wi1 : TI} {g g1 : TG} {tt tt1 : TT} {tk tv : TE} {use : Option (Value → Sem Unit)} {Qf : Value → Shared → Prop}
    (hc : X.calm = true) (hN : X.N.Nodup) (I : Inv X pins σ H s) (hi : PI X tg iter wi) (ok : BlkOk X.N X.env.scope scope own) (hv : ∀ i ∈ vs1, i ∈ own.map (·.2))
    (hg : ∀ (s : Shared) (H : Hp) (C : Addr) (cl : List (Str × Addr)) (fp : List Addr), PG (X.blk s H scope (compEnvC scope cl C X.env) fp) tg g) (ht : ∀ (s : Shared) (H : Hp) (C : Addr) (cl : List (Str × Addr)) (fp : List Addr), PTs (X.blk s H scope (compEnvC scope cl C X.env) fp) ifs tt)
    (hk : ∀ (s : Shared) (H : Hp) (C : Addr) (cl : List (Str × Addr)) (fp : List Addr), PE (X.blk s H scope (compEnvC scope cl C X.env) fp) elt tk) (hvl : ∀ (s : Shared) (H : Hp) (C : Addr) (cl : List (Str × Addr)) (fp : List Addr), PE (X.blk s H scope (compEnvC scope cl C X.env) fp) vlt tv) (hs : ∀ x, foldedSetIterable iter X.env x = pure x)
    (hi1 : ∀ (s : Shared) (H : Hp) (C : Addr) (cl : List (Str × Addr)) (fp : List Addr), PI (X.blk s H scope (compEnvC scope cl C X.env) fp) tg1 iter1 wi1)
    (hg1 : ∀ (s : Shared) (H : Hp) (C : Addr) (cl : List (Str × Addr)) (fp : List Addr), PG (X.blk s H scope (compEnvC scope cl C X.env) fp) tg1 g1)
    (ht1 : ∀ (s : Shared) (H : Hp) (C : Addr) (cl : List (Str × Addr)) (fp : List Addr), PTs (X.blk s H scope (compEnvC scope cl C X.env) fp) ifs1 tt1)
    (hs1 : ∀ env x, foldedSetIterable iter1 env x = pure x)
    (h : tDc2 wi g tt wi1 g1 tt1 tk tv (own.map (·.2)) vs1 σ H Q)
    (hRR : ∀ D C s' m H', Inv X pins σ H' s' → Q (.ref D) H' → s'.heap.Ns C m → FpOk X pins H' C → compPost (model X.prog X.w) X.A X.xe use Qf (.ref D) C (.ok .next) s') :
    wpAny (model X.prog X.w) X.A (comprehension (.DictComp elt vlt [⟨tg, iter, ifs, 0⟩, ⟨tg1, iter1, ifs1, 0⟩] scope pos) scope X.env pos' newDict false (eval iter X.env) use) Qf X.xe s := by
  have hfree : ∀ y ∈ scope.names, y.2 = .free → ∃ c, X.env.cells.lookup y.1 = some c := fun y hy e => by
    rcases ok.free y hy e with k | k
    · exact I.ok.has _ (.inl k)
    · exact I.ok.has _ (.inr k)
  refine wpAny_comprehension_free (use := use) rfl hs (closure_ok hfree) ok.kind (fun y hy e => by rw [ok.uniq y hy, e])
    (thn (hi pins s σ H _ I h) fun xv s1 hx => thn hx fun itv s2 h2 => ?_)
  obtain ⟨it, fp, tn, J, H2, e, I2, T, st2, f2, q⟩ := h2
  subst e
  refine wpAny_newObj_type (newEnv_comp ?_) (by show 0 ≤ sizeLine + 1; exact Nat.zero_le _)
  generalize hD : s2.heap.objs.size = D
  have hDn : H2 D = none := I2.hok.fresh (Nat.le_of_eq hD)
  obtain ⟨W, ⟨m0, w0⟩, turn⟩ := q D hDn
  -- the new list
  generalize hs3 : ({ s2 with heap := s2.heap.push { cls := .type "dict", data := .dict #[] } } : Shared) = s3
  have I3 : Inv X pins σ (upd H2 D (.dK [])) s3 := by
    rw [← hs3]
    rw [← hD]
    exact I2.laid (a := s2.heap.objs.size) (o := .dK []) (t' := s2.toks) (fun b o e => Heap.get?_push_of_some _ e) (Nat.le_refl _) (dk_empty s2.heap I2.big)
  have h3 : s3.heap = s2.heap.push { cls := .type "dict", data := .dict #[] } := by rw [← hs3]
  have sz : ∀ b ∈ fp, b < s2.heap.objs.size := fun b hb => by
    obtain ⟨o, e, _⟩ := T.obj _ _ st2 b hb
    exact Heap.lt_size e
  have f3 : ∀ b ∈ fp, FpOk X pins (upd H2 D (.dK [])) b ∧ b < s3.heap.objs.size := fun b hb => by
    have hlt := sz b hb
    refine ⟨⟨?_, (f2 b hb).2⟩, by rw [h3, Heap.size_push]; exact Nat.lt_succ_of_lt hlt⟩
    rw [upd_ne (by rw [← hD]; exact Nat.ne_of_lt hlt)]
    exact (f2 b hb).1
  have st3 : tn 0 s3.heap := T.keep _ _ _ st2 fun b _ o e => by rw [h3]; exact Heap.get?_push_of_some _ e
  have I4 := block_start I3 ok hN f3
  have pg := hg s3 (upd H2 D (.dK [])) s3.heap.objs.size (cellsFrom (s3.heap.objs.size + 1) scope.names (cloFrom X.env.cells scope.names [])) fp
  have pt := ht s3 (upd H2 D (.dK [])) s3.heap.objs.size (cellsFrom (s3.heap.objs.size + 1) scope.names (cloFrom X.env.cells scope.names [])) fp
  have pk := hk s3 (upd H2 D (.dK [])) s3.heap.objs.size (cellsFrom (s3.heap.objs.size + 1) scope.names (cloFrom X.env.cells scope.names [])) fp
  have pvl := hvl s3 (upd H2 D (.dK [])) s3.heap.objs.size (cellsFrom (s3.heap.objs.size + 1) scope.names (cloFrom X.env.cells scope.names [])) fp
  have pi1 := hi1 s3 (upd H2 D (.dK [])) s3.heap.objs.size (cellsFrom (s3.heap.objs.size + 1) scope.names (cloFrom X.env.cells scope.names [])) fp
  have pg1 := hg1 s3 (upd H2 D (.dK [])) s3.heap.objs.size (cellsFrom (s3.heap.objs.size + 1) scope.names (cloFrom X.env.cells scope.names [])) fp
  have pt1 := ht1 s3 (upd H2 D (.dK [])) s3.heap.objs.size (cellsFrom (s3.heap.objs.size + 1) scope.names (cloFrom X.env.cells scope.names [])) fp
  show codeAny _ _ (.compStart (.DictComp elt vlt [⟨tg, iter, ifs, 0⟩, ⟨tg1, iter1, ifs1, 0⟩] scope pos) 0 (.ref it) (.ref D) (compEnvC scope (cellsFrom (s3.heap.objs.size + 1) scope.names (cloFrom X.env.cells scope.names [])) s3.heap.objs.size X.env)) (compPost (model X.prog X.w) X.A X.xe use Qf (.ref D) s3.heap.objs.size) { s3 with heap := pushCells (s3.heap.push { cls := .type "dict", data := .dict #[] }) scope.names }
  have nfp : ∀ b ∈ fp, (upd H2 D (.dK [])) b = none := fun b hb => (f3 b hb).1.1
  generalize hce : compEnvC scope (cellsFrom (s3.heap.objs.size + 1) scope.names (cloFrom X.env.cells scope.names [])) s3.heap.objs.size X.env = ce at I4 pg pt pk pvl pi1 pg1 pt1 ⊢
  have cL : ce.locals = s3.heap.objs.size := by subst hce; rfl
  generalize hH3 : upd H2 D (.dK []) = H3 at I3 I4 pg pt pk pvl pi1 pg1 pt1 w0 nfp f3
  generalize hs4 : ({ s3 with heap := pushCells (s3.heap.push { cls := .type "dict", data := .dict #[] }) scope.names } : Shared) = s4 at I4 ⊢
  have st4 : tn 0 s4.heap := T.keep _ _ _ st3 fun b _ o e => by rw [← hs4]; exact pushCells_keeps _ _ _ _ (Heap.get?_push_of_some _ e)
  have stat : ∀ {σ' : St} {H' : Hp} {s' : Shared}, Inv (X.blk s3 H3 scope ce fp) [] σ' H' s' → (∀ b ∈ fp, H' b = none) → ∀ b ∈ fp, FpOk (X.blk s3 H3 scope ce fp) [] H' b := fun {σ' H' s'} I' hn b hb =>
    ⟨hn b hb, (I'.ok.exf b hb).1, I'.ok.exfs b hb, .inl hb, fun x c e => (I'.ok.exf b hb).2 x c e, fun p hp => absurd (show p ∈ ([] : List (Addr × Obj)) ++ [] from hp) (by simp)⟩
  have loop : codeAny (model X.prog X.w) X.A (.compLoop (.DictComp elt vlt [⟨tg, iter, ifs, 0⟩, ⟨tg1, iter1, ifs1, 0⟩] scope pos) 0 (.ref it) (.ref D) ce) (compPost (model X.prog X.w) X.A X.xe use Qf (.ref D) s3.heap.objs.size) s4 := by
    refine compLoopD2_out (hs1 ce) (fun n s' => ∃ i H', Inv (X.blk s3 H3 scope ce fp) [] (wipe σ (own.map (·.2))) H' s' ∧ tn i s'.heap ∧ (∀ b ∈ fp, H' b = none) ∧ W i n H') ?_ m0 ⟨0, H3, I4, st4, nfp, w0⟩
    rintro n s5 ⟨i, H5, I5, st5, n5, w5⟩
    rcases turn i n H5 w5 with ⟨stop, qq⟩ | ⟨go, Nx, hNx, step⟩
    · have td := T.done (X.blk s3 H3 scope ce fp) rfl rfl rfl hc i [] s5 _ H5 (fun _ _ => False) I5 (stat I5 n5) st5 stop
      refine thnF td fun r s6 ⟨hr, I6⟩ => ?_
      subst hr
      -- back in the def's context
      have I7 : Inv X pins σ H5 s6 := I3.call' (ch := fp) I6.os I6.base I6.hok I6.bare fun b hb => ⟨(f3 b hb).1.2.2.2.1, (f3 b hb).1.2.1, (f3 b hb).1.2.2.2.2.1, (f3 b hb).1.2.2.2.2.2⟩
      have nC : H5 s3.heap.objs.size = none := by
        have z : H5 ce.locals = none := I6.free
        rw [cL] at z
        exact z
      obtain ⟨m, hn, _⟩ := I6.loc
      have hn : s6.heap.Ns ce.locals m := hn
      rw [cL] at hn
      exact hRR D s3.heap.objs.size s6 m H5 I7 qq hn (I3.fpOk (Nat.le_refl _) nC)
    · have ti := T.item (X.blk s3 H3 scope ce fp) rfl rfl rfl hc i [] s5 _ H5 (fun _ _ => False) I5 (stat I5 n5) st5 go
      refine thnF ti fun r s6 ⟨u, hr, h6⟩ => ?_
      subst hr
      refine thnF h6 fun _ s7 ⟨x, H7, I7, r7, y7, st7, n7⟩ => ?_
      have I7' := I7.pinned (stat I7 n7) (T.obj _ _ st7)
      refine thnF (pg _ s7 _ H7 x u _ I7' r7 (step x H7 y7)) fun _ s8 ⟨σ8, H8, I8, hw8, q8⟩ => ?_
      refine thnF (pt _ s8 σ8 H8 _ I8 q8) fun b s9 ⟨H9, I9, q9⟩ => ?_
      -- the turn's end, from any slots that know what the block knew at its start
      have fin : ∀ {σ9 : St} {s' : Shared} {H' : Hp}, Inv (X.blk s3 H3 scope ce fp) ([] ++ pinsAt fp s7.heap) σ9 H' s' → (wipe σ (own.map (·.2))).length = σ9.length → (∀ (j : Nat) v, (wipe σ (own.map (·.2)))[j]? = some (some v) → σ9[j]? = some (some v)) → Nx H' →
          ∃ m, m < n ∧ ∃ i H', Inv (X.blk s3 H3 scope ce fp) [] (wipe σ (own.map (·.2))) H' s' ∧ tn i s'.heap ∧ (∀ b ∈ fp, H' b = none) ∧ W i m H' := fun {σ9 s' H'} I' hl hk nx => by
        obtain ⟨m', hm, w'⟩ := hNx H' nx
        have pin' : ∀ b ∈ fp, ∀ o, s7.heap.get? b = some o → s'.heap.get? b = some o ∧ H' b = none := fun b hb o e =>
          let z := I'.pin (b, o) (List.mem_append_right _ (List.mem_append_right _ (mem_pinsAt hb e)))
          ⟨z.1, z.2.1⟩
        refine ⟨m', hm, i + 1, H', (I'.unpinned (pins := [])).weak hl hk, T.keep _ _ _ st7 fun b hb o e => (pin' b hb o e).1, fun b hb => ?_, w'⟩
        obtain ⟨o, e, _⟩ := T.obj _ _ st7 b hb
        exact (pin' b hb o e).2
      have hl8 : (wipe σ (own.map (·.2))).length = σ8.length := by rw [← hw8, wipe_length]
      have hk8 : ∀ (j : Nat) v, (wipe σ (own.map (·.2)))[j]? = some (some v) → σ8[j]? = some (some v) := fun j v e => by
        rw [← hw8] at e
        exact (wipe_some e).1
      have hk9 : ∀ (j : Nat) v, (wipe σ (own.map (·.2)))[j]? = some (some v) → (wipe σ8 vs1)[j]? = some (some v) := fun j v e => by
        rw [← hw8] at e
        obtain ⟨e1, e2⟩ := wipe_some e
        rw [wipe_out fun z => e2 (hv j z)]
        exact e1
      cases b with
      | false =>
        simp only [Bool.false_eq_true, if_false] at q9 ⊢
        exact fin I9 hl8 hk8 q9
      | true =>
        simp only [if_true] at q9 ⊢
        refine thnF (pi1 _ s9 σ8 H9 _ I9 q9) fun xv s10 hx => thnF hx fun itv s11 h11 => ?_
        obtain ⟨it1, fp1, tn1, J1, H11, e1, I11, T1, st11, f11, W1, ⟨m1, w1⟩, turn1⟩ := h11
        subst e1
        -- the inner loop
        have stat1 : ∀ {H' : Hp}, (∀ b ∈ fp1, H' b = none) → ∀ b ∈ fp1, FpOk (X.blk s3 H3 scope ce fp) ([] ++ pinsAt fp s7.heap) H' b := fun hn b hb => ⟨hn b hb, (f11 b hb).2⟩
        have loop1 : codeAny (model X.prog X.w) X.A (.compLoop (.DictComp elt vlt [⟨tg, iter, ifs, 0⟩, ⟨tg1, iter1, ifs1, 0⟩] scope pos) 1 (.ref it1) (.ref D) ce)
            (fun r s' => match r with
              | .ok _ => ∃ m, m < n ∧ ∃ i H', Inv (X.blk s3 H3 scope ce fp) [] (wipe σ (own.map (·.2))) H' s' ∧ tn i s'.heap ∧ (∀ b ∈ fp, H' b = none) ∧ W i m H'
              | .error _ => False) s11 := by
          refine compLoopD2_in (fun k s' => ∃ j H', Inv (X.blk s3 H3 scope ce fp) ([] ++ pinsAt fp s7.heap) (wipe σ8 vs1) H' s' ∧ tn1 j s'.heap ∧ (∀ b ∈ fp1, H' b = none) ∧ W1 j k H') ?_ m1 ⟨0, H11, I11.weak (wipe_length _ _) (fun j v e => (wipe_some e).1), st11, fun b hb => (f11 b hb).1, w1⟩
          rintro k s12 ⟨j, H12, I12, st12, n12, w12⟩
          rcases turn1 j k H12 w12 with ⟨stop1, nx1⟩ | ⟨go1, Nx1, hNx1, step1⟩
          · refine thnF (T1.done (X.blk s3 H3 scope ce fp) rfl rfl rfl hc j _ s12 (wipe σ8 vs1) H12 (fun _ _ => False) I12 (stat1 n12) st12 stop1) fun r s13 ⟨hr, I13⟩ => ?_
            subst hr
            exact fin I13 (hl8.trans (wipe_length σ8 vs1).symm) hk9 nx1
          · refine thnF (T1.item (X.blk s3 H3 scope ce fp) rfl rfl rfl hc j _ s12 (wipe σ8 vs1) H12 (fun _ _ => False) I12 (stat1 n12) st12 go1) fun r s13 ⟨u1, hr, h13⟩ => ?_
            subst hr
            refine thnF h13 fun _ s14 ⟨x1, H14, I14, r14, y14, st14, n14⟩ => ?_
            have I14' := I14.pinned (stat1 n14) (T1.obj _ _ st14)
            refine thnF (pg1 _ s14 (wipe σ8 vs1) H14 x1 u1 _ I14' r14 (step1 x1 H14 y14)) fun _ s15 ⟨σ15, H15, I15, hw15, q15⟩ => ?_
            refine thnF (pt1 _ s15 σ15 H15 _ I15 q15) fun b1 s16 ⟨H16, I16, q16⟩ => ?_
            have fin1 : ∀ {s' : Shared} {H' : Hp}, Inv (X.blk s3 H3 scope ce fp) (([] ++ pinsAt fp s7.heap) ++ pinsAt fp1 s14.heap) σ15 H' s' → Nx1 H' → ∃ m, m < k ∧ ∃ j H', Inv (X.blk s3 H3 scope ce fp) ([] ++ pinsAt fp s7.heap) (wipe σ8 vs1) H' s' ∧ tn1 j s'.heap ∧ (∀ b ∈ fp1, H' b = none) ∧ W1 j m H' := fun {s' H'} I' nx => by
              obtain ⟨m', hm, w'⟩ := hNx1 H' nx
              have pin' : ∀ b ∈ fp1, ∀ o, s14.heap.get? b = some o → s'.heap.get? b = some o ∧ H' b = none := fun b hb o e =>
                let z := I'.pin (b, o) (List.mem_append_right _ (List.mem_append_right _ (mem_pinsAt hb e)))
                ⟨z.1, z.2.1⟩
              refine ⟨m', hm, j + 1, H', I'.unpinned.weak (by rw [← hw15, wipe_length]) (fun j v e => by rw [← hw15] at e; exact (wipe_some e).1), T1.keep _ _ _ st14 fun b hb o e => (pin' b hb o e).1, fun b hb => ?_, w'⟩
              obtain ⟨o, e, _⟩ := T1.obj _ _ st14 b hb
              exact (pin' b hb o e).2
            cases b1 with
            | false =>
              simp only [Bool.false_eq_true, if_false] at q16 ⊢
              exact fin1 I16 q16
            | true =>
              simp only [if_true] at q16 ⊢
              refine thnF (pk _ s16 σ15 H16 _ I16 q16) fun z s17 ⟨yv, H17, I17, r17, q17⟩ => ?_
              refine thnF (pvl _ s17 σ15 H17 _ I17 q17) fun z2 s17' ⟨zv, H17', I17', r17', acc, kk, ey, hD17, hz17, nx⟩ => ?_
              exact put_ok (X := X.blk s3 H3 scope ce fp) I17' hD17 hz17 (by rw [← ey]; exact r17) r17' fun s18 I18 => fin1 I18 nx
        exact compStartD1_ok loop1 (T1.self X.A 0 _ _ _ st11 loop1)
  exact codeAny_compStart_dict loop (T.self X.A 0 _ _ _ st4 loop)
/-- as a value -/
theorem pe_dc2 {elt vlt tg iter tg1 iter1 : Expr} {ifs ifs1 : List Expr} {scope : Scope} {own : List (Str × Nat)} {vs1 : List Nat} {pos : Pos} {wi wi1 : TI} {g g1 : TG} {tt tt1 : TT} {tk tv : TE} (hc : X.calm = true) (hN : X.N.Nodup) (hi : PI X tg iter wi) (ok : BlkOk X.N X.env.scope scope own) (hv : ∀ i ∈ vs1, i ∈ own.map (·.2))
    (hg : ∀ (s : Shared) (H : Hp) (C : Addr) (cl : List (Str × Addr)) (fp : List Addr), PG (X.blk s H scope (compEnvC scope cl C X.env) fp) tg g) (ht : ∀ (s : Shared) (H : Hp) (C : Addr) (cl : List (Str × Addr)) (fp : List Addr), PTs (X.blk s H scope (compEnvC scope cl C X.env) fp) ifs tt)
    (hi1 : ∀ (s : Shared) (H : Hp) (C : Addr) (cl : List (Str × Addr)) (fp : List Addr), PI (X.blk s H scope (compEnvC scope cl C X.env) fp) tg1 iter1 wi1)
    (hg1 : ∀ (s : Shared) (H : Hp) (C : Addr) (cl : List (Str × Addr)) (fp : List Addr), PG (X.blk s H scope (compEnvC scope cl C X.env) fp) tg1 g1) (ht1 : ∀ (s : Shared) (H : Hp) (C : Addr) (cl : List (Str × Addr)) (fp : List Addr), PTs (X.blk s H scope (compEnvC scope cl C X.env) fp) ifs1 tt1)
    (hk : ∀ (s : Shared) (H : Hp) (C : Addr) (cl : List (Str × Addr)) (fp : List Addr), PE (X.blk s H scope (compEnvC scope cl C X.env) fp) elt tk) (hvl : ∀ (s : Shared) (H : Hp) (C : Addr) (cl : List (Str × Addr)) (fp : List Addr), PE (X.blk s H scope (compEnvC scope cl C X.env) fp) vlt tv) (hs : ∀ x, foldedSetIterable iter X.env x = pure x := by intro _; rfl) (hs1 : ∀ env x, foldedSetIterable iter1 env x = pure x := by intro _ _; rfl) :
    PE X (.DictComp elt vlt [⟨tg, iter, ifs, 0⟩, ⟨tg1, iter1, ifs1, 0⟩] scope pos) (tDc2 wi g tt wi1 g1 tt1 tk tv (own.map (·.2)) vs1) := by
  intro pins s σ H Q I h
  show wpAny _ X.A (comprehension (.DictComp elt vlt [⟨tg, iter, ifs, 0⟩, ⟨tg1, iter1, ifs1, 0⟩] scope pos) scope X.env (firstIterPos [⟨tg, iter, ifs, 0⟩, ⟨tg1, iter1, ifs1, 0⟩] pos) newDict false (eval iter X.env)) _ _ s
  refine dc2_core hc hN I hi ok hv hg ht hk hvl hs hi1 hg1 ht1 hs1 h fun D C s' m H' I' q hn f => ⟨m, hn, fun h'' sb => ?_⟩
  obtain ⟨f0, f1, f2, f3, f4, f5⟩ := f
  exact ⟨.ref D, H', I'.turned (t' := s'.toks) (fun b o hb e => (sb.2 b hb).trans e) f0 f1 f3 f4 f5, rfl, q⟩
end
end L2


set_option Elab.async false
set_option linter.all false
set_option maxRecDepth 100000
set_option maxHeartbeats 1000000
namespace DL
open PySem PySem.Spec L2
/-! ### a dict that is just made stands still from here on -/
def tFrzD (te : TE) : TE := fun σ H Q => te σ H fun v H1 => ∃ a u, v = .ref a ∧ H1 a = some u ∧ Mut (some u) ∧ ∀ od, Q v (upd H1 a (.frz od u))
theorem pe_frzD {X : Cx} {e : Expr} {te : TE} (h : PE X e te) : PE X e (tFrzD te) := by
  intro pins s σ H Q I hw
  refine thn (h pins s σ H _ I hw) fun v s1 ⟨x, H1, I1, r, a, u, ex, hu, mu, q⟩ => ?_
  obtain ⟨od, I2⟩ := I1.lock hu mu
  exact ⟨x, _, I2, r, q od⟩
/-! ### dicts as tables of data -/
def keyOf : PyData → Option Key
  | .int i => some (.inl i)
  | .str x => some (.inr x)
  | _ => none
theorem keyOf_keyD (k : Key) : keyOf (keyD k) = some k := by cases k <;> rfl
theorem dq_key {K : PySem.W.Frag} {H : Hp} {v : V} {d : PyData} {k : Key} (h : Dq K H v d) (e : keyOf d = some k) : v = kV k := by
  cases h <;> simp only [keyOf] at e <;> cases e <;> rfl
section
variable {α : Type}
def putP (ps : List (Key × α)) (k : Key) (d : α) : List (Key × α) :=
  if (ps.any fun p => decide (p.1 = k)) = true then ps.map (fun p => if p.1 = k then (p.1, d) else p) else ps ++ [(k, d)]
def valP (ps : List (Key × α)) (k : Key) : Option α := (ps.find? fun p => decide (p.1 = k)).map (·.2)
def foldP (ps : List (Key × α)) : List (Key × α) := ps.foldl (fun acc p => putP acc p.1 p.2) []
theorem foldP_snoc (ps : List (Key × α)) (k : Key) (d : α) : foldP (ps ++ [(k, d)]) = putP (foldP ps) k d := by
  unfold foldP; rw [List.foldl_append]; rfl
theorem putP_len (ps : List (Key × α)) (k : Key) (d : α) : (putP ps k d).length ≤ ps.length + 1 := by
  unfold putP
  split
  · rw [List.length_map]; omega
  · rw [List.length_append, List.length_singleton]; omega
theorem foldl_len (ps : List (Key × α)) : ∀ acc : List (Key × α), (ps.foldl (fun acc p => putP acc p.1 p.2) acc).length ≤ acc.length + ps.length := by
  induction ps with
  | nil => intro acc; exact Nat.le_refl _
  | cons p ps ih =>
    intro acc
    have h1 := ih (putP acc p.1 p.2)
    have h2 := putP_len acc p.1 p.2
    rw [List.foldl_cons, List.length_cons]
    omega
theorem foldP_len (ps : List (Key × α)) : (foldP ps).length ≤ ps.length := by
  have := foldl_len ps []
  simpa [foldP] using this
end
def dk (ps : List (Key × PyData)) : PyData := .dict (ps.map fun p => (keyD p.1, p.2))
def undk : List (PyData × PyData) → Option (List (Key × PyData))
  | [] => some []
  | (k, d) :: r => match keyOf k, undk r with
    | some k, some ps => some ((k, d) :: ps)
    | _, _ => none
theorem undk_dk : ∀ ps : List (Key × PyData), undk (ps.map fun p => (keyD p.1, p.2)) = some ps
  | [] => rfl
  | (k, d) :: ps => by rw [List.map_cons]; unfold undk; simp only [keyOf_keyD, undk_dk ps]
def pairsOf : List PyData → Option (List (Key × PyData))
  | [] => some []
  | .tuple [k, d] :: r => (match keyOf k, pairsOf r with
    | some k, some ps => some ((k, d) :: ps)
    | _, _ => none)
  | _ :: _ => none
theorem pairsOf_cons {y : PyData} {r : List PyData} {ps : List (Key × PyData)} (h : pairsOf (y :: r) = some ps) : ∃ kd k d qs, y = .tuple [kd, d] ∧ keyOf kd = some k ∧ pairsOf r = some qs ∧ ps = (k, d) :: qs := by
  unfold pairsOf at h
  split at h
  · rename_i e; cases e
  · rename_i k d r' e
    cases e
    split at h
    · rename_i k' ps' e1 e2
      cases h
      exact ⟨k, k', d, ps', rfl, e1, e2, rfl⟩
    · cases h
  · cases h
theorem pairsOf_app : ∀ {a b : List PyData} {ps : List (Key × PyData)}, pairsOf (a ++ b) = some ps → ∃ p q, pairsOf a = some p ∧ pairsOf b = some q ∧ ps = p ++ q
  | [], b, ps, h => ⟨[], ps, rfl, h, rfl⟩
  | y :: a, b, ps, h => by
    obtain ⟨kd, k, d, qs, e1, e2, e3, e4⟩ := pairsOf_cons h
    obtain ⟨p, q, h1, h2, h3⟩ := pairsOf_app e3
    subst e1
    refine ⟨(k, d) :: p, q, ?_, h2, by rw [e4, h3]; rfl⟩
    unfold pairsOf
    simp only [e2, h1]
theorem pairsOf_len : ∀ {a : List PyData} {ps : List (Key × PyData)}, pairsOf a = some ps → ps.length = a.length
  | [], _, h => by cases h; rfl
  | y :: a, ps, h => by
    obtain ⟨kd, k, d, qs, e1, e2, e3, e4⟩ := pairsOf_cons h
    rw [e4, List.length_cons, List.length_cons, pairsOf_len e3]
inductive KvOk (K : PySem.W.Frag) (H : Hp) : List (Key × V) → List (Key × PyData) → Prop
  | nil : KvOk K H [] []
  | cons {k : Key} {v : V} {d : PyData} {kv : List (Key × V)} {ps : List (Key × PyData)} (h : Dq K H v d) (r : KvOk K H kv ps) : KvOk K H ((k, v) :: kv) ((k, d) :: ps)
section
variable {K : PySem.W.Frag} {H H' : Hp}
theorem KvOk.mono (s : Same H H') : ∀ {kv ps}, KvOk K H kv ps → KvOk K H' kv ps
  | _, _, .nil => .nil
  | _, _, .cons h r => .cons (dp_mono s h) (r.mono s)
theorem KvOk.len : ∀ {kv ps}, KvOk K H kv ps → kv.length = ps.length
  | _, _, .nil => rfl
  | _, _, .cons _ r => by rw [List.length_cons, List.length_cons, r.len]
theorem KvOk.any (k : Key) : ∀ {kv ps}, KvOk K H kv ps → (kv.any fun p => decide (p.1 = k)) = (ps.any fun p => decide (p.1 = k))
  | _, _, .nil => rfl
  | _, _, .cons _ r => by rw [List.any_cons, List.any_cons, r.any k]
theorem KvOk.map (k : Key) {v : V} {d : PyData} (h : Dq K H v d) : ∀ {kv ps}, KvOk K H kv ps → KvOk K H (kv.map fun p => if p.1 = k then (p.1, v) else p) (ps.map fun p => if p.1 = k then (p.1, d) else p)
  | _, _, .nil => .nil
  | _, _, .cons (k := k') g r => by
    rw [List.map_cons, List.map_cons]
    by_cases e : k' = k
    · simp only [e, if_true]; exact .cons h (r.map k h)
    · simp only [e, if_false]; exact .cons g (r.map k h)
theorem KvOk.snoc (k : Key) {v : V} {d : PyData} (h : Dq K H v d) : ∀ {kv ps}, KvOk K H kv ps → KvOk K H (kv ++ [(k, v)]) (ps ++ [(k, d)])
  | _, _, .nil => .cons h .nil
  | _, _, .cons g r => .cons g (r.snoc k h)
theorem KvOk.put {kv ps} (r : KvOk K H kv ps) (k : Key) {v : V} {d : PyData} (h : Dq K H v d) : KvOk K H (putK kv k v) (putP ps k d) := by
  unfold putK putP
  rw [r.any k]
  split
  · exact r.map k h
  · exact r.snoc k h
theorem KvOk.val (k : Key) : ∀ {kv ps}, KvOk K H kv ps → ∀ {d : PyData}, valP ps k = some d → ∃ v, valV kv k = some v ∧ Dq K H v d
  | _, _, .nil, d, e => by cases e
  | _, _, .cons (k := k') (v := v') (d := d') (kv := kv) (ps := ps) g r, d, e => by
    by_cases z : k' = k
    · have e1 : valP ((k', d') :: ps) k = some d' := by simp [valP, List.find?_cons, z]
      rw [e1] at e; cases e
      exact ⟨v', valV_pos z, g⟩
    · have e1 : valP ((k', d') :: ps) k = valP ps k := by simp [valP, List.find?_cons, z]
      rw [e1] at e
      obtain ⟨v, h1, h2⟩ := r.val k e
      exact ⟨v, by rw [valV_neg z]; exact h1, h2⟩
theorem KvOk.isSome (k : Key) {kv ps} (r : KvOk K H kv ps) : (valV kv k).isSome = (valP ps k).isSome := by
  rw [← valV_any, r.any k]
  unfold valP
  rw [Option.isSome_map]
  clear r
  induction ps with
  | nil => rfl
  | cons p ps ih =>
    rw [List.any_cons, List.find?_cons]
    cases decide (p.1 = k) with
    | true => rfl
    | false => exact ih
theorem KvOk.dq {a : Addr} {o : Obj} {kv ps} (r : KvOk K H kv ps) (h : H a = some (.frz o (.dK kv))) : Dq K H (.ref a) (dk ps) := by
  have key : ∀ {kv ps}, KvOk K H kv ps → DqAll K H (kv.map (·.2)) (ps.map (·.2)) ∧ (kv.map fun p => keyD p.1).zip (ps.map (·.2)) = ps.map fun p => (keyD p.1, p.2) := by
    intro kv ps r
    induction r with
    | nil => exact ⟨.nil, rfl⟩
    | cons h r ih => exact ⟨.cons h ih.1, by simp only [List.map_cons, List.zip_cons_cons]; rw [ih.2]⟩
  obtain ⟨h1, h2⟩ := key r
  have := Dq.dct h h1
  rw [h2] at this
  exact this
theorem undk_dn (ks : List NK.TK) : undk ((.none, .none) :: ks.map fun k => (tkD k, PyData.bool true)) = none := by
  unfold undk; rfl
theorem dq_dict {x : V} {qs : List (PyData × PyData)} (h : Dq K H x (.dict qs)) (hu : (undk qs).isSome = true) : ∃ a o kv ps, x = .ref a ∧ H a = some (.frz o (.dK kv)) ∧ KvOk K H kv ps ∧ undk qs = some ps := by
  cases h with
  | dcn _ _ _ _ => rw [undk_dn] at hu; cases hu
  | @dct a o kv ds h r =>
    have key : ∀ (kv : List (Key × V)) (ds : List PyData), DqAll K H (kv.map (·.2)) ds → ∃ ps, KvOk K H kv ps ∧ undk ((kv.map fun p => keyD p.1).zip ds) = some ps := by
      intro kv
      induction kv with
      | nil => intro ds r; cases r; exact ⟨[], .nil, rfl⟩
      | cons p kv ih =>
        intro ds r
        cases r with
        | @cons v vs d ds' h r =>
          obtain ⟨ps, h1, h2⟩ := ih ds' r
          refine ⟨(p.1, d) :: ps, .cons h h1, ?_⟩
          rw [List.map_cons, List.zip_cons_cons]
          unfold undk
          simp only [keyOf_keyD, h2]
    obtain ⟨ps, h1, h2⟩ := key kv ds r
    exact ⟨a, o, kv, ps, rfl, h, h1, h2⟩
/-- what is stored so far -/
def DkOk (K : PySem.W.Frag) (H : Hp) (kv : List (Key × V)) (acc : List PyData) : Prop := ∃ ps, pairsOf acc = some ps ∧ KvOk K H kv (foldP ps)
theorem dkOk_nil : DkOk K H [] [] := ⟨[], rfl, .nil⟩
theorem dkOk_mono {kv : List (Key × V)} {acc : List PyData} (s : Same H H') (h : DkOk K H kv acc) : DkOk K H' kv acc := let ⟨ps, h1, h2⟩ := h; ⟨ps, h1, h2.mono s⟩
theorem dkOk_len {kv : List (Key × V)} {acc : List PyData} (h : DkOk K H kv acc) : kv.length ≤ acc.length := by
  obtain ⟨ps, h1, h2⟩ := h
  rw [h2.len, ← pairsOf_len h1]
  exact foldP_len ps
theorem dkOk_snoc {kv : List (Key × V)} {acc : List PyData} {kd d : PyData} {k : Key} {v : V} (h : DkOk K H kv acc) (hk : keyOf kd = some k) (hv : Dq K H v d) : DkOk K H (putK kv k v) (acc ++ [.tuple [kd, d]]) := by
  obtain ⟨ps, h1, h2⟩ := h
  refine ⟨ps ++ [(k, d)], ?_, by rw [foldP_snoc]; exact h2.put k hv⟩
  clear h2
  induction acc generalizing ps with
  | nil =>
    cases h1
    show pairsOf [PyData.tuple [kd, d]] = _
    unfold pairsOf
    simp only [hk]
    rfl
  | cons y acc ih =>
    obtain ⟨kd', k', d', qs, e1, e2, e3, e4⟩ := pairsOf_cons h1
    subst e1 e4
    rw [List.cons_append]
    unfold pairsOf
    simp only [e2, ih qs e3]
    rfl
end
/-! ### new things of one's own, of any kind -/
section
variable {K : PySem.W.Frag} {Out M : List Addr} {σ : St} {H H' : Hp} {ρ : List En}
theorem TbOk.newO (t : TbOk K M H) {p : Addr} (h : H p = none) (o : HO) (n1 : ∀ ps, o ≠ .tbl ps) (n2 : ∀ a b, o ≠ .frz a b) : TbOk K (p :: M) (upd H p o) := ⟨fun a m ps e => by
  by_cases z : a = p
  · subst z; rw [upd_same] at e; exact n1 _ (Option.some.inj e)
  · rw [upd_ne z] at e
    rcases List.mem_cons.mp m with w | w
    · exact z w
    · exact t.no a w ps e, fun a m ob u e => by
  by_cases z : a = p
  · subst z; rw [upd_same] at e; exact n2 _ _ (Option.some.inj e)
  · rw [upd_ne z] at e
    rcases List.mem_cons.mp m with w | w
    · exact z w
    · exact t.nf a w ob u e, fun x hx c P e => let ⟨ps, q, r, k⟩ := t.tb x hx c P e; ⟨ps, by rw [upd_ne (ne_of_none q h)]; exact q, r, k.mono fun c o u z => by rw [upd_ne (ne_of_none z h)]; exact z⟩⟩
theorem TbOk.putO (t : TbOk K M H) {a : Addr} (m : a ∈ M) (o : HO) (n1 : ∀ ps, o ≠ .tbl ps) (n2 : ∀ a b, o ≠ .frz a b) : TbOk K M (upd H a o) := ⟨fun b w ps e => by
  by_cases z : b = a
  · subst z; rw [upd_same] at e; exact n1 _ (Option.some.inj e)
  · rw [upd_ne z] at e; exact t.no b w ps e, fun b w ob u e => by
  by_cases z : b = a
  · subst z; rw [upd_same] at e; exact n2 _ _ (Option.some.inj e)
  · rw [upd_ne z] at e; exact t.nf b w ob u e, fun x hx c P e => let ⟨ps, q, r, k⟩ := t.tb x hx c P e; ⟨ps, by rw [upd_ne fun z => t.no a m ps (by rw [← z]; exact q)]; exact q, r, k.mono fun c o u y => by rw [upd_ne fun z => t.nf a m o u (by rw [← z]; exact y)]; exact y⟩⟩
theorem FrD.ownNew (F : FrD K Out M σ H ρ) {p : Addr} (h : H p = none) (o : HO) (n1 : ∀ ps, o ≠ .tbl ps) (n2 : ∀ a b, o ≠ .frz a b) : FrD K Out (p :: M) σ (upd H p o) ρ where
  len := F.len
  dat := fun i d q => let ⟨v, e, q⟩ := F.dat i d q; ⟨v, e, by rw [hid_new h]; exact q⟩
  cel := fun i xs q => let ⟨a, vs, e, m, o, q, r⟩ := F.cel i xs q; ⟨a, vs, e, List.mem_cons_of_mem _ m, o, by rw [upd_ne (ne_of_none q h)]; exact q, by rw [hid_new h]; exact r⟩
  inj := F.inj
  out := fun a q => List.mem_cons_of_mem _ (F.out a q)
  live := fun a q e => by
    rcases List.mem_cons.mp q with z | z
    · subst z; rw [upd_same] at e; cases e
    · by_cases w : a = p
      · subst w; rw [upd_same] at e; cases e
      · rw [upd_ne w] at e; exact F.live a z e
  tab := F.tab.newO h o n1 n2
theorem FrD.extOwn (F : FrD K Out M σ H ρ) {p : Addr} (h : H p = none) (o : HO) : Ext Out M H (p :: M) (upd H p o) :=
  ⟨by rw [hid_new h]; exact Same.refl _, fun a q => upd_ne fun z => F.live a (F.out a q) (by rw [z]; exact h)⟩
/-- a guarded thing of one's own changes -/
theorem FrD.ownPut {D : Addr} (F : FrD K (D :: Out) M σ H ρ) (o : HO) (n1 : ∀ ps, o ≠ .tbl ps) (n2 : ∀ a b, o ≠ .frz a b) : FrD K (D :: Out) M σ (upd H D o) ρ := by
  have mD : D ∈ M := F.out D List.mem_cons_self
  refine ⟨F.len, fun j d z => ?_, fun j us z => ?_, F.inj, F.out, fun b hb z => ?_, F.tab.putO mD o n1 n2⟩
  · rw [hid_mut mD]; exact F.dat j d z
  · obtain ⟨a, ws, ea', m', o', h', d'⟩ := F.cel j us z
    refine ⟨a, ws, ea', m', o', ?_, by rw [hid_mut mD]; exact d'⟩
    rw [upd_ne fun w => o' (by rw [w]; exact List.mem_cons_self)]
    exact h'
  · by_cases w : b = D
    · subst w; rw [upd_same] at z; cases z
    · rw [upd_ne w] at z; exact F.live b hb z
end
end DL


set_option Elab.async false
set_option linter.all false
set_option maxRecDepth 100000
set_option maxHeartbeats 1000000
namespace DL
open PySem PySem.Spec L2
/-! ### {.. : .. for .. in .. for .. in ..}, a dict that stands still -/
def fPr (fk fv : FE) : FE := fun ρ => match fk ρ with
  | some (.dat k, ρ1) => (match fv ρ1 with
    | some (.dat v, ρ2) => some (.dat (.tuple [k, v]), ρ2)
    | _ => none)
  | _ => none
def fDc2 (vs vs1 : List Nat) (fi : FI) (g : FG) (ft : FT) (fi1 : FI) (g1 : FG) (ft1 : FT) (fk fv : FE) : FE := fun ρ => match fi ρ with
  | some (items, ρ1) => if noCel vs ρ1 then (match fLc2Go vs vs1 g ft fi1 g1 ft1 (fPr fk fv) items (wipeE ρ1 vs) with
    | some (ys, ρ2) => if ys.length < 100000 then (match pairsOf ys with
      | some ps => some (.dat (dk (foldP ps)), restE ρ1 ρ2 vs)
      | none => none) else none
    | none => none) else none
  | none => none
/-! ### a thing of one's own is let go, changed to one that stands still -/
section
variable {K : PySem.W.Frag} {Out M : List Addr} {σ : St} {H : Hp} {ρ : List En} {a : Addr} {o : HO}
theorem same_dropO (m : a ∈ M) : Same (hid M H) (hid (M.filter (fun b => decide (b ≠ a))) (upd H a o)) := by
  have h1 : hid M (upd H a o) = hid M H := hid_mut m
  rw [← h1]
  exact hid_anti fun b h => (List.mem_filter.mp h).1
theorem Ext.dropO (m : a ∈ M) (ho : a ∉ Out) : Ext Out M H (M.filter (fun b => decide (b ≠ a))) (upd H a o) :=
  ⟨same_dropO m, fun b hb => upd_ne fun z => ho (by rw [← z]; exact hb)⟩
theorem TbOk.dropO (t : TbOk K M H) (m : a ∈ M) (n1 : ∀ ps, o ≠ .tbl ps) : TbOk K (M.filter (fun b => decide (b ≠ a))) (upd H a o) := by
  have ne : ∀ {b}, b ∈ M.filter (fun b => decide (b ≠ a)) → b ≠ a := fun h => of_decide_eq_true (List.mem_filter.mp h).2
  refine ⟨fun b w ps e => ?_, fun b w ob u e => ?_, fun x hx c P e => ?_⟩
  · rw [upd_ne (ne w)] at e; exact t.no b (List.mem_filter.mp w).1 ps e
  · rw [upd_ne (ne w)] at e; exact t.nf b (List.mem_filter.mp w).1 ob u e
  · obtain ⟨ps, q, r, k⟩ := t.tb x hx c P e
    exact ⟨ps, by rw [upd_ne fun z => t.no a m ps (by rw [← z]; exact q)]; exact q, r, k.mono fun c o u y => by rw [upd_ne fun z => t.nf a m o u (by rw [← z]; exact y)]; exact y⟩
theorem FrD.dropO (F : FrD K Out M σ H ρ) (ho : a ∉ Out) (hs : ∀ (i : Nat) ys, ρ[i]? = some (En.cel ys) → σ[i]? ≠ some (some (V.ref a))) (m : a ∈ M) (o : HO) (n1 : ∀ ps, o ≠ .tbl ps) : FrD K Out (M.filter (fun b => decide (b ≠ a))) σ (upd H a o) ρ where
  len := F.len
  dat := fun i d q => let ⟨v, e, q⟩ := F.dat i d q; ⟨v, e, dp_mono (same_dropO m) q⟩
  cel := fun i xs q => by
    obtain ⟨b, vs, e, m', o', q', r⟩ := F.cel i xs q
    have ne : b ≠ a := fun z => hs i xs q (by rw [e, z])
    exact ⟨b, vs, e, List.mem_filter.mpr ⟨m', decide_eq_true ne⟩, o', by rw [upd_ne ne]; exact q', dpAll_mono (same_dropO m) r⟩
  inj := F.inj
  out := fun b q => List.mem_filter.mpr ⟨F.out b q, decide_eq_true fun z => ho (by rw [← z]; exact q)⟩
  live := fun b q e => by
    rw [upd_ne (of_decide_eq_true (List.mem_filter.mp q).2)] at e
    exact F.live b (List.mem_filter.mp q).1 e
  tab := F.tab.dropO m n1
end
section
variable {X : Cx} {P : Nat} {wi wi1 : TI} {g g1 : TG} {tt tt1 : TT} {tk tvl : TE} {fi fi1 : FI} {fg fg1 : FG} {ft ft1 : FT} {fk fvl : FE} {tv tv1 : List Nat} {pos : Pos}
theorem se_dc2 {K : PySem.W.Frag} {vs vs1 : List Nat} (hi : SI K P wi fi) (hg : SG K P g fg tv) (ht : STt K P tt ft) (hi1 : SI K P wi1 fi1) (hg1 : SG K P g1 fg1 tv1) (ht1 : STt K P tt1 ft1) (hk : SE K P tk fk) (hvl : SE K P tvl fvl)
    (hv : ∀ i ∈ tv, i ∈ vs) (hv1 : ∀ i ∈ tv1, i ∈ vs1) (hvv : ∀ i ∈ vs1, i ∈ vs) : SE K P (tFrzD (tDc2 wi g tt wi1 g1 tt1 tk tvl vs vs1)) (fDc2 vs vs1 fi fg ft fi1 fg1 ft1 fk fvl) := by
  intro Out M σ H ρ r ρ' Q F e q
  unfold fDc2 at e
  split at e
  · rename_i items ρ1 e1
    split at e
    · rename_i nc
      split at e
      · rename_i ys ρ2 e2
        split at e
        · rename_i hlen
          split at e
          rotate_left
          · cases e
          rename_i prs eprs
          cases e
          refine hi Out M σ H ρ items ρ1 _ F e1 fun J M1 H1 F1 X1 k1 it D hD => ?_
          have F1w := F1.wipe vs
          have F2 := F1w.ownNew hD (.dK []) (fun _ z => nomatch z) (fun _ _ z => nomatch z)
          have X2 := F1w.extOwn hD (.dK [])
          have gd := F2.guard (a := D) List.mem_cons_self fun i zs z w => by
            obtain ⟨a, us, ea, m, _⟩ := F1w.cel i zs z
            rw [w] at ea
            cases ea
            exact F1w.live D m hD
          have wk : ∀ {A : List Addr} {G : Hp} {B : List Addr} {G' : Hp}, Ext (D :: Out) A G B G' → Ext Out A G B G' := fun z => z.weak fun b hb => List.mem_cons_of_mem _ hb
          refine ⟨fun i m Hi => ∃ Mi ρi acc vacc zs, FrD K (D :: Out) Mi (wipe σ vs) Hi ρi ∧ Ext Out M1 H1 Mi Hi ∧ Same (hid M1 H1) (hid Mi Hi) ∧ Kd P (wipeE ρ1 vs) ρi ∧ Hi D = some (.dK vacc) ∧ DkOk K (hid Mi Hi) vacc acc ∧ fLc2Go vs vs1 fg ft fi1 fg1 ft1 (fPr fk fvl) (items.drop i) ρi = some (zs, ρ2) ∧ acc ++ zs = ys ∧ i ≤ items.length ∧ m = items.length - i,
            ⟨items.length, D :: M1, _, [], [], ys, gd, X2, X2.same, .refl _ _, upd_same, dkOk_nil, e2, rfl, Nat.zero_le _, rfl⟩, ?_⟩
          rintro i m Hi ⟨Mi, ρi, acc, vacc, zs, Fi, Xi, si, ki, hDi, da, ei, ea, hi', rfl⟩
          obtain ⟨go, stop⟩ := it Mi Hi Fi.live si
          by_cases hlt : i < items.length
          · have ed : items.drop i = items[i] :: items.drop (i + 1) := List.drop_eq_getElem_cons hlt
            rw [ed] at ei
            unfold fLc2Go at ei
            obtain ⟨g1', g2⟩ := go i items[i] (List.getElem?_eq_getElem hlt)
            split at ei
            · cases ei
            rename_i ρ3 e3
            refine .inr ⟨g1', fun H' => ∃ M' ρ' acc vacc zs, FrD K (D :: Out) M' (wipe σ vs) H' ρ' ∧ Ext Out M1 H1 M' H' ∧ Same (hid M1 H1) (hid M' H') ∧ Kd P (wipeE ρ1 vs) ρ' ∧ H' D = some (.dK vacc) ∧ DkOk K (hid M' H') vacc acc ∧ fLc2Go vs vs1 fg ft fi1 fg1 ft1 (fPr fk fvl) (items.drop (i + 1)) ρ' = some (zs, ρ2) ∧ acc ++ zs = ys, ?_, fun x H3 y => ?_⟩
            · rintro H' ⟨M', ρ', acc', vacc', zs', F', X', s', k', d', da', e', ea'⟩
              exact ⟨items.length - (i + 1), by omega, M', ρ', acc', vacc', zs', F', X', s', k', d', da', e', ea', by omega, rfl⟩
            · obtain ⟨s3, d3⟩ := g2 x H3 y
              have F3 := Fi.grow s3
              have X3 := Fi.ext s3
              have hD3 : H3 D = some (.dK vacc) := s3 _ _ hDi
              refine hg (D :: Out) Mi (wipe σ vs) H3 ρi x items[i] ρ3 _ F3 d3 e3 fun σ4 F4 p4 o4 l4 => ⟨?_, ?_⟩
              · rw [← wipe_wipe σ vs]
                exact wipe_eq l4 fun j hj => o4 j fun z => hj (hv j z)
              have ew : wipe σ4 vs = wipe σ vs := by
                rw [← wipe_wipe σ vs]
                exact wipe_eq l4 fun j hj => o4 j fun z => hj (hv j z)
              split at ei
              · rename_i ρ5 e5
                split at ei
                · rename_i items1 ρ6 e6
                  split at ei
                  · rename_i nc6
                    split at ei
                    · rename_i ys1 ρ7 e7
                      split at ei
                      · rename_i nc7
                        split at ei
                        · rename_i zs1 ρ8 e8
                          cases ei
                          refine ht (D :: Out) Mi σ4 H3 ρ3 _ ρ5 _ F4 e5 fun M5 H5 F5 X5 k5 => iteT ?_
                          refine hi1 (D :: Out) M5 σ4 H5 ρ5 items1 ρ6 _ F5 e6 fun J1 M6 H6 F6 X6 k6 it1 => ?_
                          have hD6 : H6 D = some (.dK vacc) := by rw [X6.out D List.mem_cons_self, X5.out D List.mem_cons_self]; exact hD3
                          have sA : Same (hid Mi Hi) (hid M6 H6) := (X3.same.trans X5.same).trans X6.same
                          have Xa : Ext Out M1 H1 M6 H6 := ((Xi.trans (wk X3)).trans (wk X5)).trans (wk X6)
                          have ka : Kd P (wipeE ρ1 vs) (wipeE ρ6 vs1) := ki.trans (p4.kd.trans (k5.trans (k6.trans (kd_wipe nc6))))
                          refine ⟨fun j k Hj => ∃ Mj ρj acc1 vacc1 yz, FrD K (D :: Out) Mj (wipe σ4 vs1) Hj ρj ∧ Ext Out M1 H1 Mj Hj ∧ Same (hid M6 H6) (hid Mj Hj) ∧ Kd P (wipeE ρ1 vs) ρj ∧ Hj D = some (.dK vacc1) ∧ DkOk K (hid Mj Hj) vacc1 acc1 ∧ fLcGo vs1 fg1 ft1 (fPr fk fvl) (items1.drop j) ρj = some (yz, ρ7) ∧ acc1 ++ yz = acc ++ ys1 ∧ j ≤ items1.length ∧ k = items1.length - j,
                            ⟨items1.length, M6, _, acc, vacc, ys1, F6.wipe vs1, Xa, Same.refl _, ka, hD6, dkOk_mono sA da, e7, rfl, Nat.zero_le _, rfl⟩, ?_⟩
                          rintro j k Hj ⟨Mj, ρj, acc1, vacc1, yz, Fj, Xj, sj, kj, hDj, dj, ej, eaj, hj', rfl⟩
                          obtain ⟨go1, stop1⟩ := it1 Mj Hj Fj.live sj
                          by_cases hlt1 : j < items1.length
                          · have ed1 : items1.drop j = items1[j] :: items1.drop (j + 1) := List.drop_eq_getElem_cons hlt1
                            rw [ed1] at ej
                            unfold fLcGo at ej
                            obtain ⟨h1, h2⟩ := go1 j items1[j] (List.getElem?_eq_getElem hlt1)
                            split at ej
                            · cases ej
                            rename_i ρa ea3
                            refine .inr ⟨h1, fun H' => ∃ M' ρ' acc1 vacc1 yz, FrD K (D :: Out) M' (wipe σ4 vs1) H' ρ' ∧ Ext Out M1 H1 M' H' ∧ Same (hid M6 H6) (hid M' H') ∧ Kd P (wipeE ρ1 vs) ρ' ∧ H' D = some (.dK vacc1) ∧ DkOk K (hid M' H') vacc1 acc1 ∧ fLcGo vs1 fg1 ft1 (fPr fk fvl) (items1.drop (j + 1)) ρ' = some (yz, ρ7) ∧ acc1 ++ yz = acc ++ ys1, ?_, fun x1 Ha y1 => ?_⟩
                            · rintro H' ⟨M', ρ', acc', vacc', yz', F', X', s', k', d', da', e', ea'⟩
                              exact ⟨items1.length - (j + 1), by omega, M', ρ', acc', vacc', yz', F', X', s', k', d', da', e', ea', by omega, rfl⟩
                            · obtain ⟨sa, da1⟩ := h2 x1 Ha y1
                              have Fa := Fj.grow sa
                              have Xa' := Fj.ext sa
                              have hDa : Ha D = some (.dK vacc1) := sa _ _ hDj
                              refine hg1 (D :: Out) Mj (wipe σ4 vs1) Ha ρj x1 items1[j] ρa _ Fa da1 ea3 fun σb Fb pb ob lb => ⟨?_, ?_⟩
                              · rw [← wipe_wipe σ4 vs1]
                                exact wipe_eq lb fun j' hj1 => ob j' fun z => hj1 (hv1 j' z)
                              have ewb : wipe σb vs1 = wipe σ4 vs1 := by
                                rw [← wipe_wipe σ4 vs1]
                                exact wipe_eq lb fun j' hj1 => ob j' fun z => hj1 (hv1 j' z)
                              split at ej
                              · rename_i ρb eb
                                split at ej
                                · rename_i y' ρc ec
                                  split at ej
                                  · rename_i ncc
                                    split at ej
                                    · rename_i ys' ρd edd
                                      cases ej
                                      refine ht1 (D :: Out) Mj σb Ha ρa _ ρb _ Fb eb fun Mb Hb Fbb Xb kb => iteT ?_
                                      unfold fPr at ec
                                      split at ec
                                      rotate_left
                                      · cases ec
                                      rename_i kd ρk ek
                                      split at ec
                                      rotate_left
                                      · cases ec
                                      rename_i vd ρv evv
                                      cases ec
                                      refine hk (D :: Out) Mb σb Hb ρb _ ρk _ Fbb ek fun kv Mk Hk Fk Xk kk ok => ?_
                                      refine hvl (D :: Out) Mk σb Hk ρk _ ρc _ Fk evv fun v Mc Hc Fc Xc' kc' oc => ?_
                                      have Xc := Xk.trans Xc'
                                      have kc := kk.trans kc'
                                      have hDc : Hc D = some (.dK vacc1) := by rw [Xc.out D List.mem_cons_self, Xb.out D List.mem_cons_self]; exact hDa
                                      obtain ⟨k, hkk⟩ : ∃ k, keyOf kd = some k := by
                                        rw [← ea, ← List.append_assoc, ← eaj] at eprs
                                        simp only [List.append_assoc] at eprs
                                        obtain ⟨_, q1, _, h1, _⟩ := pairsOf_app eprs
                                        obtain ⟨kd', k, d', qs, e1, e2, _⟩ := pairsOf_cons h1
                                        cases e1
                                        exact ⟨k, e2⟩
                                      have mD : D ∈ Mc := Fc.out D List.mem_cons_self
                                      have sC : Same (hid Mj Hj) (hid Mc Hc) := (Xa'.same.trans Xb.same).trans Xc.same
                                      have hlA : acc1.length < 100000 := by
                                        have z := congrArg List.length eaj
                                        have z2 := congrArg List.length ea
                                        simp only [List.length_append] at z z2
                                        omega
                                      refine ⟨vacc1, k, dq_key ok hkk, hDc, by have := dkOk_len dj; exact lt_line (by omega), ?_⟩
                                      have F7 := Fc.ownPut (.dK (putK vacc1 k v)) (fun _ z => nomatch z) (fun _ _ z => nomatch z)
                                      have F8 := F7.wipe vs1
                                      rw [ewb] at F8
                                      refine ⟨Mc, wipeE ρc vs1, acc1 ++ [.tuple [kd, vd]], putK vacc1 k v, ys', F8, ?_, ?_, ?_, upd_same, ?_, edd, by rw [List.append_assoc]; exact eaj⟩
                                      · refine ⟨by rw [hid_mut mD]; exact Xj.same.trans sC, fun b hb => ?_⟩
                                        have ne : b ≠ D := fun w => F1.live b (F1.out b hb) (by rw [w]; exact hD)
                                        rw [upd_ne ne, (wk Xc).out b hb, (wk Xb).out b hb, (wk Xa').out b hb, Xj.out b hb]
                                      · rw [hid_mut mD]; exact sj.trans sC
                                      · exact kj.trans (pb.kd.trans (kb.trans (kc.trans (kd_wipe ncc))))
                                      · rw [hid_mut mD]; exact dkOk_snoc (dkOk_mono sC dj) hkk oc
                                    · cases ej
                                  · cases ej
                                · cases ej
                              · rename_i ρb eb
                                split at ej
                                · rename_i ncb
                                  refine ht1 (D :: Out) Mj σb Ha ρa _ ρb _ Fb eb fun Mb Hb Fbb Xb kb => iteF ?_
                                  have hDb : Hb D = some (.dK vacc1) := by rw [Xb.out D List.mem_cons_self]; exact hDa
                                  have sC : Same (hid Mj Hj) (hid Mb Hb) := Xa'.same.trans Xb.same
                                  have F8 := Fbb.wipe vs1
                                  rw [ewb] at F8
                                  exact ⟨Mb, wipeE ρb vs1, acc1, vacc1, yz, F8, ⟨Xj.same.trans sC, fun b hb => by rw [(wk Xb).out b hb, (wk Xa').out b hb, Xj.out b hb]⟩, sj.trans sC, kj.trans (pb.kd.trans (kb.trans (kd_wipe ncb))), hDb, dkOk_mono sC dj, ej, eaj⟩
                                · cases ej
                              · cases ej
                          · have e0 : j = items1.length := by omega
                            subst e0
                            rw [List.drop_length] at ej
                            cases ej
                            rw [List.append_nil] at eaj
                            subst eaj
                            have F9 := Fj.wipe vs
                            rw [wipe_sub hvv, ew] at F9
                            exact .inl ⟨stop1, Mj, wipeE ρ7 vs, acc ++ ys1, vacc1, zs1, F9, Xj, Xj.same, kj.trans (kd_wipe nc7), hDj, dj, e8, by rw [List.append_assoc]; exact ea⟩
                        · cases ei
                      · cases ei
                    · cases ei
                  · cases ei
                · cases ei
              · rename_i ρ5 e5
                split at ei
                · rename_i nc5
                  refine ht (D :: Out) Mi σ4 H3 ρ3 _ ρ5 _ F4 e5 fun M5 H5 F5 X5 k5 => iteF ?_
                  have hD5 : H5 D = some (.dK vacc) := by rw [X5.out D List.mem_cons_self]; exact hD3
                  have sA : Same (hid Mi Hi) (hid M5 H5) := X3.same.trans X5.same
                  have F8 := F5.wipe vs
                  rw [ew] at F8
                  exact ⟨M5, wipeE ρ5 vs, acc, vacc, zs, F8, ⟨si.trans sA, fun b hb => by rw [(wk X5).out b hb, (wk X3).out b hb, Xi.out b hb]⟩, si.trans sA, ki.trans (p4.kd.trans (k5.trans (kd_wipe nc5))), hD5, dkOk_mono sA da, ei, ea⟩
                · cases ei
              · cases ei
          · have e0 : i = items.length := by omega
            subst e0
            rw [List.drop_length] at ei
            cases ei
            rw [List.append_nil] at ea
            subst ea
            have Fw : FrD K Out Mi (wipe σ vs) Hi ρ2 := Fi.weak fun b hb => List.mem_cons_of_mem _ hb
            have Fr := F1.rest Fw si nc
            have kdr : Kd P ρ (restE ρ1 ρ2 vs) := by
              intro i hi0 xs h
              obtain ⟨xs1, h1⟩ := k1 i hi0 xs h
              have nm : i ∉ vs := fun m => noCel_ok nc m h1
              rw [restE_out nm]
              exact ki i hi0 xs1 (by rw [wipeE_out nm]; exact h1)
            have nD : ∀ (i : Nat) zs, (restE ρ1 ρ2 vs)[i]? = some (En.cel zs) → σ[i]? ≠ some (some (V.ref D)) := fun i zs z w => by
              have nm : i ∉ vs := fun m => by
                by_cases l : i < ρ2.length
                · rw [restE_in l m] at z
                  cases z0 : ρ1[i]? with
                  | none => rw [z0] at z; cases z
                  | some e0 => rw [z0] at z; cases z; exact noCel_ok nc m z0
                · rw [List.getElem?_eq_none (by rw [restE_length]; omega)] at z; cases z
              rw [restE_out nm] at z
              obtain ⟨a, us, ea', m', o', _⟩ := Fi.cel i zs z
              rw [L2.wipe_out nm, w] at ea'
              cases ea'
              exact o' List.mem_cons_self
            have mD : D ∈ Mi := Fi.out D List.mem_cons_self
            have oD : D ∉ Out := fun z => F1.live D (F1.out D z) hD
            refine .inl ⟨stop, D, .dK vacc, rfl, hDi, trivial, fun od => ?_⟩
            obtain ⟨ps, ep, kvp⟩ := da
            rw [eprs] at ep
            cases ep
            have Fd := Fr.dropO oD nD mD (.frz od (.dK vacc)) (fun _ z => nomatch z)
            refine q _ _ _ Fd ((X1.trans Xi).trans (Ext.dropO mD oD)) kdr ?_
            exact (kvp.mono (same_dropO mD)).dq (hid_out not_mem_drop upd_same fun _ z => nomatch z)
        · cases e
      · cases e
    · cases e
  · cases e
theorem de_dc2 {kx vx tg iter tg1 iter1 : Expr} {ifs ifs1 : List Expr} {scope : Scope} {own : List (Str × Nat)} {vs1 : List Nat} (hc : X.calm = true) (hN : X.N.Nodup) (hi : DI X P tg iter wi fi) (ok : BlkOk X.N X.env.scope scope own)
    (hg : ∀ (s : Shared) (H : Hp) (C : Addr) (cl : List (Str × Addr)) (fp : List Addr), DG (X.blk s H scope (compEnvC scope cl C X.env) fp) P tg g fg tv) (ht : ∀ (s : Shared) (H : Hp) (C : Addr) (cl : List (Str × Addr)) (fp : List Addr), DTs (X.blk s H scope (compEnvC scope cl C X.env) fp) P ifs tt ft)
    (hi1 : ∀ (s : Shared) (H : Hp) (C : Addr) (cl : List (Str × Addr)) (fp : List Addr), DI (X.blk s H scope (compEnvC scope cl C X.env) fp) P tg1 iter1 wi1 fi1)
    (hg1 : ∀ (s : Shared) (H : Hp) (C : Addr) (cl : List (Str × Addr)) (fp : List Addr), DG (X.blk s H scope (compEnvC scope cl C X.env) fp) P tg1 g1 fg1 tv1) (ht1 : ∀ (s : Shared) (H : Hp) (C : Addr) (cl : List (Str × Addr)) (fp : List Addr), DTs (X.blk s H scope (compEnvC scope cl C X.env) fp) P ifs1 tt1 ft1)
    (hk : ∀ (s : Shared) (H : Hp) (C : Addr) (cl : List (Str × Addr)) (fp : List Addr), DE (X.blk s H scope (compEnvC scope cl C X.env) fp) P kx tk fk) (hvl : ∀ (s : Shared) (H : Hp) (C : Addr) (cl : List (Str × Addr)) (fp : List Addr), DE (X.blk s H scope (compEnvC scope cl C X.env) fp) P vx tvl fvl) (hv : ∀ i ∈ tv, i ∈ own.map (·.2) := by decide) (hv1 : ∀ i ∈ tv1, i ∈ vs1 := by decide) (hvv : ∀ i ∈ vs1, i ∈ own.map (·.2) := by decide)
    (hs : ∀ x, foldedSetIterable iter X.env x = pure x := by intro _; rfl) (hs1 : ∀ env x, foldedSetIterable iter1 env x = pure x := by intro _ _; rfl) :
    DE X P (.DictComp kx vx [⟨tg, iter, ifs, 0⟩, ⟨tg1, iter1, ifs1, 0⟩] scope pos) (tFrzD (tDc2 wi g tt wi1 g1 tt1 tk tvl (own.map (·.2)) vs1)) (fDc2 (own.map (·.2)) vs1 fi fg ft fi1 fg1 ft1 fk fvl) :=
  ⟨pe_frzD (pe_dc2 hc hN hi.1 ok hvv (fun s H C cl fp => (hg s H C cl fp).1) (fun s H C cl fp => (ht s H C cl fp).1) (fun s H C cl fp => (hi1 s H C cl fp).1) (fun s H C cl fp => (hg1 s H C cl fp).1) (fun s H C cl fp => (ht1 s H C cl fp).1) (fun s H C cl fp => (hk s H C cl fp).1) (fun s H C cl fp => (hvl s H C cl fp).1) hs hs1),
    se_dc2 hi.2 (hg X.s_0 X.H_0 0 [] []).2 (ht X.s_0 X.H_0 0 [] []).2 (hi1 X.s_0 X.H_0 0 [] []).2 (hg1 X.s_0 X.H_0 0 [] []).2 (ht1 X.s_0 X.H_0 0 [] []).2 (hk X.s_0 X.H_0 0 [] []).2 (hvl X.s_0 X.H_0 0 [] []).2 hv hv1 hvv⟩
end
end DL


set_option Elab.async false
set_option linter.all false
set_option maxRecDepth 100000
set_option maxHeartbeats 1000000
namespace DL
open PySem PySem.Spec PyProof.Rows L2
/-! ### t[a:b]: the whole is the tuple itself -/
section
variable {P : Program} {w : World} {A : Around} {E : Value → Shared → Prop} {s : Shared}
open HT in
theorem slT_whole {t sl : Addr} {items : Array Value} {vl vu : Value} {lo hi : Option Int} {Q : Value → Shared → Prop} (ht : IsTup s.heap t items) (hs : s.heap.IsSliceOf sl vl vu .none) (pl : IsPart vl lo) (pu : IsPart vu hi)
    (hw : sIx items.size 0 lo = 0 ∧ sIx items.size items.size hi = items.size) (h : Q (.ref t) s) : wpAny (model P w) A (getItem (.ref t) (.ref sl)) Q E s := by
  obtain ⟨os, hos, hcs, hds⟩ := id hs
  have hTs : s.TypeIs (.ref sl) "slice" := ⟨os, hos, hcs⟩
  unfold getItem
  try with_reducible refine wpAny_holding ?_
  first | refine wpAny_bind (wpAny_pure ?_) | skip
  refine wpAny_bind (wpAny_sequenceKey ht.typeIs (by decide) ?_)
  refine wpAny_bind (wpAny_callSpecial?_slot (name := Str.ofString "__getitem__") ht.typeIs PyProof.Rows.slot_tuple_getitem (wpAny_call_entry PyProof.Rows.slot_tuple_getitem ht.typeIs entry_tuple_getitem ?_ (args_tuple_getitem _ _)))
  show wpAny _ _ (Builtin.Tuple.tupleItemsOf (.ref t) >>= _) _ _ s
  refine wpAny_bind (tupleItemsOf_ ht ?_)
  refine wpAny_bind (wpAny_typeOf hTs ?_)
  rw [if_pos (by decide)]
  refine wpAny_bind (sliceApplied_gen hs pl pu ?_)
  have hy : (((sIx items.size 0 lo : Nat) : Int) == 0 && (1 : Int) == 1 && (sIx items.size items.size hi - sIx items.size 0 lo) == items.size) = true := by
    rw [hw.1, hw.2]
    simp
  show wpAny _ _ (if (((sIx items.size 0 lo : Nat) : Int) == 0 && (1 : Int) == 1 && (sIx items.size items.size hi - sIx items.size 0 lo) == items.size) = true then _ else _) _ _ s
  rw [if_pos hy]
  refine wpAny_bind (m := Builtin.Tuple.tupleIsExact _) (wpAny_bind (wpAny_typeOf ht.typeIs (wpAny_pure ?_)))
  rw [if_pos (by decide)]
  exact wpAny_bind (wpAny_rule (wpAny_pure ⟨_, rfl, wpAny_pure h⟩))
end
def rSlW (K : PySem.W.Frag) : V → Option Int → Option Int → Hp → VK → Prop := fun x lo hi H Q => ∃ a xs, x = .ref a ∧ SqT K H a xs ∧
  ((HT.sIx xs.length 0 lo = 0 ∧ HT.sIx xs.length xs.length hi = xs.length) → Q (.ref a) H) ∧ (¬ (HT.sIx xs.length 0 lo = 0 ∧ HT.sIx xs.length xs.length hi = xs.length) → ∀ p, H p = none → Q (.ref p) (upd H p (.tup (cutV xs lo hi))))
theorem sl_tupW {X : Cx} : SlR X (rSlW X.K) := by
  intro pins s σ H x v vl vu lo hi sl Q I rx hs pl pu h
  obtain ⟨a, xs, rfl, hx, q1, q2⟩ := h
  by_cases hw : HT.sIx xs.length 0 lo = 0 ∧ HT.sIx xs.length xs.length hi = xs.length
  · cases rx
    obtain ⟨its, r, ht, hz⟩ := I.tuple hx
    have hlen : its.toArray.size = xs.length := by rw [List.size_toArray]; exact r.length.symm
    refine ⟨"tuple", _, PyProof.Rows.slot_tuple_getitem.lookup, ht.typeIs, ?_⟩
    exact slT_whole ht hs pl pu (by rw [hlen]; exact hw) ⟨.ref a, H, I, rfl, q1 hw⟩
  · exact sl_tup pins s σ H _ v vl vu lo hi sl Q I rx hs pl pu ⟨a, xs, rfl, hx, hw, q2 hw⟩
def fSlT (fe : FE) (fl fh : FO) : FE := fun ρ => match fe ρ with
  | some (.dat (.tuple xs), ρ1) => (match fl ρ1 with
    | some (lo, ρ2) => (match fh ρ2 with
      | some (hi, ρ3) => some (.dat (.tuple (cutD xs lo hi)), ρ3)
      | none => none)
    | none => none)
  | _ => none
theorem cutD_whole {xs : List PyData} {lo hi : Option Int} (h : HT.sIx xs.length 0 lo = 0 ∧ HT.sIx xs.length xs.length hi = xs.length) : cutD xs lo hi = xs := by
  unfold cutD
  rw [h.1, h.2]
  simp
section
variable {X : Cx} {P : Nat} {a b e : Expr} {ta tb te : TE} {fa fb fe : FE} {pos p2 p : Pos}
theorem de_sliceT {lo hi : Option Expr} {tl th : TO} {fl fh : FO} (h : DE X P e te fe) (hl : DO X P lo tl fl) (hh : DO X P hi th fh) : DE X P (.Subscript e (.Slice lo hi none p2) pos) (tSl (rSlW X.K) te tl th) (fSlT fe fl fh) := ⟨pe_slice sl_tupW h.1 hl.1 hh.1, by
  intro Out M σ H ρ r ρ' Q F e q
  unfold fSlT at e
  split at e
  · rename_i xs ρ1 e1
    split at e
    · rename_i lo' ρ2 e2
      split at e
      · rename_i hi' ρ3 e3
        cases e
        refine h.2 Out M σ H ρ _ _ _ F e1 fun v M1 H1 F1 X1 k1 o1 => ?_
        refine hl.2 Out M1 σ H1 ρ1 _ _ _ F1 e2 fun M2 H2 F2 X2 k2 => ?_
        refine hh.2 Out M2 σ H2 ρ2 _ _ _ F2 e3 fun M3 H3 F3 X3 k3 => ?_
        have o3 := dp_mono (X2.trans X3).same (show Dq X.K (hid M1 H1) v (.tuple xs) from o1)
        cases o3 with
        | @tup a ws _ hs ha =>
          have hn := dpAll_len ha
          refine ⟨a, ws, rfl, sameT (hid_sub _ _) hs, fun hw => ?_, fun hw p hp => ?_⟩
          · refine q _ M3 H3 F3 ((X1.trans X2).trans X3) (k1.trans (k2.trans k3)) ?_
            rw [cutD_whole (by rw [← hn]; exact hw)]
            exact .tup hs ha
          · have hd : DqAll X.K (hid M3 H3) (cutV ws lo' hi') (cutD xs lo' hi') := by
              unfold cutV cutD
              rw [hn]
              exact dpAll_take _ (dpAll_drop _ ha)
            have s := same_upd hp (.tup (cutV ws lo' hi'))
            refine q _ M3 _ (F3.grow s) (((X1.trans X2).trans X3).trans (F3.ext s)) (k1.trans (k2.trans k3)) ?_
            exact .tup (.inl (.inl (hid_out (fun z => F3.live p z hp) upd_same fun _ z => nomatch z))) (dpAll_mono (hid_same s) hd)
      · cases e
    · cases e
  · cases e⟩
/-! ### t + u -/
def gCatT : PyData → PyData → Option PyData
  | .tuple xs, .tuple ys => if xs ≠ [] ∧ xs.length + ys.length ≤ 100000 then some (.tuple (xs ++ ys)) else none
  | _, _ => none
theorem opd_catT {K : PySem.W.Frag} : OpD K (rCatT K) gCatT := by
  intro M H x y a b z Q live dx dy e q
  unfold gCatT at e
  split at e
  · split at e
    · rename_i hl
      cases e
      cases dx with
      | @tup a1 xs1 _ hs ha =>
        cases dy with
        | @tup a2 xs2 _ hs2 ha2 =>
          have l1 := dpAll_len ha
          have l2 := dpAll_len ha2
          refine ⟨_, _, _, _, rfl, rfl, sameT (hid_sub _ _) hs, sameT (hid_sub _ _) hs2, fun z => hl.1 (by cases ha <;> first | rfl | cases z), by rw [l1, l2, sizeLine_eq]; omega, fun z => ?_, fun z p hp => ?_⟩
          · subst z
            cases ha2
            exact q _ H (Same.refl _) (by rw [List.append_nil]; exact .tup hs ha)
          · have s := same_upd hp (.tup (xs1 ++ xs2))
            refine q _ _ s (.tup (.inl (.inl ?_)) (dpAll_mono (hid_same s) (dpAll_app ha ha2)))
            exact hid_out (fun z => live p z hp) upd_same fun _ z => nomatch z
    · cases e
  · cases e
theorem de_catT (ha : DE X P a ta fa) (hb : DE X P b tb fb) : DE X P (.BinOp a .Add b pos) (tOp (rCatT X.K) ta tb) (f2 gCatT fa fb) := de_op op_catT opd_catT ha hb
/-! ### x in t, flat things -/
def flatD : PyData → Bool
  | .none => true
  | .bool _ => true
  | .int _ => true
  | .str _ => true
  | _ => false
def eqD : PyData → PyData → Bool
  | .none, .none => true
  | .bool a, .bool b => a == b
  | .bool a, .int b => (if a then 1 else 0) == b
  | .int a, .bool b => a == (if b then 1 else 0)
  | .int a, .int b => a == b
  | .str a, .str b => a == b
  | _, _ => false
def inD (x : PyData) (xs : List PyData) : Bool := xs.any fun y => eqD y x
def gIn (neg : Bool) : PyData → PyData → Option PyData
  | x, .list xs => if flatD x && xs.all flatD then some (.bool (if neg then !inD x xs else inD x xs)) else none
  | x, .tuple xs => if flatD x && xs.all flatD then some (.bool (if neg then !inD x xs else inD x xs)) else none
  | _, _ => none
theorem dq_flat {K : PySem.W.Frag} {H : Hp} {v : V} {d : PyData} (h : Dq K H v d) : flatD d = true → flatV v = true := by
  cases h <;> intro z <;> first | rfl | cases z
theorem dq_eq {K : PySem.W.Frag} {H : Hp} {v u : V} {d e : PyData} (h : Dq K H v d) (g : Dq K H u e) (h1 : flatD d = true) (h2 : flatD e = true) : eqV v u = eqD d e := by
  cases h <;> cases g <;> first | rfl | cases h1 | cases h2
theorem dqAll_flat {K : PySem.W.Frag} {H : Hp} : ∀ {vs : List V} {ds : List PyData}, DqAll K H vs ds → ds.all flatD = true → vs.all flatV = true
  | _, _, .nil, _ => rfl
  | _, _, .cons h r, z => by
    rw [List.all_cons, Bool.and_eq_true] at z
    rw [List.all_cons, dq_flat h z.1, dqAll_flat r z.2]
    rfl
theorem dqAll_in {K : PySem.W.Frag} {H : Hp} {x : V} {d : PyData} (hx : Dq K H x d) (fx : flatD d = true) : ∀ {vs : List V} {ds : List PyData}, DqAll K H vs ds → ds.all flatD = true → inV x vs = inD d ds
  | _, _, .nil, _ => rfl
  | _, _, .cons (v := v) (vs := vs) (d := d') (ds := ds) h r, z => by
    rw [List.all_cons, Bool.and_eq_true] at z
    have ih := dqAll_in hx fx r z.2
    show (eqV v x || inV x vs) = (eqD d' d || inD d ds)
    rw [ih, dq_eq h hx z.1 fx]
theorem opd_in {K : PySem.W.Frag} {neg : Bool} : OpD K (rIn K neg) (gIn neg) := by
  intro M H x y a b z Q live dx dy e q
  unfold gIn at e
  split at e
  · split at e
    · rename_i c
      cases e
      rw [Bool.and_eq_true] at c
      cases dy with
      | @lst a1 xs1 _ hs ha =>
        refine ⟨_, _, rfl, .inl ((hid_sub _ _).seq hs), dq_flat dx c.1, dqAll_flat ha c.2, ?_⟩
        rw [dqAll_in dx c.1 ha c.2]
        exact q _ H (Same.refl _) (.bl _)
    · cases e
  · split at e
    · rename_i c
      cases e
      rw [Bool.and_eq_true] at c
      cases dy with
      | @tup a1 xs1 _ hs ha =>
        refine ⟨_, _, rfl, .inr (sameT (hid_sub _ _) hs), dq_flat dx c.1, dqAll_flat ha c.2, ?_⟩
        rw [dqAll_in dx c.1 ha c.2]
        exact q _ H (Same.refl _) (.bl _)
    · cases e
  · cases e
/-! ### sorted(whole numbers) -/
/-! ### dicts that stand still -/
def gIxD : PyData → PyData → Option PyData
  | .dict qs, k => (match undk qs, keyOf k with
    | some ps, some k => valP ps k
    | _, _ => none)
  | _, _ => none
def rDG : R2 := fun x y H Q => ∃ a v, x = .ref a ∧ DGet H a y (some v) ∧ Q v H
theorem opd_dg {K : PySem.W.Frag} : OpD K rDG gIxD := by
  intro M H x y a b z Q live dx dy e q
  unfold gIxD at e
  split at e
  · split at e
    · rename_i ps k e1 e2
      obtain ⟨ad, o, kv, ps', rfl, h1, h2, h3⟩ := dq_dict dx (by rw [e1]; rfl)
      rw [e1] at h3
      cases h3
      obtain ⟨v, hv, dv⟩ := h2.val k e
      refine ⟨ad, v, rfl, .inl ⟨kv, k, .inr ⟨o, hid_sub _ _ _ _ h1⟩, dq_key dy e2, hv.symm⟩, q _ H (Same.refl _) dv⟩
    · cases e
  · cases e
theorem de_ixD {k : Nat} (hr : Room k X.A) (ha : DE X P a ta fa) (hb : DE X P b tb fb) (hs : NoSl b := by intro _ _; rfl) : DE X P (.Subscript a b pos) (tOp rDG ta tb) (f2 gIxD fa fb) :=
  ⟨pe_dget (hu_of hr) ha.1 hb.1 hs, se_2 opd_dg ha.2 hb.2⟩
def gLenD : List PyData → Option PyData
  | [.dict qs] => if (undk qs).isSome then some (.int (qs.length : Int)) else none
  | _ => none
def rLenD : List V → Hp → VK → Prop := fun xs H Q => ∃ a kvs, xs = [V.ref a] ∧ Rd H a (.dK kvs) ∧ Q (.int kvs.length) H
theorem cr_lenD : CallR X (.builtin "len") rLenD := by
  intro pins s σ H xs us Q I r h
  obtain ⟨a, kvs, rfl, ha, q⟩ := h
  obtain ⟨u, rfl, ru⟩ := vals1 r
  cases ru
  exact d_len I ha fun t s' I' => ⟨.int kvs.length, H, I', ⟨t, rfl⟩, q⟩
theorem undk_len : ∀ {qs : List (PyData × PyData)} {ps : List (Key × PyData)}, undk qs = some ps → ps.length = qs.length
  | [], _, h => by cases h; rfl
  | (k, d) :: r, ps, h => by
    unfold undk at h
    split at h
    · rename_i k' ps' e1 e2
      cases h
      rw [List.length_cons, List.length_cons, undk_len e2]
    · cases h
theorem ca_lenD {K : PySem.W.Frag} : CaD K rLenD gLenD := by
  intro M H vs ds z Q live hd e q
  unfold gLenD at e
  split at e
  · split at e
    · rename_i hu
      cases e
      cases hd with
      | cons h t =>
      cases t
      obtain ⟨ad, o, kv, ps', rfl, h1, h2, h3⟩ := dq_dict h hu
      refine ⟨ad, kv, rfl, .inr ⟨o, hid_sub _ _ _ _ h1⟩, ?_⟩
      rw [h2.len, undk_len h3]
      exact q _ H (Same.refl _) (.int _)
    · cases e
  · cases e
theorem de_lenD {tas : TA} {fas : FA} (hm : X.mg "len" = none) (ha : DA X P [e] tas fas) (hg : Gl X "len" := by rfl) (he : starEach [e] X.env = (false, eval e X.env) :: starEach [] X.env := by rfl) (hpl : (backTo pos (starEach [] X.env)).any (·.1) = false := by rfl) :
    DE X P (.Call (.Name "len" p) [e] [] pos) (tCB rLenD tas) (fCa gLenD fas) := de_callB cr_lenD ca_lenD hm ha (hg := hg) (he := he) (hpl := hpl)
/-! ### enumerate(tuple) -/
def enumD : Nat → List PyData → List PyData
  | _, [] => []
  | k, d :: r => .tuple [.int (k : Int), d] :: enumD (k + 1) r
def fiEnT (fa : FA) : FI := fun ρ => match fa ρ with
  | some ([.tuple xs], ρ') => some (enumD 0 xs, ρ')
  | _ => none
theorem enumD_len : ∀ (k : Nat) (xs : List PyData), (enumD k xs).length = xs.length
  | _, [] => rfl
  | k, _ :: r => by unfold enumD; rw [List.length_cons, List.length_cons, enumD_len]
theorem enumD_get : ∀ {xs : List PyData} {k i : Nat} {d : PyData}, (enumD k xs)[i]? = some d → ∃ x, xs[i]? = some x ∧ d = .tuple [.int ((k + i : Nat) : Int), x]
  | [], _, _, _, h => by simp [enumD] at h
  | x :: r, k, 0, d, h => by simp [enumD] at h; exact ⟨x, rfl, h.symm⟩
  | x :: r, k, i + 1, d, h => by
    unfold enumD at h
    rw [List.getElem?_cons_succ] at h
    obtain ⟨y, h1, h2⟩ := enumD_get h
    exact ⟨y, by rw [List.getElem?_cons_succ]; exact h1, by rw [h2, show k + 1 + i = k + (i + 1) by omega]⟩
theorem itok_enT {K : PySem.W.Frag} {M : List Addr} {H : Hp} {a : Addr} {ds : List PyData} (h : Dq K (hid M H) (.ref a) (.tuple ds)) : ItOk K M H (EN.ItE K a) (enumD 0 ds) := by
  intro M' H' live s
  cases h with
  | tup hs ha =>
    have h1 := sameT (hid_sub M' H') (sameT s hs)
    have ha1 := dpAll_mono s ha
    refine ⟨fun i d e => ?_, ⟨_, h1, by rw [enumD_len, dpAll_len ha]; exact Nat.le_refl _⟩⟩
    obtain ⟨dx, e1, rfl⟩ := enumD_get e
    obtain ⟨v, ev, dv⟩ := dpAll_get ha1 e1
    refine ⟨⟨_, v, h1, ev⟩, fun x H3 y => ?_⟩
    obtain ⟨T, u, rfl, hT, rfl, y⟩ := y
    have q := y _ h1
    rw [ev] at q
    cases q
    have s2 := same_upd hT (.tup [.int ((i : Nat) : Int), v])
    refine ⟨s2, ?_⟩
    rw [Nat.zero_add]
    exact .tup (.inl (.inl (hid_out (fun z => live T z hT) upd_same fun _ z => nomatch z))) (.cons (.int _) (.cons (dp_mono (hid_same s2) dv) .nil))
theorem di_enT {tas : TA} {fas : FA} {elts : List Expr} {kk : Nat} {tpos : Pos} (hm : X.mg "enumerate" = none) (ha : DA X P [e] tas fas) (hg : Gl X "enumerate" := by rfl) (hs : starEach [e] X.env = [(false, eval e X.env)] := by rfl) : DI X P (.Tuple elts kk tpos) (.Call (.Name "enumerate" p) [e] [] pos) (EN.iE X.K tas) (fiEnT fas) := ⟨EN.pi_E hg hm ha.1 hs, by
  intro Out M σ H ρ items ρ' R F e q
  unfold fiEnT at e
  split at e
  · rename_i xs ρ1 e1
    cases e
    refine ha.2 Out M σ H ρ _ _ _ F e1 fun vs M1 H1 F1 X1 k1 o1 => ?_
    cases o1 with
    | cons a1 o1 =>
      cases o1
      cases a1 with
      | tup hs ha => exact ⟨_, _, rfl, sameT (hid_sub _ _) hs, q _ M1 H1 F1 X1 k1 (itok_enT (.tup hs ha))⟩
  · cases e⟩
end
end DL


set_option Elab.async false
set_option linter.all false
set_option maxRecDepth 100000
set_option maxHeartbeats 1000000
namespace DL
open PySem PySem.Spec L2 GE
/-! ### tuple(.. for ..) -/
section
variable {X : Cx} {P : Nat} {wi : TI} {g : TG} {tt : TT} {te : TE} {fi : FI} {fg : FG} {ft : FT} {fe : FE} {tv : List Nat} {pos p gpos : Pos}
end
end DL


set_option Elab.async false
set_option linter.all false
set_option maxRecDepth 100000
set_option maxHeartbeats 1000000
namespace DL
open PySem PySem.Spec L2 GE
/-! ### any(.. for ..) -/
section
variable {X : Cx} {P : Nat} {wi : TI} {g : TG} {tt : TT} {te : TE} {fi : FI} {fg : FG} {ft : FT} {fe : FE} {tv : List Nat} {pos p gpos : Pos}
end
end DL


set_option Elab.async false
set_option linter.all false
set_option maxRecDepth 100000
set_option maxHeartbeats 1000000
namespace ST
open PySem PySem.Spec L2
open PyProof.Rows (firstMet IntsAre firstMet_length_le seqObj step_dedup)
end ST
namespace DL
open PySem PySem.Spec L2 ST
open PyProof.Rows (step_dedup)
/-! ### sorted({.. for ..}) of whole numbers -/
section
variable {X : Cx} {P : Nat} {wi : TI} {g : TG} {tt : TT} {te : TE} {fi : FI} {fg : FG} {ft : FT} {fe : FE} {tv : List Nat} {pos p gpos : Pos}
end
/-! ### zip(list, list) -/
section
variable {X : Cx} {P : Nat} {e e2 : Expr} {pos p : Pos}
/-! ### enumerate(list) -/
/-! ### what is never reached -/
/-! ### a name that holds a list of one's own, or data: data from here on -/
end
end DL


set_option Elab.async false
set_option linter.all false
set_option maxRecDepth 100000
set_option maxHeartbeats 1000000
namespace DL
open PySem PySem.Spec PyProof.Rows L2 GE ST SK
/-! ### canonical readings -/
def cE (K : PySem.W.Frag) (P : Nat) (f : FE) : TE := fun σ H Q => ∃ Out M ρ r ρ', FrD K Out M σ H ρ ∧ f ρ = some (r, ρ') ∧ ∀ v M' H', FrD K Out M' σ H' ρ' → Ext Out M H M' H' → Kd P ρ ρ' → RvOk K Out M' σ H' ρ' r v → Q v H'
def cT (K : PySem.W.Frag) (P : Nat) (f : FT) : TT := fun σ H Q => ∃ Out M ρ b ρ', FrD K Out M σ H ρ ∧ f ρ = some (b, ρ') ∧ ∀ M' H', FrD K Out M' σ H' ρ' → Ext Out M H M' H' → Kd P ρ ρ' → Q b H'
def cA (K : PySem.W.Frag) (P : Nat) (f : FA) : TA := fun σ H Q => ∃ Out M ρ ds ρ', FrD K Out M σ H ρ ∧ f ρ = some (ds, ρ') ∧ ∀ vs M' H', FrD K Out M' σ H' ρ' → Ext Out M H M' H' → Kd P ρ ρ' → DqAll K (hid M' H') vs ds → Q vs H'
def cG (K : PySem.W.Frag) (P : Nat) (g : FG) (tv : List Nat) : TG := fun x σ H Q => ∃ Out M ρ d ρ', FrD K Out M σ H ρ ∧ Dq K (hid M H) x d ∧ g d ρ = some ρ' ∧ ∀ σ', FrD K Out M σ' H ρ' → Pin P σ ρ σ' ρ' → (∀ i : Nat, i ∉ tv → σ'[i]? = σ[i]?) → σ'.length = σ.length → Q σ' H
def cGs (K : PySem.W.Frag) (P : Nat) (g : FGs) (tv : List Nat) : TGs := fun xs σ H Q => ∃ Out M ρ ds ρ', FrD K Out M σ H ρ ∧ DqAll K (hid M H) xs ds ∧ g ds ρ = some ρ' ∧ ∀ σ', FrD K Out M σ' H ρ' → Pin P σ ρ σ' ρ' → (∀ i : Nat, i ∉ tv → σ'[i]? = σ[i]?) → σ'.length = σ.length → Q σ' H
def cS (K : PySem.W.Frag) (P : Nat) (f : FS) : TS := fun D σ H => ∃ Out M ρ o, FrD K Out M σ H ρ ∧ f ρ = some o ∧ SQ K P Out M σ H ρ D o
def cI (K : PySem.W.Frag) (P : Nat) (f : FI) : TI := fun σ H R => ∃ Out M ρ items ρ', FrD K Out M σ H ρ ∧ f ρ = some (items, ρ') ∧ ∀ J M' H', FrD K Out M' σ H' ρ' → Ext Out M H M' H' → Kd P ρ ρ' → ItOk K M' H' J items → R J H'
def cO (K : PySem.W.Frag) (P : Nat) (f : FO) : TO := fun σ H Q => ∃ Out M ρ o ρ', FrD K Out M σ H ρ ∧ f ρ = some (o, ρ') ∧ ∀ M' H', FrD K Out M' σ H' ρ' → Ext Out M H M' H' → Kd P ρ ρ' → Q o H'
structure NE (X : Cx) (K : PySem.W.Frag) (P : Nat) (e : Expr) (f : FE) : Prop where
  hK : X.K = K
  p : PE X e (cE K P f)
structure NT (X : Cx) (K : PySem.W.Frag) (P : Nat) (e : Expr) (f : FT) : Prop where
  hK : X.K = K
  p : PT X e (cT K P f)
structure NW (X : Cx) (K : PySem.W.Frag) (P : Nat) (e : Expr) (f : FT) : Prop where
  hK : X.K = K
  p : PW X e (cT K P f)
structure NTs (X : Cx) (K : PySem.W.Frag) (P : Nat) (e : List Expr) (f : FT) : Prop where
  hK : X.K = K
  p : PTs X e (cT K P f)
structure NA (X : Cx) (K : PySem.W.Frag) (P : Nat) (e : List Expr) (f : FA) : Prop where
  hK : X.K = K
  p : PA X e (cA K P f)
structure NG (X : Cx) (K : PySem.W.Frag) (P : Nat) (e : Expr) (g : FG) (tv : List Nat) : Prop where
  hK : X.K = K
  p : PG X e (cG K P g tv)
structure NGs (X : Cx) (K : PySem.W.Frag) (P : Nat) (e : List Expr) (g : FGs) (tv : List Nat) : Prop where
  hK : X.K = K
  p : PGs X e (cGs K P g tv)
structure NS (X : Cx) (K : PySem.W.Frag) (P : Nat) (e : Stmt) (f : FS) : Prop where
  hK : X.K = K
  p : PS X e (cS K P f)
structure NSs (X : Cx) (K : PySem.W.Frag) (P : Nat) (e : List Stmt) (f : FS) : Prop where
  hK : X.K = K
  p : PSs X e (cS K P f)
structure NI (X : Cx) (K : PySem.W.Frag) (P : Nat) (tg it : Expr) (f : FI) : Prop where
  hK : X.K = K
  p : PI X tg it (cI K P f)
structure NO (X : Cx) (K : PySem.W.Frag) (P : Nat) (e : Option Expr) (f : FO) : Prop where
  hK : X.K = K
  p : PO X e (cO K P f)
section
variable {X : Cx} {P : Nat} {e it : Expr} {es : List Expr} {st : Stmt} {sts : List Stmt} {tv : List Nat}
theorem DE.ne {te : TE} {f : FE} (h : DE X P e te f) : NE X X.K P e f := ⟨rfl, fun pins s σ H Q I ⟨Out, M, ρ, r, ρ', F, e, q⟩ => h.1 pins s σ H Q I (h.2 Out M σ H ρ r ρ' Q F e q)⟩
theorem NE.de {f : FE} (h : NE X X.K P e f) : DE X P e (cE X.K P f) f := ⟨h.p, fun Out M σ H ρ r ρ' Q F e q => ⟨Out, M, ρ, r, ρ', F, e, q⟩⟩
theorem DT.ne {te : TT} {f : FT} (h : DT X P e te f) : NT X X.K P e f := ⟨rfl, fun pins s σ H Q I ⟨Out, M, ρ, r, ρ', F, e, q⟩ => h.1 pins s σ H Q I (h.2 Out M σ H ρ r ρ' Q F e q)⟩
theorem NT.de {f : FT} (h : NT X X.K P e f) : DT X P e (cT X.K P f) f := ⟨h.p, fun Out M σ H ρ r ρ' Q F e q => ⟨Out, M, ρ, r, ρ', F, e, q⟩⟩
theorem DW.ne {te : TT} {f : FT} (h : DW X P e te f) : NW X X.K P e f := ⟨rfl, fun wh pins s σ H Q I ⟨Out, M, ρ, r, ρ', F, e, q⟩ => h.1 wh pins s σ H Q I (h.2 Out M σ H ρ r ρ' Q F e q)⟩
theorem NW.de {f : FT} (h : NW X X.K P e f) : DW X P e (cT X.K P f) f := ⟨h.p, fun Out M σ H ρ r ρ' Q F e q => ⟨Out, M, ρ, r, ρ', F, e, q⟩⟩
theorem DTs.ne {te : TT} {f : FT} (h : DTs X P es te f) : NTs X X.K P es f := ⟨rfl, fun pins s σ H Q I ⟨Out, M, ρ, r, ρ', F, e, q⟩ => h.1 pins s σ H Q I (h.2 Out M σ H ρ r ρ' Q F e q)⟩
theorem NTs.de {f : FT} (h : NTs X X.K P es f) : DTs X P es (cT X.K P f) f := ⟨h.p, fun Out M σ H ρ r ρ' Q F e q => ⟨Out, M, ρ, r, ρ', F, e, q⟩⟩
theorem DA.ne {te : TA} {f : FA} (h : DA X P es te f) : NA X X.K P es f := ⟨rfl, fun pos pins s σ H Q I ⟨Out, M, ρ, r, ρ', F, e, q⟩ => h.1 pos pins s σ H Q I (h.2 Out M σ H ρ r ρ' Q F e q)⟩
theorem NA.de {f : FA} (h : NA X X.K P es f) : DA X P es (cA X.K P f) f := ⟨h.p, fun Out M σ H ρ r ρ' Q F e q => ⟨Out, M, ρ, r, ρ', F, e, q⟩⟩
theorem DG.ne {te : TG} {f : FG} (h : DG X P e te f tv) : NG X X.K P e f tv := ⟨rfl, fun pins s σ H x u Q I rx ⟨Out, M, ρ, d, ρ', F, dx, e, q⟩ => h.1 pins s σ H x u Q I rx (h.2 Out M σ H ρ x d ρ' Q F dx e q)⟩
theorem NG.de {f : FG} (h : NG X X.K P e f tv) : DG X P e (cG X.K P f tv) f tv := ⟨h.p, fun Out M σ H ρ x d ρ' Q F dx e q => ⟨Out, M, ρ, d, ρ', F, dx, e, q⟩⟩
theorem DGs.ne {te : TGs} {f : FGs} (h : DGs X P es te f tv) : NGs X X.K P es f tv := ⟨rfl, fun pins s σ H x u Q I rx ⟨Out, M, ρ, d, ρ', F, dx, e, q⟩ => h.1 pins s σ H x u Q I rx (h.2 Out M σ H ρ x d ρ' Q F dx e q)⟩
theorem NGs.de {f : FGs} (h : NGs X X.K P es f tv) : DGs X P es (cGs X.K P f tv) f tv := ⟨h.p, fun Out M σ H ρ x d ρ' Q F dx e q => ⟨Out, M, ρ, d, ρ', F, dx, e, q⟩⟩
theorem DS.ne {te : TS} {f : FS} (h : DS X P st te f) : NS X X.K P st f := ⟨rfl, fun pins s σ H D I ⟨Out, M, ρ, o, F, e, q⟩ => h.1 pins s σ H D I (h.2 Out M σ H ρ o D F e q)⟩
theorem NS.de {f : FS} (h : NS X X.K P st f) : DS X P st (cS X.K P f) f := ⟨h.p, fun Out M σ H ρ o D F e q => ⟨Out, M, ρ, o, F, e, q⟩⟩
theorem DSs.ne {te : TS} {f : FS} (h : DSs X P sts te f) : NSs X X.K P sts f := ⟨rfl, fun pins s σ H D I ⟨Out, M, ρ, o, F, e, q⟩ => h.1 pins s σ H D I (h.2 Out M σ H ρ o D F e q)⟩
theorem NSs.de {f : FS} (h : NSs X X.K P sts f) : DSs X P sts (cS X.K P f) f := ⟨h.p, fun Out M σ H ρ o D F e q => ⟨Out, M, ρ, o, F, e, q⟩⟩
theorem DI.ne {te : TI} {f : FI} (h : DI X P e it te f) : NI X X.K P e it f := ⟨rfl, fun pins s σ H R I ⟨Out, M, ρ, o, ρ', F, e, q⟩ => h.1 pins s σ H R I (h.2 Out M σ H ρ o ρ' R F e q)⟩
theorem NI.de {f : FI} (h : NI X X.K P e it f) : DI X P e it (cI X.K P f) f := ⟨h.p, fun Out M σ H ρ o ρ' R F e q => ⟨Out, M, ρ, o, ρ', F, e, q⟩⟩
theorem DO.ne {te : TO} {f : FO} {o : Option Expr} (h : DO X P o te f) : NO X X.K P o f := ⟨rfl, fun pins s σ H R I ⟨Out, M, ρ, o, ρ', F, e, q⟩ => h.1 pins s σ H R I (h.2 Out M σ H ρ o ρ' R F e q)⟩
theorem NO.de {f : FO} {o : Option Expr} (h : NO X X.K P o f) : DO X P o (cO X.K P f) f := ⟨h.p, fun Out M σ H ρ o ρ' R F e q => ⟨Out, M, ρ, o, ρ', F, e, q⟩⟩
end
theorem nfun_ok {P : Program} {w : World} {K : PySem.W.Frag} {mg : Str → Option Value} {base : Heap} {x qual : Str} {st : Stmt} {f : Addr} {fd : FuncData} {N ps : List Str} {k np kk : Nat} {fb : FS} (F : Fun K x qual st f fd) (S : FnScope N ps (defScope st)) (hnp : ps.length = np) (hkk : N.length - np = kk)
    (hbody : ∀ (cdv : Value) (A : Around) (outer : List Env) (s : Shared) (H : Hp) (E : XK), Room k (A.deeper (PyProof.Rows.envOfC qual (defScope st) s.heap.objs.size f cdv)) → NSs (cxOf CX0 P w K mg base N qual (defScope st) f cdv A outer s H E).nox K np (defBody st) fb) :
    FnOk P w K mg base CX0 (k + 1) f fd ps (spD K np (fFun np kk fb)) :=
  fun_ok (ts := cS K np fb) F S hnp hkk fun cdv A outer s H E hr => (hbody cdv A outer s H E hr).de
/-! ### the rules over canonical readings -/
theorem ndv {X : Cx} {P : Nat} {K : PySem.W.Frag} (i : Nat) {x : Str} {pos : Pos} (hN : X.N[i]? = some x := by rfl) (hv : Vis X.env.scope x := by first | exact Or.inl rfl | exact Or.inr (Or.inl rfl) | exact Or.inr (Or.inr rfl)) (hd : (x == ("__debug__" : Str)) = false := by decide) (hcd : (x == ("__classdict__" : Str)) = false := by decide) (hK : X.K = K := by rfl) : NE X K P (.Name x pos) (fVar i) := by
  have hK' := hK
  subst hK'
  exact (dv i (hN := hN) (hv := hv) (hd := hd) (hcd := hcd)).ne
theorem ndvz  {K : PySem.W.Frag} (i : Nat) {X : Cx} {P : Nat} {x : Str} {pos : Pos} (hN : X.N[i]? = some x := by rfl) (hv : Vis X.env.scope x := by first | exact Or.inl rfl | exact Or.inr (Or.inl rfl) | exact Or.inr (Or.inr rfl)) (hd : (x == ("__debug__" : Str)) = false := by decide) (hcd : (x == ("__classdict__" : Str)) = false := by decide) (hK : X.K = K := by rfl) : NE X K P (.Name x pos) (fFrzS P i) := by
  have hK' := hK
  subst hK'
  exact (dvz i (hN := hN) (hv := hv) (hd := hd) (hcd := hcd)).ne
theorem nde_int {X : Cx} {P : Nat} {K : PySem.W.Frag} {i j pos} (hK : X.K = K := by rfl) : NE X K P (.Constant (.int i) j pos) (fC (.int i)) := by
  have hK' := hK
  subst hK'
  exact (de_int ).ne
theorem nde_bl {X : Cx} {P : Nat} {K : PySem.W.Frag} {b j pos} (hK : X.K = K := by rfl) : NE X K P (.Constant (.bool b) j pos) (fC (.bool b)) := by
  have hK' := hK
  subst hK'
  exact (de_bl ).ne
theorem nde_add {X : Cx} {P : Nat} {a b : Expr} {fa fb : FE} {pos : Pos} {K : PySem.W.Frag} (ha : NE X K P a fa) (hb : NE X K P b fb) : NE X K P (.BinOp a .Add b pos) (f2 gAdd fa fb) := by
  have hK' := ha.hK
  subst hK'
  exact (de_add ha.de hb.de).ne
theorem nde_sub {X : Cx} {P : Nat} {a b : Expr} {fa fb : FE} {pos : Pos} {K : PySem.W.Frag} (ha : NE X K P a fa) (hb : NE X K P b fb) : NE X K P (.BinOp a .Sub b pos) (f2 gSub fa fb) := by
  have hK' := ha.hK
  subst hK'
  exact (de_sub ha.de hb.de).ne
theorem nde_mul {X : Cx} {P : Nat} {a b : Expr} {fa fb : FE} {pos : Pos} {K : PySem.W.Frag} (ha : NE X K P a fa) (hb : NE X K P b fb) : NE X K P (.BinOp a .Mult b pos) (f2 gMul fa fb) := by
  have hK' := ha.hK
  subst hK'
  exact (de_mul ha.de hb.de).ne
theorem nde_mod {X : Cx} {P : Nat} {a b : Expr} {fa fb : FE} {pos : Pos} {K : PySem.W.Frag} (ha : NE X K P a fa) (hb : NE X K P b fb) : NE X K P (.BinOp a .Mod b pos) (f2 gMod fa fb) := by
  have hK' := ha.hK
  subst hK'
  exact (de_mod ha.de hb.de).ne
theorem nde_div {X : Cx} {P : Nat} {a b : Expr} {fa fb : FE} {pos : Pos} {K : PySem.W.Frag} (ha : NE X K P a fa) (hb : NE X K P b fb) : NE X K P (.BinOp a .FloorDiv b pos) (f2 gDiv fa fb) := by
  have hK' := ha.hK
  subst hK'
  exact (de_div ha.de hb.de).ne
theorem nde_pow {X : Cx} {P : Nat} {a b : Expr} {fa fb : FE} {pos : Pos} {K : PySem.W.Frag} (ha : NE X K P a fa) (hb : NE X K P b fb) : NE X K P (.BinOp a .Pow b pos) (f2 gPow fa fb) := by
  have hK' := ha.hK
  subst hK'
  exact (de_pow ha.de hb.de).ne
theorem ndt_cmp {X : Cx} {P : Nat} {a b : Expr} {fa fb : FE} {pos : Pos} {K : PySem.W.Frag} {op : CmpOp} {r : R2} {g : PyData → PyData → Option PyData} (ho : OpR X (compareOp op) r) (hg : OpD X.K r g) (ha : NE X K P a fa) (hb : NE X K P b fb) (hm : behindInMarks op b = false) : NT X K P (.Compare a [op] [b] pos) (fB (f2 g fa fb)) := by
  have hK' := ha.hK
  subst hK'
  exact (dt_cmp ho hg ha.de hb.de hm).ne
theorem ndw_or1 {X : Cx} {P : Nat} {a : Expr} {ft : FT} {pos : Pos} {K : PySem.W.Frag} (h : NT X K P a ft) : NW X K P (.BoolOp .Or [a] pos) ft := by
  have hK' := h.hK
  subst hK'
  exact (dw_or1 h.de).ne
theorem ndw_or {X : Cx} {P : Nat} {a b : Expr} {ft fu : FT} {pos : Pos} {rest : List Expr} {K : PySem.W.Frag} (h : NT X K P a ft) (h2 : NW X K P (.BoolOp .Or (b :: rest) pos) fu) : NW X K P (.BoolOp .Or (a :: b :: rest) pos) (fOr ft fu) := by
  have hK' := h.hK
  subst hK'
  exact (dw_or h.de h2.de).ne
theorem ndt_w {X : Cx} {P : Nat} {e : Expr} {ft : FT} {K : PySem.W.Frag} (h : NW X K P e ft) : NT X K P e ft := by
  have hK' := h.hK
  subst hK'
  exact (dt_w h.de).ne
theorem nda_nil {X : Cx} {P : Nat} {K : PySem.W.Frag} (hK : X.K = K := by rfl) : NA X K P [] faNil := by
  have hK' := hK
  subst hK'
  exact (da_nil ).ne
theorem nda_cons {X : Cx} {P : Nat} {e : Expr} {es : List Expr} {fe : FE} {fa : FA} {K : PySem.W.Frag} (h : NE X K P e fe) (t : NA X K P es fa) (hs : starEach (e :: es) X.env = (false, eval e X.env) :: starEach es X.env := by rfl) : NA X K P (e :: es) (faCons fe fa) := by
  have hK' := h.hK
  subst hK'
  exact (da_cons h.de t.de (hs := hs)).ne
theorem nde_tup {X : Cx} {P : Nat} {es : List Expr} {fa : FA} {pos : Pos} {K : PySem.W.Frag} {x1} (h : NA X K P es fa) : NE X K P (.Tuple es x1 pos) (fTup fa) := by
  have hK' := h.hK
  subst hK'
  exact (de_tup h.de).ne
theorem nde_lst {X : Cx} {P : Nat} {es : List Expr} {fa : FA} {pos : Pos} {K : PySem.W.Frag} (h : NA X K P es fa) : NE X K P (.List es pos) (fLst fa) := by
  have hK' := h.hK
  subst hK'
  exact (de_lst h.de).ne
theorem nde_frz {X : Cx} {P : Nat} {e : Expr} {fe : FE} {K : PySem.W.Frag} (h : NE X K P e fe) : NE X K P e (fFrz fe) := by
  have hK' := h.hK
  subst hK'
  exact (de_frz h.de).ne
theorem nde_len {X : Cx} {P : Nat} {e : Expr} {fa : FA} {pos p : Pos} {K : PySem.W.Frag} (hm : X.mg "len" = none) (ha : NA X K P [e] fa) (hg : Gl X "len" := by rfl) (he : starEach [e] X.env = (false, eval e X.env) :: starEach [] X.env := by rfl) (hpl : (backTo pos (starEach [] X.env)).any (·.1) = false := by rfl) : NE X K P (.Call (.Name "len" p) [e] [] pos) (fCa gLen fa) := by
  have hK' := ha.hK
  subst hK'
  exact (de_len hm ha.de (hg := hg) (he := he) (hpl := hpl)).ne
theorem nde_min2 {X : Cx} {P : Nat} {e e2 : Expr} {fa : FA} {pos p : Pos} {K : PySem.W.Frag} (hc : X.calm = true) (hm : X.mg "min" = none) (ha : NA X K P [e, e2] fa) (hg : Gl X "min" := by rfl) (he : starEach [e, e2] X.env = (false, eval e X.env) :: starEach [e2] X.env := by rfl) (hpl : (backTo pos (starEach [e2] X.env)).any (·.1) = false := by rfl) : NE X K P (.Call (.Name "min" p) [e, e2] [] pos) (fCa gMin2 fa) := by
  have hK' := ha.hK
  subst hK'
  exact (de_min2 hc hm ha.de (hg := hg) (he := he) (hpl := hpl)).ne
theorem nde_max2 {X : Cx} {P : Nat} {e e2 : Expr} {fa : FA} {pos p : Pos} {K : PySem.W.Frag} (hc : X.calm = true) (hm : X.mg "max" = none) (ha : NA X K P [e, e2] fa) (hg : Gl X "max" := by rfl) (he : starEach [e, e2] X.env = (false, eval e X.env) :: starEach [e2] X.env := by rfl) (hpl : (backTo pos (starEach [e2] X.env)).any (·.1) = false := by rfl) : NE X K P (.Call (.Name "max" p) [e, e2] [] pos) (fCa gMax2 fa) := by
  have hK' := ha.hK
  subst hK'
  exact (de_max2 hc hm ha.de (hg := hg) (he := he) (hpl := hpl)).ne
theorem nde_list {X : Cx} {P : Nat} {e : Expr} {fa : FA} {pos p : Pos} {K : PySem.W.Frag} (hm : X.mg "list" = none) (ha : NA X K P [e] fa) (hg : Gl X "list" := by rfl) (he : starEach [e] X.env = (false, eval e X.env) :: starEach [] X.env := by rfl) (hpl : (backTo pos (starEach [] X.env)).any (·.1) = false := by rfl) : NE X K P (.Call (.Name "list" p) [e] [] pos) (fCaN gListOf fa) := by
  have hK' := ha.hK
  subst hK'
  exact (de_list hm ha.de (hg := hg) (he := he) (hpl := hpl)).ne
theorem nde_tuple {X : Cx} {P : Nat} {e : Expr} {fa : FA} {pos p : Pos} {K : PySem.W.Frag} (hm : X.mg "tuple" = none) (ha : NA X K P [e] fa) (hg : Gl X "tuple" := by rfl) (he : starEach [e] X.env = (false, eval e X.env) :: starEach [] X.env := by rfl) (hpl : (backTo pos (starEach [] X.env)).any (·.1) = false := by rfl) : NE X K P (.Call (.Name "tuple" p) [e] [] pos) (fCa gTupleOf fa) := by
  have hK' := ha.hK
  subst hK'
  exact (de_tuple hm ha.de (hg := hg) (he := he) (hpl := hpl)).ne
theorem nde_ix {X : Cx} {P : Nat} {a b : Expr} {fa fb : FE} {pos : Pos} {K : PySem.W.Frag} (ha : NE X K P a fa) (hb : NE X K P b fb) (hs : PlainIx b := by intro _ _; rfl) : NE X K P (.Subscript a b pos) (f2 gIx fa fb) := by
  have hK' := ha.hK
  subst hK'
  exact (de_ix ha.de hb.de (hs := hs)).ne
theorem nde_cat {X : Cx} {P : Nat} {a b : Expr} {fa fb : FE} {pos : Pos} {K : PySem.W.Frag} (ha : NE X K P a fa) (hb : NE X K P b fb) : NE X K P (.BinOp a .Add b pos) (f2 gCat fa fb) := by
  have hK' := ha.hK
  subst hK'
  exact (de_cat ha.de hb.de).ne
theorem ndo_none {X : Cx} {P : Nat} {K : PySem.W.Frag} (hK : X.K = K := by rfl) : NO X K P none foNone := by
  have hK' := hK
  subst hK'
  exact (do_none ).ne
theorem ndo_some {X : Cx} {P : Nat} {e : Expr} {fe : FE} {K : PySem.W.Frag} (h : NE X K P e fe) : NO X K P (some e) (foSome fe) := by
  have hK' := h.hK
  subst hK'
  exact (do_some h.de).ne
theorem nde_neg {X : Cx} {P : Nat} {e : Expr} {fe : FE} {pos : Pos} {K : PySem.W.Frag} (h : NE X K P e fe) : NE X K P (.UnaryOp .USub e pos) (f1 gNeg fe) := by
  have hK' := h.hK
  subst hK'
  exact (de_neg h.de).ne
theorem ndg_name {X : Cx} {P : Nat} {pos : Pos} {K : PySem.W.Frag} {i : Nat} {x : Str} (hN : X.N.Nodup) (hi : X.N[i]? = some x := by rfl) (hx : Loc X.env.scope x := by first | exact Or.inl rfl | exact Or.inr rfl) (hf : X.fn x = true ∨ X.env.scope.names.lookup x = some .local := by first | exact .inl rfl | exact .inr rfl | assumption) (hK : X.K = K := by rfl) : NG X K P (.Name x pos) (fgName P i) [i] := by
  have hK' := hK
  subst hK'
  exact (dg_name hN (hi := hi) (hx := hx) (hf := hf)).ne
theorem ndgs_nil {X : Cx} {P : Nat} {K : PySem.W.Frag} (hK : X.K = K := by rfl) : NGs X K P [] fgNil [] := by
  have hK' := hK
  subst hK'
  exact (dgs_nil ).ne
theorem ndgs_cons {X : Cx} {P : Nat} {K : PySem.W.Frag} {e : Expr} {es : List Expr} {f : FG} {g : FGs} {tv tw : List Nat} (h1 : NG X K P e f tv) (h2 : NGs X K P es g tw) (hs : (assignEach (e :: es) X.env).map (·.2) = assign e X.env :: (assignEach es X.env).map (·.2) := by rfl) : NGs X K P (e :: es) (fgCons f g) (tv ++ tw) := by
  have hK' := h1.hK
  subst hK'
  exact (dgs_cons h1.de h2.de (hs := hs)).ne
theorem ndg_tup {X : Cx} {P : Nat} {pos : Pos} {K : PySem.W.Frag} {es : List Expr} {k : Nat} {g : FGs} {n : Nat} {tv : List Nat} (hc : X.calm = true) (h : NGs X K P es g tv) (hn : (assignEach es X.env).length = n := by rfl) (hst : (assignEach es X.env).findIdx? (·.1) = none := by rfl) : NG X K P (.Tuple es k pos) (fgTup n g) tv := by
  have hK' := h.hK
  subst hK'
  exact (dg_tup hc h.de (hn := hn) (hst := hst)).ne
theorem ndss_nil {X : Cx} {P : Nat} {K : PySem.W.Frag} (hK : X.K = K := by rfl) : NSs X K P [] fNext := by
  have hK' := hK
  subst hK'
  exact (dss_nil ).ne
theorem ndss_cons {X : Cx} {P : Nat} {st : Stmt} {rest : List Stmt} {f g : FS} {K : PySem.W.Frag} (h1 : NS X K P st f) (h2 : NSs X K P rest g) : NSs X K P (st :: rest) (fSeq f g) := by
  have hK' := h1.hK
  subst hK'
  exact (dss_cons h1.de h2.de).ne
theorem ndss_one {X : Cx} {P : Nat} {st : Stmt} {f : FS} {K : PySem.W.Frag} (h1 : NS X K P st f) : NSs X K P [st] f := by
  have hK' := h1.hK
  subst hK'
  exact (dss_one h1.de).ne
theorem nds_if {X : Cx} {P : Nat} {pos : Pos} {f g : FS} {K : PySem.W.Frag} {c : Expr} {a b : List Stmt} {ft : FT} (hc : NT X K P c ft) (h1 : NSs X K P a f) (h2 : NSs X K P b g) : NS X K P (.If c a b pos) (fIfS ft f g) := by
  have hK' := hc.hK
  subst hK'
  exact (ds_if hc.de h1.de h2.de).ne
theorem nds_ret {X : Cx} {P : Nat} {pos : Pos} {e : Expr} {fe : FE} {K : PySem.W.Frag} (h : NE X K P e fe) : NS X K P (.Return (some e) pos) (fRet fe) := by
  have hK' := h.hK
  subst hK'
  exact (ds_ret h.de).ne
theorem nds_expr {X : Cx} {P : Nat} {pos : Pos} {e : Expr} {fe : FE} {K : PySem.W.Frag} (h : NE X K P e fe) (hs : swapsWith e none pos.line X.env = pure false := by rfl) : NS X K P (.Expr e pos) (fDrop fe) := by
  have hK' := h.hK
  subst hK'
  exact (ds_expr h.de (hs := hs)).ne
theorem nds_set {X : Cx} {P : Nat} {pos : Pos} {e : Expr} {fe : FE} {K : PySem.W.Frag} {i : Nat} {x : Str} {pos' : Pos} (hN : X.N.Nodup) (h : NE X K P e fe) (hi : X.N[i]? = some x := by rfl) (hx : Loc X.env.scope x := by first | exact Or.inl rfl | exact Or.inr rfl) (hs : swapsWith e (some (.Name x pos')) pos.line X.env = pure false := by rfl) (hf : X.fn x = true ∨ X.env.scope.names.lookup x = some .local := by first | exact .inl rfl | exact .inr rfl | assumption) : NS X K P (.Assign [.Name x pos'] e pos) (fAsg P i fe) := by
  have hK' := h.hK
  subst hK'
  exact (ds_set hN h.de (hi := hi) (hx := hx) (hs := hs) (hf := hf)).ne
theorem nds_asg {X : Cx} {P : Nat} {pos : Pos} {e : Expr} {fe : FE} {K : PySem.W.Frag} {tg : Expr} {fg : FG} {tv : List Nat} (h : NE X K P e fe) (hg : NG X K P tg fg tv) (hs : swapsWithSole [tg] e pos.line X.env = pure false := by rfl) (hw : swappedStores [tg] e X.env = pure none := by rfl) (h1 : (assignEach [tg] X.env).map (·.2) = [assign tg X.env] := by rfl) : NS X K P (.Assign [tg] e pos) (fAsgG fe fg) := by
  have hK' := h.hK
  subst hK'
  exact (ds_asg h.de hg.de (hs := hs) (hw := hw) (h1 := h1)).ne
theorem nds_setIx  {K : PySem.W.Frag} {X : Cx} {P : Nat} {j : Nat} {x : Str} {px pos spos : Pos} {i e : Expr} {fi fe : FE} (hi : NE X K P i fi) (he : NE X K P e fe) (hN : X.N[j]? = some x := by rfl) (hv : Vis X.env.scope x := by first | exact Or.inl rfl | exact Or.inr (Or.inl rfl) | exact Or.inr (Or.inr rfl)) (hd : (x == ("__debug__" : Str)) = false := by decide) (hcd : (x == ("__classdict__" : Str)) = false := by decide) (ha : ∀ v, assign (.Subscript (.Name x px) i spos) X.env v = (do
      let ov ← holding [v] (eval (.Name x px) X.env)
      let iv ← holding [v, ov] (eval i X.env)
      standAt spos
      holding [v, ov, iv] (setItem ov iv v)
      release [v, ov, iv] []) := by intro _; rfl) (hs : swapsWithSole [.Subscript (.Name x px) i spos] e pos.line X.env = pure false := by rfl) (hw : swappedStores [.Subscript (.Name x px) i spos] e X.env = pure none := by rfl) (h1 : (assignEach [.Subscript (.Name x px) i spos] X.env).map (·.2) = [assign (.Subscript (.Name x px) i spos) X.env] := by rfl) : NS X K P (.Assign [.Subscript (.Name x px) i spos] e pos) (fSetIx j fi fe) := by
  have hK' := hi.hK
  subst hK'
  exact (ds_setIx hi.de he.de (hN := hN) (hv := hv) (hd := hd) (hcd := hcd) (ha := ha) (hs := hs) (hw := hw) (h1 := h1)).ne
theorem nde_celIx  {K : PySem.W.Frag} {X : Cx} {P : Nat} {j : Nat} {x : Str} {px pos : Pos} {i : Expr} {fi : FE} (hi : NE X K P i fi) (hN : X.N[j]? = some x := by rfl) (hv : Vis X.env.scope x := by first | exact Or.inl rfl | exact Or.inr (Or.inl rfl) | exact Or.inr (Or.inr rfl)) (hd : (x == ("__debug__" : Str)) = false := by decide) (hcd : (x == ("__classdict__" : Str)) = false := by decide) (hs : PlainIx i := by intro _ _; rfl) : NE X K P (.Subscript (.Name x px) i pos) (fCelIx j fi) := by
  have hK' := hi.hK
  subst hK'
  exact (de_celIx hi.de (hN := hN) (hv := hv) (hd := hd) (hcd := hcd) (hs := hs)).ne
theorem nde_app {X : Cx} {P : Nat} {x : Str} {e : Expr} {fe : FE} {K : PySem.W.Frag} {j : Nat} {px apos cpos : Pos} (he : NE X K P e fe) (hN : X.N[j]? = some x := by rfl) (hv : Vis X.env.scope x := by first | exact Or.inl rfl | exact Or.inr (Or.inl rfl) | exact Or.inr (Or.inr rfl)) (hd : (x == ("__debug__" : Str)) = false := by decide) (hcd : (x == ("__classdict__" : Str)) = false := by decide) (hst : starEach [e] X.env = (false, eval e X.env) :: starEach [] X.env := by rfl) (hbm : ∀ tx : TE, PE X (.Name x px) (tVar j) → PA X [e] (tCons tx tNil) → PE X (.Call (.Attribute (.Name x px) "append" apos) [e] [] cpos) (tBM X.K "list" rAppend (tVar j) (tCons tx tNil)) := by exact fun tx h1 h2 => pe_bm PySem.F.plainAttrs_list PySem.F.slot_list_append PySem.F.type_list_append mt_append h1 h2) : NE X K P (.Call (.Attribute (.Name x px) "append" apos) [e] [] cpos) (fAppend j fe) := by
  have hK' := he.hK
  subst hK'
  exact (de_app he.de (hN := hN) (hv := hv) (hd := hd) (hcd := hcd) (hst := hst) (hbm := hbm)).ne
theorem ndi_list {X : Cx} {P : Nat} {tg l : Expr} {fe : FE} {K : PySem.W.Frag} (h : NE X K P l fe) : NI X K P tg l (fiList fe) := by
  have hK' := h.hK
  subst hK'
  exact (di_list h.de).ne
theorem ndi_tup {X : Cx} {P : Nat} {tg l : Expr} {fe : FE} {K : PySem.W.Frag} (h : NE X K P l fe) : NI X K P tg l (fiTup fe) := by
  have hK' := h.hK
  subst hK'
  exact (di_tup h.de).ne
theorem ndi_r1 {X : Cx} {P : Nat} {tg : Expr} {fa : FA} {K : PySem.W.Frag} {a : Expr} {p pos : Pos} (hm : X.mg "range" = none) (ha : NA X K P [a] fa) (hg : Gl X "range" := by rfl) (hs : starEach [a] X.env = [(false, eval a X.env)] := by rfl) : NI X K P tg (.Call (.Name "range" p) [a] [] pos) (fiR1 fa) := by
  have hK' := ha.hK
  subst hK'
  exact (di_r1 hm ha.de (hg := hg) (hs := hs)).ne
theorem ndi_r2 {X : Cx} {P : Nat} {tg : Expr} {fa : FA} {K : PySem.W.Frag} {a b : Expr} {p pos : Pos} (hm : X.mg "range" = none) (ha : NA X K P [a, b] fa) (hg : Gl X "range" := by rfl) (hs : starEach [a, b] X.env = [(false, eval a X.env), (false, eval b X.env)] := by rfl) (hs2 : starEach [b] X.env = [(false, eval b X.env)] := by rfl) : NI X K P tg (.Call (.Name "range" p) [a, b] [] pos) (fiR2 fa) := by
  have hK' := ha.hK
  subst hK'
  exact (di_r2 hm ha.de (hg := hg) (hs := hs) (hs2 := hs2)).ne
theorem nds_for {X : Cx} {P : Nat} {tg iter : Expr} {body : List Stmt} {fi : FI} {fg : FG} {fb : FS} {tv : List Nat} {pos : Pos} {K : PySem.W.Frag} (hc : X.calm = true) (hp : PassesOwn (model X.prog X.w) X.A X.env X.xe) (hi : NI X K P tg iter fi) (hg : NG X K P tg fg tv) (hb : NSs X K P body fb) (hs : ∀ x, foldedSetIterable iter X.env x = pure x := by intro _; rfl) : NS X K P (.For tg iter body [] pos) (fFor fi fg fb) := by
  have hK' := hi.hK
  subst hK'
  exact (ds_for hc hp hi.de hg.de hb.de (hs := hs)).ne
theorem nds_while {X : Cx} {P : Nat} {c : Expr} {body : List Stmt} {ft : FT} {fb : FS} {pos : Pos} {K : PySem.W.Frag} (n : Nat) (hp : PassesOwn (model X.prog X.w) X.A X.env X.xe) (hc : NT X K P c ft) (hb : NSs X K P body fb) : NS X K P (.While c body [] pos) (fWhileN ft fb n) := by
  have hK' := hc.hK
  subst hK'
  exact (ds_while n hp hc.de hb.de).ne
theorem ndts_nil {X : Cx} {P : Nat} {K : PySem.W.Frag} (hK : X.K = K := by rfl) : NTs X K P [] fYes := by
  have hK' := hK
  subst hK'
  exact (dts_nil ).ne
theorem ndts_one {X : Cx} {P : Nat} {ft : FT} {K : PySem.W.Frag} {c : Expr} (h : NT X K P c ft) : NTs X K P [c] ft := by
  have hK' := h.hK
  subst hK'
  exact (dts_one h.de).ne
theorem nde_lc {X : Cx} {P : Nat} {fi : FI} {fg : FG} {ft : FT} {fe : FE} {tv : List Nat} {pos : Pos} {K : PySem.W.Frag} {elt tg iter : Expr} {ifs : List Expr} {scope : Scope} {own : List (Str × Nat)} (hc : X.calm = true) (hN : X.N.Nodup) (hi : NI X K P tg iter fi) (ok : BlkOk X.N X.env.scope scope own) (hg : ∀ (s : Shared) (H : Hp) (C : Addr) (cl : List (Str × Addr)) (fp : List Addr), NG (X.blk s H scope (compEnvC scope cl C X.env) fp) K P tg fg tv) (ht : ∀ (s : Shared) (H : Hp) (C : Addr) (cl : List (Str × Addr)) (fp : List Addr), NTs (X.blk s H scope (compEnvC scope cl C X.env) fp) K P ifs ft) (he : ∀ (s : Shared) (H : Hp) (C : Addr) (cl : List (Str × Addr)) (fp : List Addr), NE (X.blk s H scope (compEnvC scope cl C X.env) fp) K P elt fe) (hv : ∀ i ∈ tv, i ∈ own.map (·.2) := by decide) (hs : ∀ x, foldedSetIterable iter X.env x = pure x := by intro _; rfl) : NE X K P (.ListComp elt [⟨tg, iter, ifs, 0⟩] scope pos) (fLc (own.map (·.2)) fi fg ft fe) := by
  have hK' := hi.hK
  subst hK'
  exact (de_lc (te := cE X.K P fe) (g := cG X.K P fg tv) (tt := cT X.K P ft) hc hN hi.de ok (fun s H C cl fp => (hg s H C cl fp).de) (fun s H C cl fp => (ht s H C cl fp).de) (fun s H C cl fp => (he s H C cl fp).de) (hv := hv) (hs := hs)).ne
theorem nde_cal {X : Cx} {P k np : Nat} {ps : List Str} {x : Str} {p pos : Pos} {e : Expr} {es : List Expr} {fe F : FE} {fa : FA} {K : PySem.W.Frag} (C : Cal X.prog X.w X.K X.mg X.base k x ps np F) (hr : Room k X.A) (he : NE X K P e fe) (ha : NA X K P es fa) (hg : Gl X x := by rfl) (hdb : (x == ("__debug__" : Str)) = false := by decide) (hst : starEach (e :: es) X.env = (false, eval e X.env) :: starEach es X.env := by rfl) (hpl : (backTo pos (starEach es X.env)).any (·.1) = false := by rfl) : NE X K P (.Call (.Name x p) (e :: es) [] pos) (fCall np F fe fa) := by
  have hK' := he.hK
  subst hK'
  exact (de_cal C hr he.de ha.de (hg := hg) (hdb := hdb) (hst := hst) (hpl := hpl)).ne
theorem ndt_tru  {K : PySem.W.Frag} {X : Cx} {P : Nat} {a : Expr} {fa : FE} (h : NE X K P a fa) (he : ∀ whole, isTrue a X.env whole = (do let v ← whole; standAt a.pos; holding [v] (truthy v)) := by intro _; rfl) : NT X K P a (fTru fa) := by
  have hK' := h.hK
  subst hK'
  exact (dt_tru h.de (he := he)).ne
theorem nde_dc2 {X : Cx} {P : Nat} {fi fi1 : FI} {fg fg1 : FG} {ft ft1 : FT} {fk fvl : FE} {tv tv1 : List Nat} {pos : Pos} {K : PySem.W.Frag} {kx vx tg iter tg1 iter1 : Expr} {ifs ifs1 : List Expr} {scope : Scope} {own : List (Str × Nat)} {vs1 : List Nat} (hc : X.calm = true) (hN : X.N.Nodup) (hi : NI X K P tg iter fi) (ok : BlkOk X.N X.env.scope scope own) (hg : ∀ (s : Shared) (H : Hp) (C : Addr) (cl : List (Str × Addr)) (fp : List Addr), NG (X.blk s H scope (compEnvC scope cl C X.env) fp) K P tg fg tv) (ht : ∀ (s : Shared) (H : Hp) (C : Addr) (cl : List (Str × Addr)) (fp : List Addr), NTs (X.blk s H scope (compEnvC scope cl C X.env) fp) K P ifs ft) (hi1 : ∀ (s : Shared) (H : Hp) (C : Addr) (cl : List (Str × Addr)) (fp : List Addr), NI (X.blk s H scope (compEnvC scope cl C X.env) fp) K P tg1 iter1 fi1) (hg1 : ∀ (s : Shared) (H : Hp) (C : Addr) (cl : List (Str × Addr)) (fp : List Addr), NG (X.blk s H scope (compEnvC scope cl C X.env) fp) K P tg1 fg1 tv1) (ht1 : ∀ (s : Shared) (H : Hp) (C : Addr) (cl : List (Str × Addr)) (fp : List Addr), NTs (X.blk s H scope (compEnvC scope cl C X.env) fp) K P ifs1 ft1) (hk : ∀ (s : Shared) (H : Hp) (C : Addr) (cl : List (Str × Addr)) (fp : List Addr), NE (X.blk s H scope (compEnvC scope cl C X.env) fp) K P kx fk) (hvl : ∀ (s : Shared) (H : Hp) (C : Addr) (cl : List (Str × Addr)) (fp : List Addr), NE (X.blk s H scope (compEnvC scope cl C X.env) fp) K P vx fvl) (hv : ∀ i ∈ tv, i ∈ own.map (·.2) := by decide) (hv1 : ∀ i ∈ tv1, i ∈ vs1 := by decide) (hvv : ∀ i ∈ vs1, i ∈ own.map (·.2) := by decide) (hs : ∀ x, foldedSetIterable iter X.env x = pure x := by intro _; rfl) (hs1 : ∀ env x, foldedSetIterable iter1 env x = pure x := by intro _ _; rfl) : NE X K P (.DictComp kx vx [⟨tg, iter, ifs, 0⟩, ⟨tg1, iter1, ifs1, 0⟩] scope pos) (fDc2 (own.map (·.2)) vs1 fi fg ft fi1 fg1 ft1 fk fvl) := by
  have hK' := hi.hK
  subst hK'
  exact (de_dc2 (tk := cE X.K P fk) (tvl := cE X.K P fvl) (g := cG X.K P fg tv) (tt := cT X.K P ft) (wi1 := cI X.K P fi1) (g1 := cG X.K P fg1 tv1) (tt1 := cT X.K P ft1) hc hN hi.de ok (fun s H C cl fp => (hg s H C cl fp).de) (fun s H C cl fp => (ht s H C cl fp).de) (fun s H C cl fp => (hi1 s H C cl fp).de) (fun s H C cl fp => (hg1 s H C cl fp).de) (fun s H C cl fp => (ht1 s H C cl fp).de) (fun s H C cl fp => (hk s H C cl fp).de) (fun s H C cl fp => (hvl s H C cl fp).de) (hv := hv) (hv1 := hv1) (hvv := hvv) (hs := hs) (hs1 := hs1)).ne
theorem nde_sliceT {X : Cx} {P : Nat} {e : Expr} {fe : FE} {pos p2 : Pos} {K : PySem.W.Frag} {lo hi : Option Expr} {fl fh : FO} (h : NE X K P e fe) (hl : NO X K P lo fl) (hh : NO X K P hi fh) : NE X K P (.Subscript e (.Slice lo hi none p2) pos) (fSlT fe fl fh) := by
  have hK' := h.hK
  subst hK'
  exact (de_sliceT h.de hl.de hh.de).ne
theorem nde_catT {X : Cx} {P : Nat} {a b : Expr} {fa fb : FE} {pos : Pos} {K : PySem.W.Frag} (ha : NE X K P a fa) (hb : NE X K P b fb) : NE X K P (.BinOp a .Add b pos) (f2 gCatT fa fb) := by
  have hK' := ha.hK
  subst hK'
  exact (de_catT ha.de hb.de).ne
theorem nde_ixD {X : Cx} {P : Nat} {a b : Expr} {fa fb : FE} {pos : Pos} {K : PySem.W.Frag} {k : Nat} (hr : Room k X.A) (ha : NE X K P a fa) (hb : NE X K P b fb) (hs : NoSl b := by intro _ _; rfl) : NE X K P (.Subscript a b pos) (f2 gIxD fa fb) := by
  have hK' := ha.hK
  subst hK'
  exact (de_ixD hr ha.de hb.de (hs := hs)).ne
theorem nde_lenD {X : Cx} {P : Nat} {e : Expr} {pos p : Pos} {K : PySem.W.Frag} {fas : FA} (hm : X.mg "len" = none) (ha : NA X K P [e] fas) (hg : Gl X "len" := by rfl) (he : starEach [e] X.env = (false, eval e X.env) :: starEach [] X.env := by rfl) (hpl : (backTo pos (starEach [] X.env)).any (·.1) = false := by rfl) : NE X K P (.Call (.Name "len" p) [e] [] pos) (fCa gLenD fas) := by
  have hK' := ha.hK
  subst hK'
  exact (de_lenD hm ha.de (hg := hg) (he := he) (hpl := hpl)).ne
theorem ndi_enT {X : Cx} {P : Nat} {e : Expr} {pos p : Pos} {K : PySem.W.Frag} {fas : FA} {elts : List Expr} {kk : Nat} {tpos : Pos} (hm : X.mg "enumerate" = none) (ha : NA X K P [e] fas) (hg : Gl X "enumerate" := by rfl) (hs : starEach [e] X.env = [(false, eval e X.env)] := by rfl) : NI X K P (.Tuple elts kk tpos) (.Call (.Name "enumerate" p) [e] [] pos) (fiEnT fas) := by
  have hK' := ha.hK
  subst hK'
  exact (di_enT hm ha.de (hg := hg) (hs := hs)).ne
end DL


set_option Elab.async false
set_option linter.all false
set_option maxRecDepth 100000
set_option maxHeartbeats 4000000
namespace LW
open PySem L2 DL
/-! what the laws' helpers do, as functions -/
/-! ### _law_bag: 0 script, 1 k, 2 cell, 3 seed -/
def F_law_bag : FE := fFun 2 2 (fSeq (fAsg 2 2 (fC (.int 0)))
  (fSeq (fIfS (fB (f2 gLt (fVar 1) (fCa gLen (faCons (fVar 0) faNil)))) (fAsg 2 2 (f2 gMod (f2 gIx (fVar 0) (fVar 1)) (f2 gPow (fC (.int 10)) (fC (.int 60))))) fNext)
  (fSeq (fAsg 2 3 (f2 gAdd (fC (.int 1)) (f2 gMod (f2 gAdd (f2 gAdd (f2 gAdd (f2 gMul (f2 gMod (fVar 2) (fC (.int 2147483629))) (fC (.int 16807))) (f2 gMul (f2 gMul (fC (.int 40009)) (fVar 1)) (fVar 1))) (f2 gMul (fC (.int 7919)) (fVar 1))) (fC (.int 1009))) (fC (.int 2147483645)))))
  (fSeq (fIfS (fB (f2 gLt (fVar 2) (f2 gPow (fC (.int 10)) (fC (.int 18))))) (fRet (fLst (faCons (fC (.int 0)) (faCons (fVar 3) faNil)))) fNext)
  (fRet (fLst (faCons (fVar 2) (faCons (fVar 3) faNil))))))))

/-! ### _law_take: 0 bag, 1 many, 2 found -/
def F_law_take : FE := fFun 2 1 (fSeq (fIfS (fB (f2 gGt (fCelIx 0 (fC (.int 0))) (fC (.int 0)))) (fSeq (fAsg 2 2 (f2 gMod (fCelIx 0 (fC (.int 0))) (fVar 1)))
  (fSeq (fSetIx 0 (fC (.int 0)) (f2 gDiv (fCelIx 0 (fC (.int 0))) (fVar 1)))
  (fRet (fVar 2)))) fNext)
  (fSeq (fSetIx 0 (fC (.int 1)) (f2 gMod (f2 gMul (fCelIx 0 (fC (.int 1))) (fC (.int 48271))) (fC (.int 2147483647))))
  (fRet (f2 gMod (f2 gDiv (f2 gMod (f2 gMul (f2 gDiv (fCelIx 0 (fC (.int 1))) (fC (.int 13))) (f2 gAdd (f2 gMod (fCelIx 0 (fC (.int 1))) (fC (.int 32749))) (fC (.int 17)))) (fC (.int 2147483629))) (fC (.int 32))) (fVar 1)))))

/-! ### _law_divisor: 0 numbers, 1 found, 2 number, 3 other -/
/-! ### _law_sorted: 0 squares, 1 top, 2 left, 3 side, 4 one -/
/-! ### _law_lowest: 0 cut, 1 numbers, 2 square, 3 by, 4 left, 5 top, 6 side -/
/-! ### _law_sides: 0 cut, 1 way, 2 square -/
/-! ### _law_put: 0 one, 1 other, 2 way, 3 mine, 4 yours, 5 far, 6 found, 7 left, 8 top, 9 side -/
/-! ### _law_within: 0 cut, 1 number, 2 other, 3 left, 4 top, 5 side, 6 great, 7 found, 8 x, 9 y, 10 s -/
/-! ### _law_base: 0 bag, 1 way, 2 unlike -/
/-! ### _law_cut: 0 bag, 1 deep, 2 one, 3 other, 4 way, 5 found, 6 square -/
end LW


set_option Elab.async false
set_option linter.all false
set_option maxRecDepth 100000
set_option maxHeartbeats 4000000
namespace LW
open PySem L2 DL
/-! the program, as functions -/
/-! ### is_whole: 0 thing -/
/-! ### in_order: 0 squares -/
/-! ### is_rising: 0 squares -/
/-! ### sides: 0 cut, 1 width, 2 height, 3 left, 4 top, 5 side -/
/-! ### are_crossing: 0 start, 1 length, 2 other_start, 3 other_length -/
/-! ### is_over: 0 one, 1 other -/
/-! ### are_apart: 0 squares, 1 one, 2 other -/
/-! ### is_filled: 0 squares, 1 width, 2 height, 3 area, 4 left, 5 top, 6 side -/
/-! ### is_square: 0 thing, 1 left, 2 top, 3 side, 4 number -/
/-! ### is_cut: 0 thing, 1 square -/
end LW


set_option Elab.async false
set_option linter.all false
set_option maxRecDepth 100000
set_option maxHeartbeats 1000000
namespace DL
open PySem PySem.Spec PyProof.Rows PySem.SeqAt L2 MN
/-! ### min of a list of rows of whole numbers -/
section
variable {X : Cx} {pins : List (Addr × Obj)} {σ : L2.St} {H : Hp} {s : Shared}
end
/-! ### the truth of a list of one's own -/
end DL


set_option Elab.async false
set_option linter.all false
set_option maxRecDepth 100000
set_option maxHeartbeats 1000000
namespace DL
open PySem PySem.Spec PyProof.Rows L2 GE ST SK
/-! ### the rules over canonical readings -/
end DL


set_option Elab.async false
set_option linter.all false
set_option maxRecDepth 100000
set_option maxHeartbeats 1000000
/-! A list of two lists of one's own, x = [e1, e2]: x[i].append(e), the two exchanged at a place; it is let go as data at the block's end. -/
namespace DL
open PySem L2
section
variable {K : PySem.W.Frag} {Out M : List Addr} {σ : St} {H H' : Hp} {ρ : List En}
/-- a slot is stored, nothing is said of it -/
theorem FrD.setUn (F : FrD K Out M σ H ρ) {i : Nat} {v : V} : FrD K Out M (σ.set i (some v)) H (ρ.set i .un) where
  len := by rw [List.length_set, List.length_set]; exact F.len
  dat := fun j e q => by
    by_cases hij : i = j
    · subst hij
      by_cases hl : i < ρ.length
      · rw [List.getElem?_set_self hl] at q; cases q
      · rw [List.getElem?_eq_none (by rw [List.length_set]; omega)] at q; cases q
    · rw [List.getElem?_set_ne hij] at q ⊢; exact F.dat j e q
  cel := fun j xs q => by
    by_cases hij : i = j
    · subst hij
      by_cases hl : i < ρ.length
      · rw [List.getElem?_set_self hl] at q; cases q
      · rw [List.getElem?_eq_none (by rw [List.length_set]; omega)] at q; cases q
    · rw [List.getElem?_set_ne hij] at q ⊢; exact F.cel j xs q
  inj := fun j k xs ys a q1 q2 e1 e2 => by
    have ne : ∀ {j : Nat} {xs : List PyData}, (ρ.set i .un)[j]? = some (En.cel xs) → i ≠ j := fun {j xs} q z => by
      subst z
      by_cases hl : i < ρ.length
      · rw [List.getElem?_set_self hl] at q; cases q
      · rw [List.getElem?_eq_none (by rw [List.length_set]; omega)] at q; cases q
    have n1 := ne q1
    have n2 := ne q2
    rw [List.getElem?_set_ne n1] at q1 e1
    rw [List.getElem?_set_ne n2] at q2 e2
    exact F.inj j k xs ys a q1 q2 e1 e2
  out := F.out
  live := F.live
  tab := F.tab
end

abbrev Ow2 := List PyData × List PyData
/-- slot i holds a list of two lists of one's own -/
structure OwAt (K : PySem.W.Frag) (Out M : List Addr) (σ : St) (H : Hp) (ρ : List En) (i : Nat) (S : Ow2) (a b c : Addr) (vs ws : List V) : Prop where
  fr : FrD K (a :: b :: c :: Out) M σ H ρ
  sl : σ[i]? = some (some (.ref a))
  ha : H a = some (.lst [.ref b, .ref c])
  hb : H b = some (.lst vs)
  hc : H c = some (.lst ws)
  d1 : DqAll K (hid M H) vs S.1
  d2 : DqAll K (hid M H) ws S.2
  na : a ∉ Out
  nb : b ∉ Out
  nc : c ∉ Out
  ab : a ≠ b
  ac : a ≠ c
  bc : b ≠ c
def Ow (K : PySem.W.Frag) (Out M : List Addr) (σ : St) (H : Hp) (ρ : List En) (i : Nat) (S : Ow2) : Prop := ∃ a b c vs ws, OwAt K Out M σ H ρ i S a b c vs ws
section
variable {K : PySem.W.Frag} {Out M M' : List Addr} {σ σ' : St} {H H' : Hp} {ρ ρ' : List En} {i : Nat} {S : Ow2} {a b c : Addr} {vs ws : List V}
theorem sub3 {Out : List Addr} {a b c : Addr} : ∀ x ∈ Out, x ∈ a :: b :: c :: Out := fun x h => List.mem_cons_of_mem _ (List.mem_cons_of_mem _ (List.mem_cons_of_mem _ h))
theorem OwAt.step (o : OwAt K Out M σ H ρ i S a b c vs ws) (F : FrD K (a :: b :: c :: Out) M' σ' H' ρ') (x : Ext (a :: b :: c :: Out) M H M' H') (e : σ'[i]? = σ[i]?) : OwAt K Out M' σ' H' ρ' i S a b c vs ws where
  fr := F
  sl := by rw [e]; exact o.sl
  ha := by rw [x.out a List.mem_cons_self]; exact o.ha
  hb := by rw [x.out b (List.mem_cons_of_mem _ List.mem_cons_self)]; exact o.hb
  hc := by rw [x.out c (List.mem_cons_of_mem _ (List.mem_cons_of_mem _ List.mem_cons_self))]; exact o.hc
  d1 := dpAll_mono x.same o.d1
  d2 := dpAll_mono x.same o.d2
  na := o.na
  nb := o.nb
  nc := o.nc
  ab := o.ab
  ac := o.ac
  bc := o.bc
/-- it is let go: data from here on -/
theorem OwAt.free (o : OwAt K Out M σ H ρ i S a b c vs ws) : ∃ M', FrD K Out M' σ H (ρ.set i (.dat (.list [.list S.1, .list S.2]))) ∧ Ext Out M H M' H := by
  have ns : ∀ {x : Addr}, x ∈ a :: b :: c :: Out → ∀ (j : Nat) ys, ρ[j]? = some (En.cel ys) → σ[j]? ≠ some (some (V.ref x)) := fun {x} hx j ys q z => by
    obtain ⟨y, _, e1, _, o1, _⟩ := o.fr.cel j ys q
    rw [z] at e1; cases e1
    exact o1 hx
  have F0 := o.fr.weak (Out' := Out) sub3
  have F1 := F0.drop o.na (ns List.mem_cons_self)
  have F2 := F1.drop o.nb (ns (List.mem_cons_of_mem _ List.mem_cons_self))
  have F3 := F2.drop o.nc (ns (List.mem_cons_of_mem _ (List.mem_cons_of_mem _ List.mem_cons_self)))
  have X1 : Ext Out M H _ H := (Ext.drop (a := a)).trans ((Ext.drop (a := b)).trans (Ext.drop (a := c)))
  refine ⟨_, ?_, X1⟩
  have na : a ∉ ((M.filter (fun x => decide (x ≠ a))).filter (fun x => decide (x ≠ b))).filter (fun x => decide (x ≠ c)) := fun h => not_mem_drop (List.mem_filter.mp (List.mem_filter.mp h).1).1
  have nb : b ∉ ((M.filter (fun x => decide (x ≠ a))).filter (fun x => decide (x ≠ b))).filter (fun x => decide (x ≠ c)) := fun h => not_mem_drop (List.mem_filter.mp h).1
  have nc : c ∉ ((M.filter (fun x => decide (x ≠ a))).filter (fun x => decide (x ≠ b))).filter (fun x => decide (x ≠ c)) := fun h => not_mem_drop h
  have D : Dq K (hid (((M.filter (fun x => decide (x ≠ a))).filter (fun x => decide (x ≠ b))).filter (fun x => decide (x ≠ c))) H) (.ref a) (.list [.list S.1, .list S.2]) := by
    refine .lst (SqL.of (hid_out na o.ha (by intro ps z; cases z))) (.cons (.lst (SqL.of (hid_out nb o.hb (by intro ps z; cases z))) (dpAll_mono X1.same o.d1)) (.cons (.lst (SqL.of (hid_out nc o.hc (by intro ps z; cases z))) (dpAll_mono X1.same o.d2)) .nil))
  have F4 := F3.set (i := i) D
  have hi : i < σ.length := (List.getElem?_eq_some_iff.mp o.sl).1
  rw [show σ.set i (some (V.ref a)) = σ from by
    have e : σ[i] = some (V.ref a) := (List.getElem?_eq_some_iff.mp o.sl).2
    rw [← e]; exact List.set_getElem_self hi] at F4
  exact F4
end

/-! ### statements beside it -/
inductive Oo where
  | nx (ρ : List En) (S : Ow2)
  | rt (r : Rv) (ρ : List En)
abbrev FW := List En → Ow2 → Option Oo
def SQo (K : PySem.W.Frag) (P : Nat) (Out M : List Addr) (σ : St) (H : Hp) (ρ : List En) (D : Ends) (i : Nat) : Oo → Prop
  | .nx ρ' S' => ∀ σ' M' H', Ow K Out M' σ' H' ρ' i S' → Ext Out M H M' H' → Pin P σ ρ σ' ρ' → D.nx σ' H'
  | .rt r ρ' => ∀ v σ' M' H', FrD K Out M' σ' H' ρ' → Ext Out M H M' H' → Pin P σ ρ σ' ρ' → RvOk K Out M' σ' H' ρ' r v → D.rt v H'
theorem SQo.step {K : PySem.W.Frag} {P : Nat} {Out M M1 : List Addr} {σ σ1 : St} {H H1 : Hp} {ρ ρ1 : List En} {D : Ends} {i : Nat} {o : Oo} (q : SQo K P Out M σ H ρ D i o) (x : Ext Out M H M1 H1) (p : Pin P σ ρ σ1 ρ1) : SQo K P Out M1 σ1 H1 ρ1 D i o := by
  cases o with
  | nx ρ' S' => exact fun σ' M' H' f y z => q σ' M' H' f (x.trans y) (p.trans z)
  | rt r ρ' => exact fun v σ' M' H' f y z => q v σ' M' H' f (x.trans y) (p.trans z)
def oS (K : PySem.W.Frag) (P i : Nat) (f : FW) : TS := fun D σ H => ∃ Out M ρ S o, Ow K Out M σ H ρ i S ∧ f ρ S = some o ∧ SQo K P Out M σ H ρ D i o
structure OS (X : Cx) (K : PySem.W.Frag) (P i : Nat) (st : Stmt) (f : FW) : Prop where
  hK : X.K = K
  p : PS X st (oS K P i f)
structure OSs (X : Cx) (K : PySem.W.Frag) (P i : Nat) (st : List Stmt) (f : FW) : Prop where
  hK : X.K = K
  p : PSs X st (oS K P i f)
section
variable {X : Cx} {K : PySem.W.Frag} {P i : Nat} {st : Stmt} {rest : List Stmt} {f g : FW} {pos : Pos} {e : Expr} {fe : FE}
end
end DL


set_option Elab.async false
set_option linter.all false
set_option maxRecDepth 100000
set_option maxHeartbeats 1000000
namespace DL
open PySem L2
section
variable {K : PySem.W.Frag} {Out M : List Addr} {σ : St} {H : Hp} {ρ : List En} {i : Nat} {S : Ow2} {a b c : Addr} {vs ws : List V}
end
section
variable {X : Cx} {K : PySem.W.Frag} {P i : Nat} {pos : Pos} {e ie : Expr} {fe fi : FE}
/-! ### the block -/
theorem pin_mark {P i : Nat} {σ : St} {ρ : List En} {e : En} (h : P ≤ i) : Pin P σ ρ σ (ρ.set i e) := ⟨rfl, fun j hj xs q => ⟨rfl, xs, by rw [List.getElem?_set_ne (by omega)]; exact q⟩⟩
end
/-! ### x[i], x[j] = .., .. in a list of one's own -/
/-! ### len of a list of one's own -/
end DL


set_option Elab.async false
set_option linter.all false
set_option maxRecDepth 100000
set_option maxHeartbeats 1000000
/-! t + u of tuples, t empty or not -/
namespace DL
open PySem L2
end DL


set_option Elab.async false
set_option linter.all false
set_option maxRecDepth 100000
set_option maxHeartbeats 1000000
/-! a < b < c < d as a value -/
namespace DL
open PySem L2
/-! ### t * n -/
end DL


set_option Elab.async false
set_option linter.all false
set_option maxRecDepth 100000
set_option maxHeartbeats 1000000
namespace DL
open PySem L2
end DL


set_option Elab.async false
set_option linter.all false
set_option maxRecDepth 100000
set_option maxHeartbeats 1000000
/-! a comprehension over a list of one's own -/
namespace DL
open PySem L2
theorem lc_sem {K : PySem.W.Frag} {P : Nat} {g : TG} {tt : TT} {te : TE} {fg : FG} {ft : FT} {fe : FE} {tv vs : List Nat} {Out M1 : List Addr} {σ : St} {H1 : Hp} {ρ1 ρ2 : List En} {items ys : List PyData} {J : It} {Q : VK}
    (hg : SG K P g fg tv) (ht : STt K P tt ft) (he : SE K P te fe) (hv : ∀ i ∈ tv, i ∈ vs) (F1 : FrD K Out M1 σ H1 ρ1)
    (it : ∀ (M' : List Addr) (H' : Hp), (∀ c ∈ M', H' c ≠ none) → Same (hid M1 H1) (hid M' H') → (∀ b ∈ Out, H' b = H1 b) → (∀ (i : Nat) d, items[i]? = some d → J.go i H' ∧ ∀ x H3, J.yld i H' x H3 → Same H' H3 ∧ Dq K (hid M' H3) x d) ∧ J.stop items.length H')
    (nc : noCel vs ρ1 = true) (e2 : fLcGo vs fg ft fe items (wipeE ρ1 vs) = some (ys, ρ2)) (hlen : ys.length < 100000)
    (q : ∀ v M' H', FrD K Out M' σ H' (restE ρ1 ρ2 vs) → Ext Out M1 H1 M' H' → Kd P ρ1 (restE ρ1 ρ2 vs) → RvOk K Out M' σ H' (restE ρ1 ρ2 vs) (.new ys) v → Q v H') : tLc (fun _ _ R => R J H1) g tt te vs σ H1 Q := by
  intro D hD
  have F1w := F1.wipe vs
  have F2 := F1w.celNew hD []
  have X2 := F1w.extNew hD []
  have gd := F2.guard (a := D) List.mem_cons_self fun i zs z w => by
    obtain ⟨a, us, ea, m, _⟩ := F1w.cel i zs z
    rw [w] at ea
    cases ea
    exact F1w.live D m hD
  refine ⟨fun i m Hi => ∃ Mi ρi acc vacc zs, FrD K (D :: Out) Mi (wipe σ vs) Hi ρi ∧ Ext Out M1 H1 Mi Hi ∧ Same (hid M1 H1) (hid Mi Hi) ∧ Kd P (wipeE ρ1 vs) ρi ∧ Hi D = some (.lst vacc) ∧ DqAll K (hid Mi Hi) vacc acc ∧ fLcGo vs fg ft fe (items.drop i) ρi = some (zs, ρ2) ∧ acc ++ zs = ys ∧ i ≤ items.length ∧ m = items.length - i,
    ⟨items.length, D :: M1, _, [], [], ys, gd, X2, X2.same, .refl _ _, upd_same, .nil, e2, rfl, Nat.zero_le _, rfl⟩, ?_⟩
  rintro i m Hi ⟨Mi, ρi, acc, vacc, zs, Fi, Xi, si, ki, hDi, da, ei, ea, hi', rfl⟩
  obtain ⟨go, stop⟩ := it Mi Hi Fi.live si Xi.out
  by_cases hlt : i < items.length
  · have ed : items.drop i = items[i] :: items.drop (i + 1) := List.drop_eq_getElem_cons hlt
    rw [ed] at ei
    unfold fLcGo at ei
    obtain ⟨g1, g2⟩ := go i items[i] (List.getElem?_eq_getElem hlt)
    split at ei
    · cases ei
    rename_i ρ3 e3
    refine .inr ⟨g1, fun H' => ∃ M' ρ' acc vacc zs, FrD K (D :: Out) M' (wipe σ vs) H' ρ' ∧ Ext Out M1 H1 M' H' ∧ Same (hid M1 H1) (hid M' H') ∧ Kd P (wipeE ρ1 vs) ρ' ∧ H' D = some (.lst vacc) ∧ DqAll K (hid M' H') vacc acc ∧ fLcGo vs fg ft fe (items.drop (i + 1)) ρ' = some (zs, ρ2) ∧ acc ++ zs = ys, ?_, fun x H3 y => ?_⟩
    · rintro H' ⟨M', ρ', acc', vacc', zs', F', X', s', k', d', da', e', ea'⟩
      exact ⟨items.length - (i + 1), by omega, M', ρ', acc', vacc', zs', F', X', s', k', d', da', e', ea', by omega, rfl⟩
    · obtain ⟨s3, d3⟩ := g2 x H3 y
      have F3 := Fi.grow s3
      have X3 := Fi.ext s3
      have hD3 : H3 D = some (.lst vacc) := s3 _ _ hDi
      refine hg (D :: Out) Mi (wipe σ vs) H3 ρi x items[i] ρ3 _ F3 d3 e3 fun σ4 F4 p4 o4 l4 => ⟨?_, ?_⟩
      · rw [← wipe_wipe σ vs]
        exact wipe_eq l4 fun j hj => o4 j fun z => hj (hv j z)
      have ew : wipe σ4 vs = wipe σ vs := by
        rw [← wipe_wipe σ vs]
        exact wipe_eq l4 fun j hj => o4 j fun z => hj (hv j z)
      have wk : ∀ {A : List Addr} {G : Hp} {B : List Addr} {G' : Hp}, Ext (D :: Out) A G B G' → Ext Out A G B G' := fun z => z.weak fun b hb => List.mem_cons_of_mem _ hb
      split at ei
      · rename_i ρ5 e5
        split at ei
        · rename_i y' ρ6 e6
          split at ei
          · rename_i nc6
            split at ei
            · rename_i ys' ρ7 e7
              cases ei
              refine ht (D :: Out) Mi σ4 H3 ρ3 _ ρ5 _ F4 e5 fun M5 H5 F5 X5 k5 => iteT ?_
              refine he (D :: Out) M5 σ4 H5 ρ5 _ ρ6 _ F5 e6 fun v M6 H6 F6 X6 k6 o6 => ?_
              have hD6 : H6 D = some (.lst vacc) := by rw [X6.out D List.mem_cons_self, X5.out D List.mem_cons_self]; exact hD3
              have mD : D ∈ M6 := F6.out D List.mem_cons_self
              have sA : Same (hid Mi Hi) (hid M6 H6) := (X3.same.trans X5.same).trans X6.same
              have hlA : acc.length < 100000 := by
                have z := congrArg List.length ea
                rw [List.length_append] at z
                omega
              refine ⟨vacc, hD6, by rw [dpAll_len da]; exact lt_line hlA, ?_⟩
              have F7 : FrD K (D :: Out) M6 σ4 (upd H6 D (.lst (vacc ++ [v]))) ρ6 := by
                refine ⟨F6.len, fun j d z => ?_, fun j us z => ?_, F6.inj, F6.out, fun b hb z => ?_, F6.tab.put mD _⟩
                · rw [hid_mut mD]; exact F6.dat j d z
                · obtain ⟨a, ws, ea', m', o', h', d'⟩ := F6.cel j us z
                  refine ⟨a, ws, ea', m', o', ?_, by rw [hid_mut mD]; exact d'⟩
                  rw [upd_ne fun w => o' (by rw [w]; exact List.mem_cons_self)]
                  exact h'
                · by_cases w : b = D
                  · subst w; rw [upd_same] at z; cases z
                  · rw [upd_ne w] at z; exact F6.live b hb z
              have F8 := F7.wipe vs
              rw [ew] at F8
              refine ⟨M6, wipeE ρ6 vs, acc ++ [y'], vacc ++ [v], ys', F8, ?_, ?_, ?_, upd_same, ?_, e7, by rw [List.append_assoc]; exact ea⟩
              · refine ⟨by rw [hid_mut mD]; exact si.trans sA, fun b hb => ?_⟩
                have ne : b ≠ D := fun w => F1.live b (F1.out b hb) (by rw [w]; exact hD)
                rw [upd_ne ne, (wk X6).out b hb, (wk X5).out b hb, (wk X3).out b hb, Xi.out b hb]
              · rw [hid_mut mD]; exact si.trans sA
              · exact ki.trans (p4.kd.trans (k5.trans (k6.trans (kd_wipe nc6))))
              · rw [hid_mut mD]; exact dpAll_app (dpAll_mono sA da) (.cons o6 .nil)
            · cases ei
          · cases ei
        · cases ei
      · rename_i ρ5 e5
        split at ei
        · rename_i nc5
          refine ht (D :: Out) Mi σ4 H3 ρ3 _ ρ5 _ F4 e5 fun M5 H5 F5 X5 k5 => iteF ?_
          have hD5 : H5 D = some (.lst vacc) := by rw [X5.out D List.mem_cons_self]; exact hD3
          have sA : Same (hid Mi Hi) (hid M5 H5) := X3.same.trans X5.same
          have F8 := F5.wipe vs
          rw [ew] at F8
          exact ⟨M5, wipeE ρ5 vs, acc, vacc, zs, F8, ⟨si.trans sA, fun b hb => by rw [(wk X5).out b hb, (wk X3).out b hb, Xi.out b hb]⟩, si.trans sA, ki.trans (p4.kd.trans (k5.trans (kd_wipe nc5))), hD5, dpAll_mono sA da, ei, ea⟩
        · cases ei
      · cases ei
  · have e0 : i = items.length := by omega
    subst e0
    rw [List.drop_length] at ei
    cases ei
    rw [List.append_nil] at ea
    subst ea
    have Fw : FrD K Out Mi (wipe σ vs) Hi ρ2 := Fi.weak fun b hb => List.mem_cons_of_mem _ hb
    have Fr := F1.rest Fw si nc
    refine .inl ⟨stop, q _ Mi Hi Fr Xi ?_ ⟨D, vacc, rfl, Fi.out D List.mem_cons_self, fun z => F1.live D (F1.out D z) hD, hDi, da, fun i zs z w => ?_⟩⟩
    · intro i hi0 xs h
      have h1 := h
      have nm : i ∉ vs := fun m => noCel_ok nc m h1
      rw [restE_out nm]
      exact ki i hi0 xs (by rw [wipeE_out nm]; exact h1)
    · have nm : i ∉ vs := fun m => by
        by_cases l : i < ρ2.length
        · rw [restE_in l m] at z
          cases z0 : ρ1[i]? with
          | none => rw [z0] at z; cases z
          | some e0 => rw [z0] at z; cases z; exact noCel_ok nc m z0
        · rw [List.getElem?_eq_none (by rw [restE_length]; omega)] at z; cases z
      rw [restE_out nm] at z
      obtain ⟨a, us, ea', m', o', _⟩ := Fi.cel i zs z
      rw [wipe_out nm, w] at ea'
      cases ea'
      exact o' List.mem_cons_self

/-- the cell of a slot is set aside, guarded -/
theorem FrD.aside {K : PySem.W.Frag} {Out M : List Addr} {σ : St} {H : Hp} {ρ : List En} (F : FrD K Out M σ H ρ) {j : Nat} {xs : List PyData} {a : Addr} (h : ρ[j]? = some (En.cel xs)) (e : σ[j]? = some (some (V.ref a))) : FrD K (a :: Out) M σ H (ρ.set j .un) := by
  obtain ⟨a', vs, e', m, no, ha, dd⟩ := F.cel j xs h
  rw [e] at e'; cases e'
  have hl : j < ρ.length := (List.getElem?_eq_some_iff.mp h).1
  have get : ∀ {i : Nat} {x : En}, (ρ.set j .un)[i]? = some x → x ≠ .un → j ≠ i ∧ ρ[i]? = some x := fun {i x} q n => by
    by_cases hij : j = i
    · subst hij; rw [List.getElem?_set_self hl] at q; cases q; exact absurd rfl n
    · rw [List.getElem?_set_ne hij] at q; exact ⟨hij, q⟩
  refine ⟨by rw [List.length_set]; exact F.len, fun i d z => F.dat i d (get z (by simp)).2, fun i ys z => ?_, fun i k ys zs b z1 z2 e1 e2 => F.inj i k ys zs b (get z1 (by simp)).2 (get z2 (by simp)).2 e1 e2, fun b hb => ?_, F.live, F.tab⟩
  · obtain ⟨nj, z⟩ := get z (by simp)
    obtain ⟨b, ws, eb, mb, ob, hb, db⟩ := F.cel i ys z
    refine ⟨b, ws, eb, mb, fun w => ?_, hb, db⟩
    rcases List.mem_cons.mp w with w | w
    · exact nj (F.inj j i xs ys a h z e (by rw [eb, w]))
    · exact ob w
  · rcases List.mem_cons.mp hb with w | w
    · rw [w]; exact m
    · exact F.out b w
/-- and taken back -/
theorem FrD.takeBack {K : PySem.W.Frag} {Out M : List Addr} {σ : St} {H : Hp} {ρ : List En} {a : Addr} (F : FrD K (a :: Out) M σ H ρ) {j : Nat} {xs : List PyData} {vs : List V} (no : a ∉ Out) (e : σ[j]? = some (some (V.ref a))) (ha : H a = some (.lst vs)) (dd : DqAll K (hid M H) vs xs) : FrD K Out M σ H (ρ.set j (.cel xs)) := by
  have hl : j < ρ.length := by rw [F.len]; exact (List.getElem?_eq_some_iff.mp e).1
  have m : a ∈ M := F.out a List.mem_cons_self
  have get : ∀ {i : Nat} {ys : List PyData}, (ρ.set j (.cel xs))[i]? = some (En.cel ys) → (j = i ∧ ys = xs) ∨ (j ≠ i ∧ ρ[i]? = some (En.cel ys)) := fun {i ys} q => by
    by_cases hij : j = i
    · subst hij; rw [List.getElem?_set_self hl] at q; cases q; exact .inl ⟨rfl, rfl⟩
    · rw [List.getElem?_set_ne hij] at q; exact .inr ⟨hij, q⟩
  refine ⟨by rw [List.length_set]; exact F.len, fun i d z => ?_, fun i ys z => ?_, fun i k ys zs b z1 z2 e1 e2 => ?_, fun b hb => F.out b (List.mem_cons_of_mem _ hb), F.live, F.tab⟩
  · by_cases hij : j = i
    · subst hij; rw [List.getElem?_set_self hl] at z; cases z
    · rw [List.getElem?_set_ne hij] at z; exact F.dat i d z
  · rcases get z with ⟨rfl, rfl⟩ | ⟨_, z⟩
    · exact ⟨a, vs, e, m, no, ha, dd⟩
    · obtain ⟨b, ws, eb, mb, ob, hb, db⟩ := F.cel i ys z
      exact ⟨b, ws, eb, mb, fun w => ob (List.mem_cons_of_mem _ w), hb, db⟩
  · rcases get z1 with ⟨w1, _⟩ | ⟨w1, z1⟩ <;> rcases get z2 with ⟨w2, _⟩ | ⟨w2, z2⟩
    · rw [← w1, ← w2]
    · subst w1
      rw [e] at e1; cases e1
      obtain ⟨b', ws, eb, mb, ob, _⟩ := F.cel k zs z2
      rw [e2] at eb; cases eb
      exact absurd List.mem_cons_self ob
    · subst w2
      rw [e] at e2; cases e2
      obtain ⟨b', ws, eb, mb, ob, _⟩ := F.cel i ys z1
      rw [e1] at eb; cases eb
      exact absurd List.mem_cons_self ob
    · exact F.inj i k ys zs b z1 z2 e1 e2
def fLcC (j : Nat) (vs : List Nat) (g : FG) (ft : FT) (fe : FE) : FE := fun ρ => match ρ[j]? with
  | some (.cel xs) => if noCel vs (ρ.set j .un) && !vs.contains j then (match fLcGo vs g ft fe xs (wipeE (ρ.set j .un) vs) with
      | some (ys, ρ2) => if ys.length < 100000 then some (.new ys, (restE (ρ.set j .un) ρ2 vs).set j (.cel xs)) else none
      | none => none) else none
  | _ => none
theorem se_lcC {K : PySem.W.Frag} {P j : Nat} {g : TG} {tt : TT} {te : TE} {fg : FG} {ft : FT} {fe : FE} {tv vs : List Nat} (hg : SG K P g fg tv) (ht : STt K P tt ft) (he : SE K P te fe) (hv : ∀ i ∈ tv, i ∈ vs) (hP : P ≤ j) : SE K P (tLc (iList K (tVar j)) g tt te vs) (fLcC j vs fg ft fe) := by
  intro Out M σ H ρ r ρ' Q F e q
  unfold fLcC at e
  split at e
  · rename_i xs ex
    split at e
    · rename_i hc
      rw [Bool.and_eq_true] at hc
      split at e
      · rename_i ys ρ2 e2
        split at e
        · rename_i hlen
          cases e
          obtain ⟨a, us, ea, m, no, ha, dd⟩ := F.cel j xs ex
          have F1 := F.aside ex ea
          refine ⟨_, ea, a, rfl, ⟨us, SqL.of ha⟩, ?_⟩
          refine lc_sem (Out := a :: Out) (M1 := M) (items := xs) hg ht he hv F1 (fun M' H' live s ho => ?_) hc.1 e2 hlen fun v M' H' F' X' k' rv => ?_
          · have h1 : H' a = some (.lst us) := by rw [ho a List.mem_cons_self]; exact ha
            refine ⟨fun i d ei => ?_, ⟨us, SqL.of h1, by rw [dpAll_len dd]; exact Nat.le_refl _⟩⟩
            obtain ⟨w, ew, dw⟩ := dpAll_get (dpAll_mono s dd) ei
            refine ⟨⟨us, w, SqL.of h1, ew⟩, fun x H3 y => ?_⟩
            obtain ⟨rfl, y⟩ := y
            have q := y _ (SqL.of h1)
            rw [ew] at q
            cases q
            exact ⟨Same.refl _, dw⟩
          · have h1 : H' a = some (.lst us) := by rw [X'.out a List.mem_cons_self]; exact ha
            have F2 := F'.takeBack no ea h1 (dpAll_mono X'.same dd)
            refine q v M' H' F2 (X'.weak fun b hb => List.mem_cons_of_mem _ hb) ?_ ?_
            · intro i hi zs z
              by_cases hij : j = i
              · omega
              · have z1 : (ρ.set j En.un)[i]? = some (En.cel zs) := by rw [List.getElem?_set_ne hij]; exact z
                obtain ⟨ws, z2⟩ := k' i hi zs z1
                exact ⟨ws, by rw [List.getElem?_set_ne hij]; exact z2⟩
            · obtain ⟨b, ws, rfl, mb, ob, hb, db, ns⟩ := rv
              refine ⟨b, ws, rfl, mb, fun w => ob (List.mem_cons_of_mem _ w), hb, db, fun i zs z w => ?_⟩
              by_cases hij : j = i
              · subst hij
                rw [ea] at w; cases w
                exact ob List.mem_cons_self
              · rw [List.getElem?_set_ne hij] at z
                exact ns i zs z w
        · cases e
      · cases e
    · cases e
  · cases e
theorem nde_lcC {X : Cx} {P j : Nat} {x : Str} {px : Pos} {fg : FG} {ft : FT} {fe : FE} {tv : List Nat} {pos : Pos} {K : PySem.W.Frag} {elt tg : Expr} {ifs : List Expr} {scope : Scope} {own : List (Str × Nat)} (hc : X.calm = true) (hN : X.N.Nodup) (ok : BlkOk X.N X.env.scope scope own)
    (hg : ∀ (s : Shared) (H : Hp) (C : Addr) (cl : List (Str × Addr)) (fp : List Addr), NG (X.blk s H scope (compEnvC scope cl C X.env) fp) K P tg fg tv) (ht : ∀ (s : Shared) (H : Hp) (C : Addr) (cl : List (Str × Addr)) (fp : List Addr), NTs (X.blk s H scope (compEnvC scope cl C X.env) fp) K P ifs ft)
    (he : ∀ (s : Shared) (H : Hp) (C : Addr) (cl : List (Str × Addr)) (fp : List Addr), NE (X.blk s H scope (compEnvC scope cl C X.env) fp) K P elt fe) (hK : X.K = K := by rfl) (hv : ∀ i ∈ tv, i ∈ own.map (·.2) := by decide) (hP : P ≤ j := by decide)
    (hNj : X.N[j]? = some x := by rfl) (hvx : Vis X.env.scope x := by first | exact Or.inl rfl | exact Or.inr (Or.inl rfl) | exact Or.inr (Or.inr rfl)) (hd : (x == ("__debug__" : Str)) = false := by decide) (hcd : (x == ("__classdict__" : Str)) = false := by decide)
    (hs : ∀ y, foldedSetIterable (.Name x px) X.env y = pure y := by intro _; rfl) :
    NE X K P (.ListComp elt [⟨tg, .Name x px, ifs, 0⟩] scope pos) (fLcC j (own.map (·.2)) fg ft fe) := by
  subst hK
  exact DE.ne ⟨pe_lc hc hN (pi_list (pe_var hNj hvx hd hcd)) ok (fun s H C cl fp => (hg s H C cl fp).p) (fun s H C cl fp => (ht s H C cl fp).p) (fun s H C cl fp => (he s H C cl fp).p) hs,
    se_lcC (hg X.s_0 X.H_0 0 [] []).de.2 (ht X.s_0 X.H_0 0 [] []).de.2 (he X.s_0 X.H_0 0 [] []).de.2 hv hP⟩
end DL


set_option Elab.async false
set_option linter.all false
set_option maxRecDepth 100000
set_option maxHeartbeats 1000000
/-! A dict of lists of one's own, x = {}: x[k] = [e] for a new key, x[k].append(e); it is let go as data at the block's end. -/
namespace DL
open PySem L2
abbrev OdS := List (Int × List PyData)
def odK (S : OdS) (bs : List Addr) : List (Key × V) := List.zipWith (fun p b => ((Sum.inl p.1 : Key), V.ref b)) S bs
structure OdAt (K : PySem.W.Frag) (Out M : List Addr) (σ : St) (H : Hp) (ρ : List En) (i : Nat) (S : OdS) (a : Addr) (bs : List Addr) : Prop where
  fr : FrD K (a :: (bs ++ Out)) M σ H ρ
  sl : σ[i]? = some (some (.ref a))
  ha : H a = some (.dK (odK S bs))
  len : bs.length = S.length
  at_ : ∀ (n : Nat) k xs b, S[n]? = some (k, xs) → bs[n]? = some b → ∃ vs, H b = some (.lst vs) ∧ DqAll K (hid M H) vs xs
  nd : (a :: bs).Nodup
  no : ∀ x ∈ a :: bs, x ∉ Out
def Od (K : PySem.W.Frag) (Out M : List Addr) (σ : St) (H : Hp) (ρ : List En) (i : Nat) (S : OdS) : Prop := ∃ a bs, OdAt K Out M σ H ρ i S a bs
section
variable {K : PySem.W.Frag} {Out M M' : List Addr} {σ σ' : St} {H H' : Hp} {ρ ρ' : List En} {i : Nat} {S : OdS} {a : Addr} {bs : List Addr}
theorem subD {Out bs : List Addr} {a : Addr} : ∀ x ∈ Out, x ∈ a :: (bs ++ Out) := fun x h => List.mem_cons_of_mem _ (List.mem_append.mpr (.inr h))
theorem mem_bs {Out bs : List Addr} {a b : Addr} (h : b ∈ bs) : b ∈ a :: (bs ++ Out) := List.mem_cons_of_mem _ (List.mem_append.mpr (.inl h))
theorem OdAt.step (o : OdAt K Out M σ H ρ i S a bs) (F : FrD K (a :: (bs ++ Out)) M' σ' H' ρ') (x : Ext (a :: (bs ++ Out)) M H M' H') (e : σ'[i]? = σ[i]?) : OdAt K Out M' σ' H' ρ' i S a bs where
  fr := F
  sl := by rw [e]; exact o.sl
  ha := by rw [x.out a List.mem_cons_self]; exact o.ha
  len := o.len
  at_ := fun n k xs b h1 h2 => by
    obtain ⟨vs, hb, d⟩ := o.at_ n k xs b h1 h2
    exact ⟨vs, by rw [x.out b (mem_bs (List.mem_of_getElem? h2))]; exact hb, dpAll_mono x.same d⟩
  nd := o.nd
  no := o.no
end
/-! ### statements beside it -/
inductive Dd where
  | nx (ρ : List En) (S : OdS)
  | rt (r : Rv) (ρ : List En)
abbrev FD := List En → OdS → Option Dd
def SQd (K : PySem.W.Frag) (P : Nat) (Out M : List Addr) (σ : St) (H : Hp) (ρ : List En) (D : Ends) (i : Nat) : Dd → Prop
  | .nx ρ' S' => ∀ σ' M' H', Od K Out M' σ' H' ρ' i S' → Ext Out M H M' H' → Pin P σ ρ σ' ρ' → D.nx σ' H'
  | .rt r ρ' => ∀ v σ' M' H', FrD K Out M' σ' H' ρ' → Ext Out M H M' H' → Pin P σ ρ σ' ρ' → RvOk K Out M' σ' H' ρ' r v → D.rt v H'
theorem SQd.step {K : PySem.W.Frag} {P : Nat} {Out M M1 : List Addr} {σ σ1 : St} {H H1 : Hp} {ρ ρ1 : List En} {D : Ends} {i : Nat} {o : Dd} (q : SQd K P Out M σ H ρ D i o) (x : Ext Out M H M1 H1) (p : Pin P σ ρ σ1 ρ1) : SQd K P Out M1 σ1 H1 ρ1 D i o := by
  cases o with
  | nx ρ' S' => exact fun σ' M' H' f y z => q σ' M' H' f (x.trans y) (p.trans z)
  | rt r ρ' => exact fun v σ' M' H' f y z => q v σ' M' H' f (x.trans y) (p.trans z)
def dS (K : PySem.W.Frag) (P i : Nat) (f : FD) : TS := fun D σ H => ∃ Out M ρ S o, Od K Out M σ H ρ i S ∧ f ρ S = some o ∧ SQd K P Out M σ H ρ D i o
structure QS (X : Cx) (K : PySem.W.Frag) (P i : Nat) (st : Stmt) (f : FD) : Prop where
  hK : X.K = K
  p : PS X st (dS K P i f)
structure QSs (X : Cx) (K : PySem.W.Frag) (P i : Nat) (st : List Stmt) (f : FD) : Prop where
  hK : X.K = K
  p : PSs X st (dS K P i f)
section
variable {X : Cx} {K : PySem.W.Frag} {P i : Nat} {st : Stmt} {rest : List Stmt} {f g : FD} {pos : Pos} {e ie : Expr} {fe fi : FE}
end
/-! ### what the dict holds -/
section
variable {K : PySem.W.Frag} {Out M : List Addr} {σ : St} {H : Hp} {ρ : List En}
/-- a guarded thing's content is changed -/
theorem FrD.putO (F : FrD K Out M σ H ρ) {a : Addr} (ha : a ∈ Out) (o : HO) (n1 : ∀ ps, o ≠ .tbl ps) (n2 : ∀ a b, o ≠ .frz a b) : FrD K Out M σ (upd H a o) ρ where
  len := F.len
  dat := fun j f q => by rw [hid_mut (F.out a ha)]; exact F.dat j f q
  cel := fun j zs q => by
    obtain ⟨b, us, e1, m1, o1, hb, db⟩ := F.cel j zs q
    refine ⟨b, us, e1, m1, o1, ?_, by rw [hid_mut (F.out a ha)]; exact db⟩
    rw [upd_ne fun w => o1 (by rw [w]; exact ha)]; exact hb
  inj := F.inj
  out := F.out
  live := fun b q z => by
    by_cases w : b = a
    · subst w; rw [upd_same] at z; cases z
    · rw [upd_ne w] at z; exact F.live b q z
  tab := F.tab.putO (F.out a ha) o n1 n2
theorem FrD.extO {Out' : List Addr} (F : FrD K Out M σ H ρ) {a : Addr} (ha : a ∈ Out) (hn : a ∉ Out') (o : HO) : Ext Out' M H M (upd H a o) :=
  ⟨by rw [hid_mut (F.out a ha)]; exact Same.refl _, fun b q => upd_ne fun z => hn (by rw [← z]; exact q)⟩
end
section
variable {X : Cx} {K : PySem.W.Frag} {P i : Nat} {pos : Pos} {e ie ve : Expr} {fe fi fv : FE}
end

/-! ### the block -/
/-- behind the statement a thing stands still -/
def tFrzS (t : TS) : TS := fun D σ H => t { D with nx := fun σ' H' => ∃ a u, H' a = some u ∧ Mut (some u) ∧ ∀ od, D.nx σ' (upd H' a (.frz od u)) } σ H
theorem ps_frz {X : Cx} {st : Stmt} {t : TS} (h : PS X st t) : PS X st (tFrzS t) := by
  intro pins s σ H D I hw
  refine thn (h pins s σ H _ I hw) fun fl s1 sp => ?_
  cases fl with
  | next =>
    obtain ⟨σ', H', I1, a, u, hu, mu, q⟩ := sp
    obtain ⟨od, I2⟩ := I1.lock hu mu
    exact ⟨σ', _, I2, q od⟩
  | brk => exact sp
  | cont => exact sp
  | ret u => exact sp
section
variable {K : PySem.W.Frag} {Out M M' : List Addr} {σ σ' : St} {H H' : Hp} {ρ ρ' : List En} {i : Nat} {S : OdS} {a : Addr} {bs : List Addr}
theorem FrD.dropAll : ∀ (bs : List Addr) {M : List Addr}, FrD K Out M σ H ρ → (∀ b ∈ bs, b ∉ Out) → (∀ b ∈ bs, ∀ (j : Nat) ys, ρ[j]? = some (En.cel ys) → σ[j]? ≠ some (some (V.ref b))) → ∃ M', FrD K Out M' σ H ρ ∧ Ext Out M H M' H ∧ (∀ b ∈ bs, b ∉ M') ∧ ∀ x ∈ M', x ∈ M
  | [], M, F, _, _ => ⟨M, F, .refl _ _ _, fun _ h => (List.not_mem_nil h).elim, fun _ h => h⟩
  | b :: bs, M, F, ho, hs => by
    have F1 := F.drop (ho b List.mem_cons_self) (hs b List.mem_cons_self)
    obtain ⟨M', F2, X2, n2, s2⟩ := FrD.dropAll bs F1 (fun c h => ho c (List.mem_cons_of_mem _ h)) fun c h => hs c (List.mem_cons_of_mem _ h)
    refine ⟨M', F2, (Ext.drop (a := b)).trans X2, fun c h z => ?_, fun x h => (List.mem_filter.mp (s2 x h)).1⟩
    rcases List.mem_cons.mp h with w | w
    · subst w; exact not_mem_drop (s2 _ z)
    · exact n2 c w z
def odD (S : OdS) : PyData := dk (S.map fun p => ((Sum.inl p.1 : Key), PyData.list p.2))
theorem odK_dq : ∀ {S : OdS} {bs : List Addr} {M : List Addr}, bs.length = S.length → (∀ b ∈ bs, b ∉ M) → (∀ (n : Nat) k xs b, S[n]? = some (k, xs) → bs[n]? = some b → ∃ vs, H b = some (.lst vs) ∧ DqAll K (hid M H) vs xs) →
    DqAll K (hid M H) ((odK S bs).map (·.2)) (S.map fun p => PyData.list p.2) ∧ ((odK S bs).map fun p => keyD p.1).zip (S.map fun p => PyData.list p.2) = (S.map fun p => ((Sum.inl p.1 : Key), PyData.list p.2)).map fun p => (keyD p.1, p.2)
  | [], bs, M, _, _, _ => ⟨.nil, by cases bs <;> rfl⟩
  | _ :: _, [], _, hl, _, _ => by simp at hl
  | (k, xs) :: S, b :: bs, M, hl, hn, h => by
    obtain ⟨vs, hb, d⟩ := h 0 k xs b rfl rfl
    obtain ⟨i1, i2⟩ := odK_dq (S := S) (bs := bs) (M := M) (by simpa using hl) (fun c hc => hn c (List.mem_cons_of_mem _ hc)) fun n k' xs' b' h1 h2 => h (n + 1) k' xs' b' (by simpa using h1) (by simpa using h2)
    refine ⟨.cons (.lst (SqL.of (hid_out (hn b List.mem_cons_self) hb fun _ z => nomatch z)) d) i1, ?_⟩
    show (keyD (Sum.inl k), PyData.list xs) :: (((odK S bs).map fun p => keyD p.1).zip (S.map fun p => PyData.list p.2)) = _
    rw [i2]
    rfl
theorem OdAt.free (o : OdAt K Out M σ H ρ i S a bs) (od : Obj) : ∃ M', FrD K Out M' σ (upd H a (.frz od (.dK (odK S bs)))) (ρ.set i (.dat (odD S))) ∧ Ext Out M H M' (upd H a (.frz od (.dK (odK S bs)))) := by
  have ns : ∀ {x : Addr}, x ∈ a :: (bs ++ Out) → ∀ (j : Nat) ys, ρ[j]? = some (En.cel ys) → σ[j]? ≠ some (some (V.ref x)) := fun {x} hx j ys q z => by
    obtain ⟨y, _, e1, _, o1, _⟩ := o.fr.cel j ys q
    rw [z] at e1; cases e1
    exact o1 hx
  have mA : a ∈ M := o.fr.out a List.mem_cons_self
  have oA : a ∉ Out := o.no a List.mem_cons_self
  have F0 := o.fr.weak (Out' := Out) subD
  have F1 := F0.dropO oA (ns List.mem_cons_self) mA (.frz od (.dK (odK S bs))) (fun _ z => nomatch z)
  have X1 : Ext Out M H _ (upd H a (.frz od (.dK (odK S bs)))) := Ext.dropO mA oA
  obtain ⟨M', F2, X2, n2, s2⟩ := FrD.dropAll bs F1 (fun b hb => o.no b (List.mem_cons_of_mem _ hb)) fun b hb => ns (mem_bs hb)
  have X3 := X1.trans X2
  have na : a ∉ M' := fun z => not_mem_drop (s2 a z)
  have nda := o.nd
  rw [List.nodup_cons] at nda
  refine ⟨M', ?_, X3⟩
  obtain ⟨d1, d2⟩ := odK_dq (K := K) (H := upd H a (.frz od (.dK (odK S bs)))) (S := S) (bs := bs) (M := M') o.len n2 fun n k xs b h1 h2 => by
    obtain ⟨vs, hb, d⟩ := o.at_ n k xs b h1 h2
    exact ⟨vs, by rw [upd_ne fun z => nda.1 (by rw [← z]; exact List.mem_of_getElem? h2)]; exact hb, dpAll_mono X3.same d⟩
  have D : Dq K (hid M' (upd H a (.frz od (.dK (odK S bs))))) (.ref a) (odD S) := by
    have := Dq.dct (K := K) (H := hid M' (upd H a (.frz od (.dK (odK S bs))))) (a := a) (o := od) (hid_out na upd_same fun _ z => nomatch z) d1
    rw [d2] at this
    exact this
  have F4 := F2.set (i := i) D
  have hi : i < σ.length := (List.getElem?_eq_some_iff.mp o.sl).1
  rw [show σ.set i (some (V.ref a)) = σ from by
    have e : σ[i] = some (V.ref a) := (List.getElem?_eq_some_iff.mp o.sl).2
    rw [← e]; exact List.set_getElem_self hi] at F4
  exact F4
end
section
variable {X : Cx} {K : PySem.W.Frag} {P i : Nat} {pos : Pos}
end
end DL


set_option Elab.async false
set_option linter.all false
set_option maxRecDepth 100000
set_option maxHeartbeats 1000000
/-! list(range(a, b)) -/
namespace DL
open PySem PySem.Spec PyProof.Rows L2
end DL


set_option Elab.async false
set_option linter.all false
set_option maxRecDepth 100000
set_option maxHeartbeats 1000000
/-! Dicts of one's own, held by value beside the frame, the newest first: x = {}, x[k] = v; let go as data. -/
namespace DL
open PySem L2
inductive Ot where
  | dic (kvs : List (Int × PyData))
  | dit (ks : List NK.TK)
def zipK (kvs : List (Int × PyData)) (vs : List V) : List (Key × V) := List.zipWith (fun p v => ((Sum.inl p.1 : Key), v)) kvs vs
def OtAt (K : PySem.W.Frag) (G : Hp) (a : Addr) (u : HO) : Ot → Prop
  | .dic kvs => ∃ vs : List V, u = .dK (zipK kvs vs) ∧ DqAll K G vs (kvs.map (·.2))
  | .dit ks => ∃ bs : List Addr, u = .ext (isDn a ks bs) ∧ DqAll K G (bs.map V.ref) (ks.map tkD) ∧ ks.Nodup ∧ ks.length ≤ sizeLine
section
variable {K : PySem.W.Frag} {G G' : Hp} {a : Addr} {u : HO} {o : Ot}
theorem OtAt.mono (s : Same G G') (h : OtAt K G a u o) : OtAt K G' a u o := by
  cases o with
  | dic kvs => obtain ⟨vs, h1, h2⟩ := h; exact ⟨vs, h1, dpAll_mono s h2⟩
  | dit ks => obtain ⟨bs, h1, h2, h3⟩ := h; exact ⟨bs, h1, dpAll_mono s h2, h3⟩
theorem OtAt.nt (h : OtAt K G a u o) : ∀ ps, u ≠ .tbl ps := by
  cases o with
  | dic kvs => obtain ⟨vs, rfl, h2⟩ := h; exact fun _ z => nomatch z
  | dit ks => obtain ⟨bs, rfl, h2⟩ := h; exact fun _ z => nomatch z
theorem OtAt.nf (h : OtAt K G a u o) : ∀ x y, u ≠ .frz x y := by
  cases o with
  | dic kvs => obtain ⟨vs, rfl, h2⟩ := h; exact fun _ _ z => nomatch z
  | dit ks => obtain ⟨bs, rfl, h2⟩ := h; exact fun _ _ z => nomatch z
theorem OtAt.mu (h : OtAt K G a u o) : Mut (some u) := by
  cases o with
  | dic kvs => obtain ⟨vs, rfl, h2⟩ := h; exact trivial
  | dit ks => obtain ⟨bs, rfl, h2⟩ := h; exact trivial
end
abbrev Gs := List (Nat × Ot)
inductive GAll (K : PySem.W.Frag) (M : List Addr) (σ : St) (H : Hp) : Gs → List Addr → Prop
  | nil : GAll K M σ H [] []
  | cons {i : Nat} {o : Ot} {a : Addr} {u : HO} {S : Gs} {as : List Addr} : σ[i]? = some (some (.ref a)) → H a = some u → OtAt K (hid M H) a u o → GAll K M σ H S as → GAll K M σ H ((i, o) :: S) (a :: as)
structure GAt (K : PySem.W.Frag) (Out M : List Addr) (σ : St) (H : Hp) (ρ : List En) (S : Gs) (as : List Addr) : Prop where
  fr : FrD K (as ++ Out) M σ H ρ
  all : GAll K M σ H S as
  nd : as.Nodup
  no : ∀ x ∈ as, x ∉ Out
def GG (K : PySem.W.Frag) (Out M : List Addr) (σ : St) (H : Hp) (ρ : List En) (S : Gs) : Prop := ∃ as, GAt K Out M σ H ρ S as
section
variable {K : PySem.W.Frag} {Out M M' : List Addr} {σ σ' : St} {H H' : Hp} {ρ ρ' : List En} {i : Nat} {S : Gs} {a : Addr} {as : List Addr}
theorem GAll.step (g : GAll K M σ H S as) (s : Same (hid M H) (hid M' H')) (k : ∀ a ∈ as, H' a = H a) (e : ∀ p ∈ S, σ'[p.1]? = σ[p.1]?) : GAll K M' σ' H' S as := by
  induction g with
  | nil => exact .nil
  | @cons i o a u S as h1 h2 h3 _ ih =>
    exact .cons (by rw [e _ List.mem_cons_self]; exact h1) (by rw [k a List.mem_cons_self]; exact h2) (h3.mono s) (ih (fun b hb => k b (List.mem_cons_of_mem _ hb)) fun p hp => e p (List.mem_cons_of_mem _ hp))
theorem GAt.step (o : GAt K Out M σ H ρ S as) (F : FrD K (as ++ Out) M' σ' H' ρ') (x : Ext (as ++ Out) M H M' H') (e : ∀ p ∈ S, σ'[p.1]? = σ[p.1]?) : GAt K Out M' σ' H' ρ' S as :=
  ⟨F, o.all.step x.same (fun b hb => x.out b (List.mem_append.mpr (.inl hb))) e, o.nd, o.no⟩
theorem subA {Out as : List Addr} : ∀ x ∈ Out, x ∈ as ++ Out := fun x h => List.mem_append.mpr (.inr h)
end
inductive Gd where
  | nx (ρ : List En) (S : Gs)
  | rt (r : Rv) (ρ : List En)
abbrev FOg := List En → Gs → Option Gd
def SQg (K : PySem.W.Frag) (P : Nat) (Out M : List Addr) (σ : St) (H : Hp) (ρ : List En) (D : Ends) : Gd → Prop
  | .nx ρ' S' => ∀ σ' M' H', GG K Out M' σ' H' ρ' S' → Ext Out M H M' H' → Pin P σ ρ σ' ρ' → D.nx σ' H'
  | .rt r ρ' => ∀ v σ' M' H', FrD K Out M' σ' H' ρ' → Ext Out M H M' H' → Pin P σ ρ σ' ρ' → RvOk K Out M' σ' H' ρ' r v → D.rt v H'
theorem SQg.step {K : PySem.W.Frag} {P : Nat} {Out M M1 : List Addr} {σ σ1 : St} {H H1 : Hp} {ρ ρ1 : List En} {D : Ends} {o : Gd} (q : SQg K P Out M σ H ρ D o) (x : Ext Out M H M1 H1) (p : Pin P σ ρ σ1 ρ1) : SQg K P Out M1 σ1 H1 ρ1 D o := by
  cases o with
  | nx ρ' S' => exact fun σ' M' H' f y z => q σ' M' H' f (x.trans y) (p.trans z)
  | rt r ρ' => exact fun v σ' M' H' f y z => q v σ' M' H' f (x.trans y) (p.trans z)
def gTS (K : PySem.W.Frag) (P : Nat) (f : FOg) : TS := fun D σ H => ∃ Out M ρ S o, GG K Out M σ H ρ S ∧ f ρ S = some o ∧ SQg K P Out M σ H ρ D o
structure GS (X : Cx) (K : PySem.W.Frag) (P : Nat) (st : Stmt) (f : FOg) : Prop where
  hK : X.K = K
  p : PS X st (gTS K P f)
structure GSs (X : Cx) (K : PySem.W.Frag) (P : Nat) (st : List Stmt) (f : FOg) : Prop where
  hK : X.K = K
  p : PSs X st (gTS K P f)
def frS (S : Gs) (j : Nat) : Bool := S.all fun p => decide (j ≠ p.1)
theorem frS_ne {S : Gs} {j : Nat} (h : frS S j = true) {σ : St} {v : V} : ∀ p ∈ S, (σ.set j (some v))[p.1]? = σ[p.1]? := fun p hp => List.getElem?_set_ne (of_decide_eq_true (List.all_eq_true.mp h p hp))
def fgNext : FOg := fun ρ S => some (.nx ρ S)
def fgSeq (f g : FOg) : FOg := fun ρ S => match f ρ S with
  | some (.nx ρ1 S1) => g ρ1 S1
  | some (.rt r ρ1) => some (.rt r ρ1)
  | none => none
def fgIf (t : FT) (f g : FOg) : FOg := fun ρ S => match t ρ with
  | some (true, ρ1) => f ρ1 S
  | some (false, ρ1) => g ρ1 S
  | none => none
def fgSet (P j : Nat) (f : FE) : FOg := fun ρ S => if frS S j then (match f ρ with
  | some (.dat d, ρ1) => (match setE P j (.dat d) ρ1 with
    | some ρ2 => some (.nx ρ2 S)
    | none => none)
  | some (.new xs, ρ1) => (match setE P j (.cel xs) ρ1 with
    | some ρ2 => some (.nx ρ2 S)
    | none => none)
  | _ => none) else none
def fgExp (f : FE) : FOg := fun ρ S => match f ρ with
  | some (_, ρ1) => some (.nx ρ1 S)
  | none => none
def fgForGo (P j : Nat) (body : FOg) : List PyData → FOg
  | [], ρ, S => some (.nx ρ S)
  | x :: xs, ρ, S => if frS S j then (match fgName P j x ρ with
    | none => none
    | some ρ1 => match body ρ1 S with
      | some (.nx ρ2 S2) => fgForGo P j body xs ρ2 S2
      | some (.rt r ρ2) => some (.rt r ρ2)
      | none => none) else none
def fgFor (P j : Nat) (fi : FI) (body : FOg) : FOg := fun ρ S => match fi ρ with
  | some (items, ρ1) => fgForGo P j body items ρ1 S
  | none => none
def fgWhile (t : FT) (body : FOg) : Nat → FOg
  | 0, _, _ => none
  | n + 1, ρ, S => match t ρ with
    | some (false, ρ1) => some (.nx ρ1 S)
    | some (true, ρ1) => (match body ρ1 S with
      | some (.nx ρ2 S2) => fgWhile t body n ρ2 S2
      | some (.rt r ρ2) => some (.rt r ρ2)
      | none => none)
    | none => none
/-- when none is left, plain statements go on -/
def fgRest (f : FS) : FOg := fun ρ S => match S with
  | [] => (match f ρ with
    | some (.nx ρ1) => some (.nx ρ1 [])
    | some (.rt r ρ1) => some (.rt r ρ1)
    | _ => none)
  | _ => none
/-- statements with dicts of one's own, none before, none behind -/
def fOwnG (g : FOg) : FS := fun ρ => match g ρ [] with
  | some (.nx ρ1 []) => some (.nx ρ1)
  | some (.rt r ρ1) => some (.rt r ρ1)
  | _ => none
section
variable {X : Cx} {K : PySem.W.Frag} {P i : Nat} {st : Stmt} {rest : List Stmt} {f g : FOg} {pos : Pos} {e ie : Expr} {fe fi : FE}
theorem gss_nil (hK : X.K = K := by rfl) : GSs X K P [] fgNext := ⟨hK, fun pins s σ H D I ⟨Out, M, ρ, S, o, w, e, q⟩ => pss_nil pins s σ H D I (by
  cases e
  exact q σ M H w (.refl _ _ _) (.refl _ _ _))⟩
theorem gss_cons (h1 : GS X K P st f) (h2 : GSs X K P rest g) : GSs X K P (st :: rest) (fgSeq f g) := ⟨h1.hK, fun pins s σ H D I ⟨Out, M, ρ, S, o, w, e, q⟩ => pss_cons h1.p h2.p pins s σ H D I (by
  unfold fgSeq at e
  split at e
  · rename_i ρ1 S1 e1
    exact ⟨Out, M, ρ, S, _, w, e1, fun σ' M' H' w' x p => ⟨Out, M', ρ1, S1, o, w', e, q.step x p⟩⟩
  · rename_i r ρ1 e1
    cases e
    exact ⟨Out, M, ρ, S, _, w, e1, q⟩
  · cases e)⟩
theorem gs_if {c : Expr} {a b : List Stmt} {ft : FT} (hc : NT X K P c ft) (h1 : GSs X K P a f) (h2 : GSs X K P b g) : GS X K P (.If c a b pos) (fgIf ft f g) := ⟨h1.hK, fun pins s σ H D I ⟨Out, M, ρ, S, o, ⟨as, w⟩, e, q⟩ => ps_if hc.p h1.p h2.p pins s σ H D I (by
  unfold fgIf at e
  split at e
  · rename_i ρ1 e1
    exact ⟨_, M, ρ, _, ρ1, w.fr, e1, fun M' H' F' x k => iteT ⟨Out, M', ρ1, S, o, ⟨as, w.step F' x fun _ _ => rfl⟩, e, q.step (x.weak subA) k.pin⟩⟩
  · rename_i ρ1 e1
    exact ⟨_, M, ρ, _, ρ1, w.fr, e1, fun M' H' F' x k => iteF ⟨Out, M', ρ1, S, o, ⟨as, w.step F' x fun _ _ => rfl⟩, e, q.step (x.weak subA) k.pin⟩⟩
  · cases e)⟩
theorem gs_set {j : Nat} {x : Str} {pos' : Pos} (hN : X.N.Nodup) (h : NE X K P e fe) (hi : X.N[j]? = some x := by rfl) (hx : Loc X.env.scope x := by first | exact Or.inl rfl | exact Or.inr rfl) (hs : swapsWith e (some (.Name x pos')) pos.line X.env = pure false := by rfl) (hf : X.fn x = true ∨ X.env.scope.names.lookup x = some .local := by first | exact .inl rfl | exact .inr rfl | assumption) : GS X K P (.Assign [.Name x pos'] e pos) (fgSet P j fe) := ⟨h.hK, fun pins s σ H D I ⟨Out, M, ρ, S, o, ⟨as, w⟩, e, q⟩ => ps_set hN hi hx h.p hs hf pins s σ H D I (by
  unfold fgSet at e
  split at e
  rotate_left
  · cases e
  rename_i hfr
  split at e
  · rename_i d ρ1 e1
    split at e
    · rename_i ρ2 e2
      cases e
      obtain ⟨rfl, hn⟩ := setE_some e2
      refine ⟨_, M, ρ, _, ρ1, w.fr, e1, fun v M' H' F' x k rv => ?_⟩
      exact q _ M' H' ⟨as, w.step (F'.set rv) x (frS_ne hfr)⟩ (x.weak subA) (k.pin.trans (pin_set hn))
    · cases e
  · rename_i xs ρ1 e1
    split at e
    · rename_i ρ2 e2
      cases e
      obtain ⟨rfl, hn⟩ := setE_some e2
      refine ⟨_, M, ρ, _, ρ1, w.fr, e1, fun v M' H' F' x k rv => ?_⟩
      exact q _ M' H' ⟨as, w.step (F'.setNew rv) x (frS_ne hfr)⟩ (x.weak subA) (k.pin.trans (pin_set hn))
    · cases e
  · cases e)⟩
theorem gs_exp (h : NE X K P e fe) (hs : swapsWith e none pos.line X.env = pure false := by rfl) : GS X K P (.Expr e pos) (fgExp fe) := ⟨h.hK, fun pins s σ H D I ⟨Out, M, ρ, S, o, ⟨as, w⟩, e, q⟩ => ps_expr h.p hs pins s σ H D I (by
  unfold fgExp at e
  split at e
  · rename_i r ρ1 e1
    cases e
    exact ⟨_, M, ρ, _, ρ1, w.fr, e1, fun v M' H' F' x k rv => q _ M' H' ⟨as, w.step F' x fun _ _ => rfl⟩ (x.weak subA) k.pin⟩
  · cases e)⟩
theorem gs_for {j : Nat} {x : Str} {tpos : Pos} {iter : Expr} {body : List Stmt} {fi : FI} {fb : FOg} (hc : X.calm = true) (hp : PassesOwn (model X.prog X.w) X.A X.env X.xe) (hN : X.N.Nodup) (hi : NI X K P (.Name x tpos) iter fi) (hb : GSs X K P body fb) (hj : X.N[j]? = some x := by rfl) (hx : Loc X.env.scope x := by first | exact Or.inl rfl | exact Or.inr rfl) (hs : ∀ x, foldedSetIterable iter X.env x = pure x := by intro _; rfl) (hf : X.fn x = true ∨ X.env.scope.names.lookup x = some .local := by first | exact .inl rfl | exact .inr rfl | assumption) : GS X K P (.For (.Name x tpos) iter body [] pos) (fgFor P j fi fb) := ⟨hi.hK, fun pins s σ H D I ⟨Out, M, ρ, S, o, ⟨as, w⟩, e, q⟩ => ps_for hp hc hi.p (pg_name hN hj hx hf) hb.p hs pins s σ H D I (by
  unfold fgFor at e
  split at e
  · rename_i items ρ1 e1
    refine ⟨_, M, ρ, items, ρ1, w.fr, e1, fun J M1 H1 F1 X1 k1 it => ?_⟩
    have w1 := w.step F1 X1 fun _ _ => rfl
    refine ⟨fun k m σk Hk => ∃ Mk ρk Sk, GG K Out Mk σk Hk ρk Sk ∧ Ext Out M H Mk Hk ∧ Pin P σ ρ σk ρk ∧ Same (hid M1 H1) (hid Mk Hk) ∧ fgForGo P j fb (items.drop k) ρk Sk = some o ∧ k ≤ items.length ∧ m = items.length - k,
      ⟨items.length, M1, ρ1, S, ⟨as, w1⟩, X1.weak subA, k1.pin, Same.refl _, e, Nat.zero_le _, rfl⟩, ?_⟩
    rintro k m σk Hk ⟨Mk, ρk, Sk, ⟨ak, wk⟩, Xk, pk, sk, ek, hk, rfl⟩
    obtain ⟨go, stop⟩ := it Mk Hk wk.fr.live sk
    by_cases hlt : k < items.length
    · have ed : items.drop k = items[k] :: items.drop (k + 1) := List.drop_eq_getElem_cons hlt
      rw [ed] at ek
      unfold fgForGo at ek
      obtain ⟨g1, g2⟩ := go k items[k] (List.getElem?_eq_getElem hlt)
      split at ek
      rotate_left
      · cases ek
      rename_i hfr
      split at ek
      · cases ek
      rename_i ρ2 e2
      obtain ⟨rfl, hn⟩ := setE_some e2
      refine .inr ⟨g1, fun σ' H' => ∃ M' ρ' S', GG K Out M' σ' H' ρ' S' ∧ Ext Out M H M' H' ∧ Pin P σ ρ σ' ρ' ∧ Same (hid M1 H1) (hid M' H') ∧ fgForGo P j fb (items.drop (k + 1)) ρ' S' = some o, ?_, fun y H3 yl => ?_⟩
      · rintro σ' H' ⟨M', ρ', S', w', x', p', s', e'⟩
        exact ⟨items.length - (k + 1), by omega, M', ρ', S', w', x', p', s', e', by omega, rfl⟩
      · obtain ⟨s3, d3⟩ := g2 y H3 yl
        have X3 := wk.fr.ext s3
        have w3 := wk.step (wk.fr.grow s3) X3 fun _ _ => rfl
        have w4 := w3.step (w3.fr.set (i := j) d3) (Ext.refl _ _ _) (frS_ne hfr)
        have X4 : Ext Out M H Mk H3 := Xk.trans (X3.weak subA)
        have p4 := pk.trans (pin_set (e := .dat items[k]) (v := y) hn)
        split at ek
        · rename_i ρ5 S5 e5
          exact ⟨Out, Mk, _, Sk, _, ⟨ak, w4⟩, e5, fun σ' M' H' w' x' p' => ⟨M', ρ5, S5, w', X4.trans x', p4.trans p', (sk.trans X3.same).trans x'.same, ek⟩⟩
        · rename_i r ρ5 e5
          cases ek
          exact ⟨Out, Mk, _, Sk, _, ⟨ak, w4⟩, e5, fun v σ' M' H' F' x' p' rv => q v σ' M' H' F' (X4.trans x') (p4.trans p') rv⟩
        · cases ek
    · have e0 : k = items.length := by omega
      subst e0
      rw [List.drop_length] at ek
      cases ek
      exact .inl ⟨stop, q σk Mk Hk ⟨ak, wk⟩ Xk pk⟩
  · cases e)⟩
theorem gs_while {c : Expr} {body : List Stmt} {ft : FT} {fb : FOg} (n : Nat) (hp : PassesOwn (model X.prog X.w) X.A X.env X.xe) (hc : NT X K P c ft) (hb : GSs X K P body fb) : GS X K P (.While c body [] pos) (fgWhile ft fb n) := ⟨hc.hK, fun pins s σ H D I ⟨Out, M, ρ, S, o, w, e, q⟩ => ps_while hp hc.p hb.p pins s σ H D I (by
  refine ⟨fun m σi Hi => ∃ Mi ρi Si, GG K Out Mi σi Hi ρi Si ∧ Ext Out M H Mi Hi ∧ Pin P σ ρ σi ρi ∧ fgWhile ft fb m ρi Si = some o, ⟨n, M, ρ, S, w, .refl _ _ _, .refl _ _ _, e⟩, ?_⟩
  rintro m σi Hi ⟨Mi, ρi, Si, ⟨as, wi⟩, Xi, pi, ei⟩
  cases m with
  | zero => cases ei
  | succ m =>
    unfold fgWhile at ei
    split at ei
    · rename_i ρ1 e1
      cases ei
      exact ⟨_, Mi, ρi, _, ρ1, wi.fr, e1, fun M1 H1 F1 X1 k1 => iteF (q σi M1 H1 ⟨as, wi.step F1 X1 fun _ _ => rfl⟩ (Xi.trans (X1.weak subA)) (pi.trans k1.pin))⟩
    · rename_i ρ1 e1
      refine ⟨_, Mi, ρi, _, ρ1, wi.fr, e1, fun M1 H1 F1 X1 k1 => iteT ⟨fun σ' H' => ∃ M' ρ' S', GG K Out M' σ' H' ρ' S' ∧ Ext Out M H M' H' ∧ Pin P σ ρ σ' ρ' ∧ fgWhile ft fb m ρ' S' = some o, ?_, ?_⟩⟩
      · rintro σ' H' ⟨M', ρ', S', F', X', p', e'⟩
        exact ⟨m, Nat.lt_succ_self _, M', ρ', S', F', X', p', e'⟩
      · have w1 := wi.step F1 X1 fun _ _ => rfl
        have X1' := Xi.trans (X1.weak subA)
        split at ei
        · rename_i ρ5 S5 e5
          exact ⟨Out, M1, ρ1, Si, _, ⟨as, w1⟩, e5, fun σ' M' H' F' X' p' => ⟨M', ρ5, S5, F', X1'.trans X', pi.trans (k1.pin.trans p'), ei⟩⟩
        · rename_i r ρ5 e5
          cases ei
          exact ⟨Out, M1, ρ1, Si, _, ⟨as, w1⟩, e5, fun v σ' M' H' F' X' p' o' => q v σ' M' H' F' (X1'.trans X') (pi.trans (k1.pin.trans p')) o'⟩
        · cases ei
    · cases ei)⟩
theorem gss_rest {fr : FS} (h : NSs X K P rest fr) : GSs X K P rest (fgRest fr) := ⟨h.hK, fun pins s σ H D I ⟨Out, M, ρ, S, o, ⟨as, w⟩, e, q⟩ => h.p pins s σ H D I (by
  unfold fgRest at e
  split at e
  · have h0 := w.all
    cases h0
    split at e
    · rename_i ρ1 e1
      cases e
      exact ⟨Out, M, ρ, _, w.fr, e1, fun σ' M' H' F' x p => q σ' M' H' ⟨[], F', .nil, List.nodup_nil, fun x h => (List.not_mem_nil h).elim⟩ x p⟩
    · rename_i r ρ1 e1
      cases e
      exact ⟨Out, M, ρ, _, w.fr, e1, q⟩
    · cases e
  · cases e)⟩
theorem ndss_g {sts : List Stmt} (h : GSs X K P sts g) : NSs X K P sts (fOwnG g) := ⟨h.hK, fun pins s σ H D I ⟨Out, M, ρ, o, F, e, q⟩ => h.p pins s σ H D I (by
  unfold fOwnG at e
  split at e
  · rename_i ρ1 e1
    cases e
    exact ⟨Out, M, ρ, [], _, ⟨[], F, .nil, List.nodup_nil, fun x h => (List.not_mem_nil h).elim⟩, e1, fun σ' M' H' ⟨as, w'⟩ x p => by
      have h0 := w'.all
      cases h0
      exact q σ' M' H' w'.fr x p⟩
  · rename_i r ρ1 e1
    cases e
    exact ⟨Out, M, ρ, [], _, ⟨[], F, .nil, List.nodup_nil, fun x h => (List.not_mem_nil h).elim⟩, e1, q⟩
  · cases e)⟩
end
end DL


set_option Elab.async false
set_option linter.all false
set_option maxRecDepth 100000
set_option maxHeartbeats 1000000
/-! x = {}, x[k] = v, x[k] = len(x), x[t] = True for dicts of one's own; they are let go as data. -/
namespace DL
open PySem L2
/-! ### tuples of tuples of tuples of whole numbers are keys -/
section
variable {X : Cx} {pins : List (Addr × Obj)} {σ : St} {H G : Hp} {s : Shared}
theorem vals_ints {P : Program} {w : World} : ∀ {ns : List Int} {xs : List V} {us : List Value}, DqAll X.K G xs (ns.map PyData.int) → Vals xs us → ItemsAre (intKind P w) ns us
  | [], _, _, d, r => by cases d; cases r; exact .nil
  | n :: ns, _, _, d, r => by
    cases d with
    | cons h t =>
      cases h
      cases r with
      | cons h2 t2 =>
        refine .cons ?_ (vals_ints t t2)
        obtain ⟨tk, rfl⟩ := (show ∃ t, _ = Value.int n t from h2)
        show Value.isInt n (.int n tk) = true
        simp [Value.isInt]
theorem is_pt (I : Inv X pins σ H s) (sm : Same G H) {k : List Int} {v : V} (h : Dq X.K G v (ptD k)) : ∃ b, v = .ref b ∧ (NK.flatK (intKind X.prog X.w)).is s.heap k b := by
  unfold ptD at h
  cases h with
  | @tup b xs ds hs ha =>
    obtain ⟨its, r, ⟨o, h1, h2, n, h3⟩, _⟩ := I.tuple (sameT sm hs)
    exact ⟨b, rfl, o, its.toArray, n, h1, h2, h3, by simpa using vals_ints ha r⟩
theorem is_its {K : Type} [DecidableEq K] {knd : NK.HK X.prog X.w K} {enc : K → PyData} (hk : ∀ {k : K} {v : V}, Dq X.K G v (enc k) → ∃ b, v = .ref b ∧ knd.is s.heap k b) : ∀ {ks : List K} {xs : List V} {us : List Value}, DqAll X.K G xs (ks.map enc) → Vals xs us → NK.Its knd s.heap ks us
  | [], _, _, d, r => by cases d; cases r; exact .nil
  | k :: ks, _, _, d, r => by
    cases d with
    | cons h t =>
      cases r with
      | cons h2 t2 =>
        obtain ⟨b, rfl, hb⟩ := hk h
        cases (show _ = Value.ref b from h2)
        exact .cons hb (is_its hk t t2)
theorem is_ln (I : Inv X pins σ H s) (sm : Same G H) {k : List (List Int)} {v : V} (h : Dq X.K G v (lnD k)) : ∃ b, v = .ref b ∧ (NK.nestK (NK.flatK (intKind X.prog X.w)) (show 1 < 8 by omega)).is s.heap k b := by
  unfold lnD at h
  cases h with
  | @tup b xs ds hs ha =>
    obtain ⟨its, r, ⟨o, h1, h2, n, h3⟩, _⟩ := I.tuple (sameT sm hs)
    exact ⟨b, rfl, o, its.toArray, n, h1, h2, h3, by simpa using is_its (fun h => is_pt I sm h) ha r⟩
theorem is_tk (I : Inv X pins σ H s) (sm : Same G H) {k : NK.TK} {v : V} (h : Dq X.K G v (tkD k)) : ∃ b, v = .ref b ∧ (NK.tk3 X.prog X.w).is s.heap k b := by
  unfold tkD at h
  cases h with
  | @tup b xs ds hs ha =>
    obtain ⟨its, r, ⟨o, h1, h2, n, h3⟩, _⟩ := I.tuple (sameT sm hs)
    exact ⟨b, rfl, o, its.toArray, n, h1, h2, h3, by simpa using is_its (fun h => is_ln I sm h) ha r⟩
theorem room3 {A : Around} {k : Nat} (hr : Room k A) {P : Program} {w : World} : (NK.tk3 P w).room A.in1 := by
  have h := hr.units
  refine ⟨?_, ?_, ?_⟩
  · show A.units + 1 < cLine; omega
  · show A.units + 1 + 1 < cLine; omega
  · show A.units + 1 + 1 + 1 < cLine; omega
/-- the dict as the library has it -/
def xsN (ks : List NK.TK) (bs : List Addr) : List (NK.TK × Addr × Value) := List.zipWith (fun k b => (k, b, Value.bool true)) ks bs
theorem xsN_keys : ∀ {ks : List NK.TK} {bs : List Addr}, bs.length = ks.length → (xsN ks bs).map (·.1) = ks
  | [], bs, h => by cases bs <;> first | rfl | simp at h
  | k :: ks, [], h => by simp at h
  | k :: ks, b :: bs, h => by
    show k :: (xsN ks bs).map (·.1) = k :: ks
    rw [xsN_keys (by simpa using h)]
theorem xsN_ents (P : Program) (w : World) : ∀ (ks : List NK.TK) (bs : List Addr), (xsN ks bs).map (entryOfKey (NK.tk3 P w).toHeapKind) = ents ks bs
  | [], bs => by cases bs <;> rfl
  | k :: ks, [] => rfl
  | k :: ks, b :: bs => by
    show _ :: (xsN ks bs).map _ = _ :: ents ks bs
    rw [xsN_ents P w ks bs]
    rfl
theorem xsN_is (I : Inv X pins σ H s) (sm : Same G H) : ∀ {ks : List NK.TK} {bs : List Addr}, DqAll X.K G (bs.map V.ref) (ks.map tkD) → ∀ x ∈ xsN ks bs, (NK.tk3 X.prog X.w).is s.heap x.1 x.2.1
  | [], bs, _, x, hx => by cases bs <;> exact (List.not_mem_nil hx).elim
  | k :: ks, [], d, x, hx => (List.not_mem_nil hx).elim
  | k :: ks, b :: bs, d, x, hx => by
    cases d with
    | cons h t =>
      rcases List.mem_cons.mp (show x ∈ (k, b, Value.bool true) :: xsN ks bs from hx) with e | e
      · subst e
        obtain ⟨b', e, hb⟩ := is_tk I sm h
        cases e
        exact hb
      · exact xsN_is I sm t x e
theorem dn_dict (I : Inv X pins σ H s) (sm : Same G H) {a : Addr} {ks : List NK.TK} {bs : List Addr} (h : isDn a ks bs s.heap) (r : DqAll X.K G (bs.map V.ref) (ks.map tkD)) (nd : ks.Nodup) : s.heap.DictOfH (NK.tk3 X.prog X.w).toHeapKind a (xsN ks bs) := by
  obtain ⟨_, o, es, ep, h1, h2, h3, h4⟩ := h
  refine ⟨o, es, ep, h1, h2, h3, by rw [h4, xsN_ents], xsN_is I sm r, ?_⟩
  rw [xsN_keys (by have := dpAll_len r; simpa using this)]
  exact nd
theorem at_xsN : ∀ {ks : List NK.TK} {bs : List Addr} {k : NK.TK}, bs.length = ks.length → (atKey (xsN ks bs) k).isSome = ks.contains k
  | [], bs, k, h => by cases bs <;> first | rfl | simp at h
  | c :: ks, [], k, h => by simp at h
  | c :: ks, b :: bs, k, h => by
    have ih := at_xsN (ks := ks) (bs := bs) (k := k) (by simpa using h)
    unfold atKey at ih ⊢
    show (Option.map _ (((c, b, Value.bool true) :: xsN ks bs).find? _)).isSome = _
    rw [List.find?_cons]
    by_cases hc : c = k
    · subst hc; simp
    · have hc' : ¬ k = c := fun z => hc z.symm
      rw [show (decide ((c, b, Value.bool true).1 = k)) = false from decide_eq_false hc]
      rw [List.contains_cons, show (k == c) = false from by simpa using hc', Bool.false_or]
      exact ih
end
/-! ### x = {} -/
def tDNewN : TE := fun _ H Q => ∀ p, H p = none → Q (.ref p) (upd H p (.ext (isDn p [] [])))
theorem isDn_keep {a : Addr} {ks : List NK.TK} {bs : List Addr} : ∀ h1 h2 : Heap, isDn a ks bs h1 → (∀ o, h1.get? a = some o → h2.get? a = some o) → isDn a ks bs h2 := fun h1 h2 ⟨z, o, es, ep, e, r⟩ k => ⟨z, o, es, ep, k o e, r⟩
theorem dn_ok {P : Program} {w : World} {H : Hp} {h : Heap} {a : Addr} {ks : List NK.TK} {bs : List Addr} (x : isDn a ks bs h) : ObjOk P w H h a (.ext (isDn a ks bs)) :=
  ⟨x, let ⟨_, o, _, _, e, _⟩ := x; ⟨o, e⟩, isDn_keep⟩
theorem pe_dnewN {X : Cx} {pos : Pos} : PE X (.Dict [] [] pos) tDNewN := fun pins s σ H Q I h =>
  wpAny_Dict_empty ⟨.ref s.heap.objs.size, _, I.laid (a := s.heap.objs.size) (o := .ext (isDn s.heap.objs.size [] [])) (t' := s.toks) (fun _ _ q => Heap.get?_push_of_some _ q) (Nat.le_refl _)
    (dn_ok ⟨beq_eq_false_iff_ne.mpr (Ne.symm (Nat.ne_of_lt I.big)), _, #[], 0, Heap.get?_push_size _ rfl, ⟨rfl, rfl, rfl⟩, rfl, rfl⟩), rfl, h _ (I.hok.fresh (Nat.le_refl _))⟩
def fgNew (i : Nat) (o : Ot) : FOg := fun ρ S => if decide (i < ρ.length) && frS S i then some (.nx (ρ.set i .un) ((i, o) :: S)) else none
section
variable {K : PySem.W.Frag} {Out M : List Addr} {σ : St} {H : Hp} {ρ : List En} {S : Gs} {as : List Addr}
theorem GAt.new (w : GAt K Out M σ H ρ S as) {p : Addr} (hp : H p = none) {u : HO} {o : Ot} (ot : ∀ G, OtAt K G p u o) {i : Nat} (hl : i < ρ.length) (hf : frS S i = true) :
    GAt K Out (p :: M) (σ.set i (some (V.ref p))) (upd H p u) (ρ.set i .un) ((i, o) :: S) (p :: as) ∧ Ext Out M H (p :: M) (upd H p u) := by
  have F := w.fr
  have F2 := F.ownNew hp u (ot (hid M H)).nt (ot (hid M H)).nf
  have X2 := F.extOwn hp u
  have nsp : ∀ (j : Nat) zs, ρ[j]? = some (En.cel zs) → σ[j]? ≠ some (some (V.ref p)) := fun j zs z y => by
    obtain ⟨a', us, ea, ma, _⟩ := F.cel j zs z
    rw [y] at ea; cases ea
    exact F.live p ma hp
  have F3 := (F2.guard (a := p) List.mem_cons_self nsp).setUn (i := i) (v := V.ref p)
  refine ⟨⟨F3, .cons (List.getElem?_set_self (by rw [← F.len]; exact hl)) upd_same (ot _) (w.all.step X2.same (fun a ha => X2.out a (List.mem_append.mpr (.inl ha))) (frS_ne hf)), ?_, ?_⟩, X2.weak subA⟩
  · rw [List.nodup_cons]
    exact ⟨fun z => F.live p (F.out p (List.mem_append.mpr (.inl z))) hp, w.nd⟩
  · intro x hx
    rcases List.mem_cons.mp hx with z | z
    · rw [z]; exact fun y => F.live p (F.out p (List.mem_append.mpr (.inr y))) hp
    · exact w.no x z
end
section
variable {X : Cx} {K : PySem.W.Frag} {P i : Nat} {pos : Pos} {e ie ve : Expr} {fe fi fv : FE}
theorem gs_newK {x : Str} {pos' dpos : Pos} (hK : X.K = K) (hN : X.N.Nodup) (hP : P ≤ i := by decide) (hi : X.N[i]? = some x := by rfl) (hx : Loc X.env.scope x := by first | exact Or.inl rfl | exact Or.inr rfl)
    (hs : swapsWith (.Dict [] [] dpos) (some (.Name x pos')) pos.line X.env = pure false := by rfl)
    (hf : X.fn x = true ∨ X.env.scope.names.lookup x = some .local := by first | exact .inl rfl | exact .inr rfl | assumption) : GS X K P (.Assign [.Name x pos'] (.Dict [] [] dpos) pos) (fgNew i (.dic [])) := ⟨hK, fun pins s σ H D I ⟨Out, M, ρ, S, o, ⟨as, w⟩, ee, q⟩ => ps_set hN hi hx pe_dnewK hs hf pins s σ H D I (by
  intro p hp
  unfold fgNew at ee
  split at ee
  · rename_i hc
    rw [Bool.and_eq_true] at hc
    cases ee
    obtain ⟨w', X'⟩ := w.new hp (u := .dK []) (o := .dic []) (fun G => ⟨[], rfl, .nil⟩) (of_decide_eq_true hc.1) hc.2
    exact q _ _ _ ⟨_, w'⟩ X' (pin_set fun z => absurd z (by omega))
  · cases ee)⟩
theorem gs_newN {x : Str} {pos' dpos : Pos} (hK : X.K = K) (hN : X.N.Nodup) (hP : P ≤ i := by decide) (hi : X.N[i]? = some x := by rfl) (hx : Loc X.env.scope x := by first | exact Or.inl rfl | exact Or.inr rfl)
    (hs : swapsWith (.Dict [] [] dpos) (some (.Name x pos')) pos.line X.env = pure false := by rfl)
    (hf : X.fn x = true ∨ X.env.scope.names.lookup x = some .local := by first | exact .inl rfl | exact .inr rfl | assumption) : GS X K P (.Assign [.Name x pos'] (.Dict [] [] dpos) pos) (fgNew i (.dit [])) := ⟨hK, fun pins s σ H D I ⟨Out, M, ρ, S, o, ⟨as, w⟩, ee, q⟩ => ps_set hN hi hx pe_dnewN hs hf pins s σ H D I (by
  intro p hp
  unfold fgNew at ee
  split at ee
  · rename_i hc
    rw [Bool.and_eq_true] at hc
    cases ee
    obtain ⟨w', X'⟩ := w.new hp (u := .ext (isDn p [] [])) (o := .dit []) (fun G => ⟨[], rfl, .nil, List.nodup_nil, Nat.zero_le _⟩) (of_decide_eq_true hc.1) hc.2
    exact q _ _ _ ⟨_, w'⟩ X' (pin_set fun z => absurd z (by omega))
  · cases ee)⟩
end
/-! ### the newest one changes -/
section
variable {K : PySem.W.Frag} {Out M : List Addr} {σ : St} {H : Hp} {ρ : List En} {S : Gs} {as : List Addr} {i : Nat} {a : Addr}
theorem GAt.put {o o' : Ot} {u' : HO} (w : GAt K Out M σ H ρ ((i, o) :: S) (a :: as)) (sl : σ[i]? = some (some (.ref a))) (ot : OtAt K (hid M H) a u' o') : GAt K Out M σ (upd H a u') ρ ((i, o') :: S) (a :: as) ∧ Ext Out M H M (upd H a u') := by
  have F := w.fr
  have mA : a ∈ (a :: as) ++ Out := List.mem_cons_self
  have F4 := F.putO mA u' ot.nt ot.nf
  have hh : hid M (upd H a u') = hid M H := hid_mut (F.out a mA)
  have nd := w.nd
  rw [List.nodup_cons] at nd
  have ga := w.all
  cases ga with
  | cons h1 h2 h3 h4 =>
  refine ⟨⟨F4, .cons sl upd_same (by rw [hh]; exact ot) (h4.step (by rw [hh]; exact Same.refl _) (fun b hb => upd_ne fun z => nd.1 (by rw [← z]; exact hb)) fun _ _ => rfl), w.nd, w.no⟩, F.extO mA (w.no a List.mem_cons_self) _⟩
end
theorem zipK_none : ∀ {kvs : List (Int × PyData)} {vs : List V} {k : Int}, (kvs.find? fun p => decide (p.1 = k)) = none → valV (zipK kvs vs) (.inl k) = none
  | [], _, _, _ => by unfold zipK; rfl
  | _ :: _, [], _, _ => by unfold zipK; rfl
  | (k', x) :: S, b :: bs, k, h => by
    rw [List.find?_cons] at h
    split at h
    · cases h
    · rename_i hk
      have hk : ¬ k' = k := by simpa using hk
      show valV ((Sum.inl k', b) :: zipK S bs) (.inl k) = none
      rw [valV_neg (by intro z; exact hk (Sum.inl.inj z))]
      exact zipK_none h
theorem zipK_snoc {kvs : List (Int × PyData)} {vs : List V} {k : Int} {d : PyData} {v : V} (h : vs.length = kvs.length) : zipK (kvs ++ [(k, d)]) (vs ++ [v]) = zipK kvs vs ++ [((Sum.inl k : Key), v)] := by
  unfold zipK
  rw [List.zipWith_append h.symm]
  rfl
theorem zipK_len {kvs : List (Int × PyData)} {vs : List V} (h : vs.length = kvs.length) : (zipK kvs vs).length = kvs.length := by unfold zipK; rw [List.length_zipWith]; omega
/-- x[k] = e, k new -/
def fgPut (i : Nat) (fi fv : FE) : FOg := fun ρ S => match fv ρ with
  | some (.dat d, ρ1) => (match fi ρ1 with
    | some (.dat (.int k), ρ2) => (match S with
      | (j, .dic kvs) :: S' => if decide (j = i) && ((kvs.find? fun p => decide (p.1 = k)).isNone && decide (kvs.length < 100000)) then some (.nx ρ2 ((j, .dic (kvs ++ [(k, d)])) :: S')) else none
      | _ => none)
    | _ => none)
  | _ => none
/-- x[k] = len(x), k new -/
def fgPutLen (i : Nat) (fi : FE) : FOg := fun ρ S => match fi ρ with
    | some (.dat (.int k), ρ2) => (match S with
      | (j, .dic kvs) :: S' => if decide (j = i) && ((kvs.find? fun p => decide (p.1 = k)).isNone && decide (kvs.length < 100000)) then some (.nx ρ2 ((j, .dic (kvs ++ [(k, .int kvs.length)])) :: S')) else none
      | _ => none)
    | _ => none
section
variable {X : Cx} {K : PySem.W.Frag} {P i : Nat} {pos : Pos} {e ie ve : Expr} {fe fi fv : FE}
theorem isNone_of {α : Type} {o : Option α} (h : o.isNone = true) : o = none := by cases o with
  | none => rfl
  | some _ => cases h
theorem gs_put {kk : Nat} {x : Str} {px spos : Pos} (hr : Room kk X.A) (hi : NE X K P ie fi) (hv : NE X K P ve fv) (hN : X.N[i]? = some x := by rfl) (hvx : Vis X.env.scope x := by first | exact Or.inl rfl | exact Or.inr (Or.inl rfl) | exact Or.inr (Or.inr rfl)) (hd : (x == ("__debug__" : Str)) = false := by decide) (hcd : (x == ("__classdict__" : Str)) = false := by decide)
    (hs : swapsWith ve (some (.Subscript (.Name x px) ie spos)) pos.line X.env = pure false := by rfl) : GS X K P (.Assign [.Subscript (.Name x px) ie spos] ve pos) (fgPut i fi fv) := by
  have hK' := hi.hK
  subst hK'
  refine ⟨rfl, fun pins s σ H D I ⟨Out, M, ρ, S, o, ⟨as, w⟩, ee, q⟩ => ps_dput (hu_of hr) (pe_var hN hvx hd hcd) hi.p hv.p hs pins s σ H D I ?_⟩
  unfold fgPut at ee
  split at ee
  · rename_i d ρ1 e1
    split at ee
    · rename_i k ρ2 e2
      split at ee
      · rename_i j kvs S'
        split at ee
        · rename_i hc
          rw [Bool.and_eq_true, Bool.and_eq_true] at hc
          obtain ⟨c1, c2, c3⟩ := hc
          have c1 := of_decide_eq_true c1
          subst c1
          cases ee
          refine ⟨_, M, ρ, _, ρ1, w.fr, e1, fun v M1 H1 F1 X1 k1 o1 => ?_⟩
          have w1 := w.step F1 X1 fun _ _ => rfl
          have g0 := w.all
          cases g0 with
          | @cons _ _ a u _ as' sl hu ot g1 =>
          refine ⟨_, sl, _, M1, ρ1, _, ρ2, F1, e2, fun y M2 H2 F2 X2 k2 o2 => ?_⟩
          cases o2
          have w2 := w1.step F2 X2 fun _ _ => rfl
          have g2 := w2.all
          cases g2 with
          | cons sl2 hu2 ot2 g3 =>
          rw [sl] at sl2
          cases sl2
          obtain ⟨vs, rfl, dd⟩ := ot2
          have hl : vs.length = kvs.length := by have := dpAll_len dd; simpa using this
          have vn := zipK_none (vs := vs) (isNone_of c2)
          refine ⟨_, _, rfl, DPut.k (k := Sum.inl k) hu2 (by rw [zipK_len hl]; exact lt_line (of_decide_eq_true c3)), ?_⟩
          rw [putK_new _ vn, ← zipK_snoc (d := d) hl]
          obtain ⟨w4, X4⟩ := w2.put sl (u' := .dK (zipK (kvs ++ [(k, d)]) (vs ++ [v]))) (o' := .dic (kvs ++ [(k, d)])) ⟨_, rfl, by
            rw [List.map_append]
            exact dpAll_app dd (.cons (dp_mono X2.same o1) .nil)⟩
          exact q _ _ _ ⟨_, w4⟩ (((X1.weak subA).trans (X2.weak subA)).trans X4) (k1.trans k2).pin
        · cases ee
      · cases ee
    · cases ee
  · cases ee
theorem gs_putLen {kk : Nat} {x : Str} {px qx p spos cpos : Pos} (hr : Room kk X.A) (hi : NE X K P ie fi) (hm : X.mg "len" = none) (hN : X.N[i]? = some x := by rfl) (hvx : Vis X.env.scope x := by first | exact Or.inl rfl | exact Or.inr (Or.inl rfl) | exact Or.inr (Or.inr rfl)) (hd : (x == ("__debug__" : Str)) = false := by decide) (hcd : (x == ("__classdict__" : Str)) = false := by decide) (hg : Gl X "len" := by rfl)
    (he : starEach [.Name x qx] X.env = (false, eval (.Name x qx) X.env) :: starEach [] X.env := by rfl) (hpl : (backTo cpos (starEach [] X.env)).any (·.1) = false := by rfl)
    (hs : swapsWith (.Call (.Name "len" p) [.Name x qx] [] cpos) (some (.Subscript (.Name x px) ie spos)) pos.line X.env = pure false := by rfl) : GS X K P (.Assign [.Subscript (.Name x px) ie spos] (.Call (.Name "len" p) [.Name x qx] [] cpos) pos) (fgPutLen i fi) := by
  have hK' := hi.hK
  subst hK'
  refine ⟨rfl, fun pins s σ H D I ⟨Out, M, ρ, S, o, ⟨as, w⟩, ee, q⟩ => ps_dput (hu_of hr) (pe_var hN hvx hd hcd) hi.p (pe_callB cr_lenD hg hm (by decide +kernel) (pa_cons (pe_var (i := i) hN hvx hd hcd) pa_nil he) (by decide) (by decide) he hpl) hs pins s σ H D I ?_⟩
  unfold fgPutLen at ee
  split at ee
  · rename_i k ρ2 e2
    split at ee
    · rename_i j kvs S'
      split at ee
      · rename_i hc
        rw [Bool.and_eq_true, Bool.and_eq_true] at hc
        obtain ⟨c1, c2, c3⟩ := hc
        have c1 := of_decide_eq_true c1
        subst c1
        cases ee
        have g0 := w.all
        cases g0 with
        | @cons _ _ a u _ as' sl hu ot g1 =>
        obtain ⟨vs0, rfl, dd0⟩ := ot
        have hl0 : vs0.length = kvs.length := by have := dpAll_len dd0; simpa using this
        refine ⟨_, sl, _, _, rfl, .inl hu, _, sl, _, M, ρ, _, ρ2, w.fr, e2, fun y M2 H2 F2 X2 k2 o2 => ?_⟩
        cases o2
        have w2 := w.step F2 X2 fun _ _ => rfl
        have g2 := w2.all
        cases g2 with
        | cons sl2 hu2 ot2 g3 =>
        rw [sl] at sl2
        cases sl2
        obtain ⟨vs, rfl, dd⟩ := ot2
        have hl : vs.length = kvs.length := by have := dpAll_len dd; simpa using this
        have vn := zipK_none (vs := vs) (isNone_of c2)
        refine ⟨_, _, rfl, DPut.k (k := Sum.inl k) hu2 (by rw [zipK_len hl]; exact lt_line (of_decide_eq_true c3)), ?_⟩
        rw [putK_new _ vn, zipK_len hl0, ← zipK_snoc (d := .int kvs.length) hl]
        obtain ⟨w4, X4⟩ := w2.put sl (u' := .dK (zipK (kvs ++ [(k, .int kvs.length)]) (vs ++ [V.int kvs.length]))) (o' := .dic (kvs ++ [(k, .int kvs.length)])) ⟨_, rfl, by
          rw [List.map_append]
          exact dpAll_app dd (.cons (.int _) .nil)⟩
        exact q _ _ _ ⟨_, w4⟩ ((X2.weak subA).trans X4) k2.pin
      · cases ee
    · cases ee
  · cases ee
end
end DL


set_option Elab.async false
set_option linter.all false
set_option maxRecDepth 100000
set_option maxHeartbeats 1000000
/-! x[t] = True with t a tuple of tuples of tuples of whole numbers; dicts of one's own let go as data; len, not in, the walk of such a dict. -/
namespace DL
open PySem L2
def sDPutN (K : PySem.W.Frag) (td ty tv : TE) : TS := fun D σ H => tv σ H fun v H1 => td σ H1 fun x H2 => ty σ H2 fun y H3 => ∃ a ks bs k G b, v = .bl true ∧ x = .ref a ∧ H3 a = some (.ext (isDn a ks bs)) ∧ Same G H3 ∧ Dq K G y (tkD k) ∧
  DqAll K G (bs.map V.ref) (ks.map tkD) ∧ ks.Nodup ∧ k ∉ ks ∧ ks.length < sizeLine ∧ y = .ref b ∧ D.nx σ (upd H3 a (.ext (isDn a (ks ++ [k]) (bs ++ [b]))))
theorem ents_snoc {ks : List NK.TK} {bs : List Addr} {k : NK.TK} {b : Addr} (h : bs.length = ks.length) : ents (ks ++ [k]) (bs ++ [b]) = ents ks bs ++ [⟨NK.hash3 k, .ref b, .bool true⟩] := by
  unfold ents
  rw [List.zipWith_append h.symm]
  rfl
theorem ps_dputN {X : Cx} {kk : Nat} {o i value : Expr} {td ty tv : TE} {pos pos' : Pos} (hr : Room kk X.A) (ho : PE X o td) (hi : PE X i ty) (hv : PE X value tv) (hs : swapsWith value (some (.Subscript o i pos')) pos.line X.env = pure false) :
    PS X (.Assign [.Subscript o i pos'] value pos) (sDPutN X.K td ty tv) := by
  intro pins s σ H D I h
  refine wpAny_Assign_Subscript (thn (hv pins s σ H _ I h) fun r s1 ⟨v, H1, I1, rv, q1⟩ => thn (ho pins s1 σ H1 _ I1 q1) fun u s2 ⟨x, H2, I2, rx, q2⟩ => thn (hi pins s2 σ H2 _ I2 q2) fun iv s3 ⟨y, H3, I3, ry, a, ks, bs, k, G, b, ev, ex, ha, sm, dy, dall, nd, nk, hl, eb, q3⟩ => ?_) hs
  subst ev ex eb
  obtain rfl : u = Value.ref a := rx
  obtain rfl : iv = Value.ref b := ry
  obtain rfl : r = Value.bool true := rv
  have hdn : isDn a ks bs s3.heap := (I3.hok a _ ha).1
  have hlen : bs.length = ks.length := by have := dpAll_len dall; simpa using this
  obtain ⟨b', eb', hb⟩ := is_tk I3 sm dy
  cases eb'
  have hn : atKey (xsN ks bs) k = none := by
    have e := at_xsN (ks := ks) (bs := bs) (k := k) hlen
    rw [show ks.contains k = false from by simpa using nk] at e
    cases q : atKey (xsN ks bs) k with
    | none => rfl
    | some p => rw [q] at e; cases e
  have hz : (xsN ks bs).length ≤ sizeLine := by unfold xsN; rw [List.length_zipWith]; omega
  refine wpAny_setItem_heap (knd := (NK.tk3 X.prog X.w).toHeapKind) (hsz := hz) (room3 hr) hb (dn_dict I3 sm hdn dall nd) fun h' dd' hs' => ⟨σ, _, ?_, q3⟩
  rw [storedH_new hn] at dd'
  obtain ⟨ob, es, ep, h1, h2, h3, h4, h5, h6⟩ := dd'
  refine d_write I3 (by rw [ha]; exact True.intro) hs' ⟨ob, h1⟩ (dn_ok ⟨hdn.1, ob, es, ep, h1, h2, h3, ?_⟩)
  rw [h4, List.map_append, xsN_ents, ents_snoc hlen]
  rfl
/-! ### texts of such keys -/
def ptOf : List PyData → Option (List Int)
  | [] => some []
  | .int i :: r => (match ptOf r with
    | some l => some (i :: l)
    | none => none)
  | _ :: _ => none
def lnOf : List PyData → Option (List (List Int))
  | [] => some []
  | .tuple p :: r => (match ptOf p, lnOf r with
    | some k, some l => some (k :: l)
    | _, _ => none)
  | _ :: _ => none
def tlOf : List PyData → Option NK.TK
  | [] => some []
  | .tuple p :: r => (match lnOf p, tlOf r with
    | some k, some l => some (k :: l)
    | _, _ => none)
  | _ :: _ => none
def tkOf : PyData → Option NK.TK
  | .tuple l => tlOf l
  | _ => none
theorem ptOf_is : ∀ {l : List PyData} {k : List Int}, ptOf l = some k → l = k.map PyData.int
  | [], _, h => by cases h; rfl
  | .int i :: r, k, h => by
    unfold ptOf at h
    split at h
    · rename_i l e; cases h; rw [ptOf_is e]; rfl
    · cases h
  | .none :: _, _, h => by cases h
  | .bool _ :: _, _, h => by cases h
  | .str _ :: _, _, h => by cases h
  | .list _ :: _, _, h => by cases h
  | .tuple _ :: _, _, h => by cases h
  | .dict _ :: _, _, h => by cases h
theorem lnOf_is : ∀ {l : List PyData} {k : List (List Int)}, lnOf l = some k → l = k.map ptD
  | [], _, h => by cases h; rfl
  | .tuple p :: r, k, h => by
    unfold lnOf at h
    split at h
    · rename_i k l e1 e2; cases h; rw [ptOf_is e1, lnOf_is e2]; rfl
    · cases h
  | .none :: _, _, h => by cases h
  | .bool _ :: _, _, h => by cases h
  | .str _ :: _, _, h => by cases h
  | .list _ :: _, _, h => by cases h
  | .int _ :: _, _, h => by cases h
  | .dict _ :: _, _, h => by cases h
theorem tlOf_is : ∀ {l : List PyData} {k : NK.TK}, tlOf l = some k → l = k.map lnD
  | [], _, h => by cases h; rfl
  | .tuple p :: r, k, h => by
    unfold tlOf at h
    split at h
    · rename_i k l e1 e2; cases h; rw [lnOf_is e1, tlOf_is e2]; rfl
    · cases h
  | .none :: _, _, h => by cases h
  | .bool _ :: _, _, h => by cases h
  | .str _ :: _, _, h => by cases h
  | .list _ :: _, _, h => by cases h
  | .int _ :: _, _, h => by cases h
  | .dict _ :: _, _, h => by cases h
theorem tkOf_is {d : PyData} {k : NK.TK} (h : tkOf d = some k) : d = tkD k := by
  unfold tkOf at h
  split at h
  · unfold tkD; rw [tlOf_is h]
  · cases h
/-- x[t] = True, t new -/
def fgPutT (i : Nat) (fi : FE) : FOg := fun ρ S => match fi ρ with
    | some (.dat d, ρ2) => (match tkOf d, S with
      | some k, (j, .dit ks) :: S' => if decide (j = i) && (!ks.contains k && decide (ks.length < 100000)) then some (.nx ρ2 ((j, .dit (ks ++ [k])) :: S')) else none
      | _, _ => none)
    | _ => none
theorem dq_tk {K : PySem.W.Frag} {G : Hp} {v : V} {k : NK.TK} (h : Dq K G v (tkD k)) : ∃ b, v = .ref b := by
  unfold tkD at h
  cases h
  exact ⟨_, rfl⟩
section
variable {X : Cx} {K : PySem.W.Frag} {P i : Nat} {pos : Pos} {e ie ve : Expr} {fe fi fv : FE} {st : Stmt} {f : FOg}
theorem gs_putT {kk : Nat} {x : Str} {px spos bp : Pos} {bj} (hr : Room kk X.A) (hi : NE X K P ie fi) (hN : X.N[i]? = some x := by rfl) (hvx : Vis X.env.scope x := by first | exact Or.inl rfl | exact Or.inr (Or.inl rfl) | exact Or.inr (Or.inr rfl)) (hd : (x == ("__debug__" : Str)) = false := by decide) (hcd : (x == ("__classdict__" : Str)) = false := by decide)
    (hs : swapsWith (.Constant (.bool true) bj bp) (some (.Subscript (.Name x px) ie spos)) pos.line X.env = pure false := by rfl) : GS X K P (.Assign [.Subscript (.Name x px) ie spos] (.Constant (.bool true) bj bp) pos) (fgPutT i fi) := by
  have hK' := hi.hK
  subst hK'
  refine ⟨rfl, fun pins s σ H D I ⟨Out, M, ρ, S, o, ⟨as, w⟩, ee, q⟩ => ps_dputN hr (pe_var hN hvx hd hcd) hi.p (pe_bl (b := true)) hs pins s σ H D I ?_⟩
  unfold fgPutT at ee
  split at ee
  · rename_i d ρ2 e2
    split at ee
    · rename_i k j ks S' ek
      split at ee
      · rename_i hc
        rw [Bool.and_eq_true, Bool.and_eq_true] at hc
        obtain ⟨c1, c2, c3⟩ := hc
        have c1 := of_decide_eq_true c1
        subst c1
        cases ee
        have g0 := w.all
        cases g0 with
        | @cons _ _ a u _ as' sl hu ot g1 =>
        refine ⟨_, sl, _, M, ρ, _, ρ2, w.fr, e2, fun y M2 H2 F2 X2 k2 o2 => ?_⟩
        have dy : Dq X.K (hid M2 H2) y (tkD k) := by rw [← tkOf_is ek]; exact o2
        obtain ⟨b, rfl⟩ := dq_tk dy
        have w2 := w.step F2 X2 fun _ _ => rfl
        have g2 := w2.all
        cases g2 with
        | cons sl2 hu2 ot2 g3 =>
        rw [sl] at sl2
        cases sl2
        obtain ⟨bs, rfl, dd, nd, hl⟩ := ot2
        have nk : k ∉ ks := by
          intro z
          rw [show ks.contains k = true from by simpa using z] at c2
          cases c2
        refine ⟨_, ks, bs, k, hid M2 H2, b, rfl, rfl, hu2, hid_sub _ _, dy, dd, nd, nk, lt_line (of_decide_eq_true c3), rfl, ?_⟩
        obtain ⟨w4, X4⟩ := w2.put sl (o' := .dit (ks ++ [k])) (u' := .ext (isDn a (ks ++ [k]) (bs ++ [b]))) ⟨_, rfl, by
          rw [List.map_append, List.map_append]
          exact dpAll_app dd (.cons dy .nil), by
          rw [List.nodup_append]
          exact ⟨nd, by simp, fun x hx y hy z => nk (by rw [List.mem_singleton.mp hy] at z; rw [← z]; exact hx)⟩, by
          rw [List.length_append, List.length_singleton]
          have := lt_line (of_decide_eq_true c3)
          omega⟩
        exact q _ _ _ ⟨_, w4⟩ ((X2.weak subA).trans X4) k2.pin
      · cases ee
    · cases ee
  · cases ee
end
/-! ### let go as data -/
def Ot.dat : Ot → PyData
  | .dic kvs => dk (kvs.map fun p => ((Sum.inl p.1 : Key), p.2))
  | .dit ks => dn ks
def fgFrz (P : Nat) (f : FOg) : FOg := fun ρ S => match f ρ S with
  | some (.nx ρ1 ((i, o) :: S')) => if P ≤ i then some (.nx (ρ1.set i (.dat o.dat)) S') else none
  | some (.rt r ρ1) => some (.rt r ρ1)
  | _ => none
theorem zipK_dq {K : PySem.W.Frag} {G : Hp} : ∀ {kvs : List (Int × PyData)} {vs : List V}, DqAll K G vs (kvs.map (·.2)) → DqAll K G ((zipK kvs vs).map (·.2)) (kvs.map (·.2)) ∧ ((zipK kvs vs).map fun p => keyD p.1).zip (kvs.map (·.2)) = (kvs.map fun p => ((Sum.inl p.1 : Key), p.2)).map fun p => (keyD p.1, p.2)
  | [], _, h => by cases h; exact ⟨.nil, rfl⟩
  | (k, d) :: kvs, _, h => by
    cases h with
    | cons h t =>
      obtain ⟨i1, i2⟩ := zipK_dq t
      refine ⟨.cons h i1, ?_⟩
      exact congrArg (List.cons (keyD (Sum.inl k), d)) i2
section
variable {K : PySem.W.Frag} {Out M : List Addr} {σ : St} {H : Hp} {ρ : List En} {S : Gs} {as : List Addr} {i : Nat} {a : Addr} {o : Ot}
theorem OtAt.data {G : Hp} {u : HO} {od : Obj} (h : OtAt K G a u o) {G' : Hp} (s : Same G G') (ha : G' a = some (.frz od u)) : Dq K G' (.ref a) o.dat := by
  cases o with
  | dic kvs =>
    obtain ⟨vs, rfl, r⟩ := h
    obtain ⟨d1, d2⟩ := zipK_dq (dpAll_mono s r)
    have := Dq.dct ha d1
    rw [d2] at this
    exact this
  | dit ks =>
    obtain ⟨bs, rfl, r, nd, hl⟩ := h
    exact .dcn ha (dpAll_mono s r) nd hl
theorem GAt.free (w : GAt K Out M σ H ρ ((i, o) :: S) (a :: as)) {u : HO} (hu : H a = some u) (ot : OtAt K (hid M H) a u o) (sl : σ[i]? = some (some (.ref a))) (od : Obj) :
    ∃ M', GAt K Out M' σ (upd H a (.frz od u)) (ρ.set i (.dat o.dat)) S as ∧ Ext Out M H M' (upd H a (.frz od u)) := by
  have F := w.fr
  have mo : a ∈ (a :: as) ++ Out := List.mem_cons_self
  have mA : a ∈ M := F.out a mo
  have nd := w.nd
  rw [List.nodup_cons] at nd
  have oA : a ∉ as ++ Out := fun z => (List.mem_append.mp z).elim nd.1 (w.no a List.mem_cons_self)
  have ns : ∀ (j : Nat) ys, ρ[j]? = some (En.cel ys) → σ[j]? ≠ some (some (V.ref a)) := fun j ys q z => by
    obtain ⟨y, _, e1, _, o1, _⟩ := F.cel j ys q
    rw [z] at e1; cases e1
    exact o1 mo
  have F0 := F.weak (Out' := as ++ Out) fun x hx => List.mem_cons_of_mem _ hx
  have F1 := F0.dropO oA ns mA (.frz od u) (fun _ z => nomatch z)
  have X1 : Ext (as ++ Out) M H _ (upd H a (.frz od u)) := Ext.dropO mA oA
  have D : Dq K (hid (M.filter (fun b => decide (b ≠ a))) (upd H a (.frz od u))) (.ref a) o.dat := ot.data X1.same (hid_out not_mem_drop upd_same fun _ z => nomatch z)
  have F4 := F1.set (i := i) D
  have hi : i < σ.length := (List.getElem?_eq_some_iff.mp sl).1
  rw [show σ.set i (some (V.ref a)) = σ from by
    have e : σ[i] = some (V.ref a) := (List.getElem?_eq_some_iff.mp sl).2
    rw [← e]; exact List.set_getElem_self hi] at F4
  have ga := w.all
  cases ga with
  | cons h1 h2 h3 h4 =>
  exact ⟨_, ⟨F4, h4.step X1.same (fun b hb => X1.out b (List.mem_append.mpr (.inl hb))) fun _ _ => rfl, nd.2, fun x hx => w.no x (List.mem_cons_of_mem _ hx)⟩, X1.weak subA⟩
end
section
variable {X : Cx} {K : PySem.W.Frag} {P i : Nat} {pos : Pos} {st : Stmt} {f : FOg}
theorem gs_frz (h : GS X K P st f) : GS X K P st (fgFrz P f) := ⟨h.hK, fun pins s σ H D I ⟨Out, M, ρ, S, o, w, ee, q⟩ => by
  unfold fgFrz at ee
  split at ee
  · rename_i ρ1 i ot S' e1
    split at ee
    · rename_i hP
      cases ee
      exact ps_frz h.p pins s σ H D I ⟨Out, M, ρ, S, _, w, e1, fun σ' M' H' ⟨as, w'⟩ x p => by
        have ga := w'.all
        cases ga with
        | @cons _ _ a u _ as' h1 h2 h3 h4 =>
        refine ⟨a, u, h2, h3.mu, fun od => ?_⟩
        obtain ⟨M2, w2, X2⟩ := w'.free h2 h3 h1 od
        exact q σ' M2 _ ⟨_, w2⟩ (x.trans X2) (p.trans (pin_mark hP))⟩
    · cases ee
  · rename_i r ρ1 e1
    cases ee
    exact h.p pins s σ H D I ⟨Out, M, ρ, S, _, w, e1, q⟩
  · cases ee⟩
end
/-! ### reading it -/
theorem dq_dn {K : PySem.W.Frag} {G : Hp} {v : V} {r : List (PyData × PyData)} (h : Dq K G v (.dict ((.none, .none) :: r))) : ∃ a o ks bs, v = .ref a ∧ r = (ks.map fun k => (tkD k, PyData.bool true)) ∧ G a = some (.frz o (.ext (isDn a ks bs))) ∧ DqAll K G (bs.map V.ref) (ks.map tkD) ∧ ks.Nodup ∧ ks.length ≤ sizeLine := by
  generalize hd : PyData.dict ((.none, .none) :: r) = d at h
  cases h with
  | @dct a o kvs ds h1 h2 =>
    injection hd with hd
    cases kvs with
    | nil => simp at hd
    | cons p kvs =>
      cases ds with
      | nil => simp at hd
      | cons x ds =>
        rw [List.map_cons, List.zip_cons_cons] at hd
        injection hd with hd _
        injection hd with hd _
        obtain ⟨k, _⟩ := p
        cases k <;> cases hd
  | @dcn a o ks bs h1 h2 nd hl =>
    unfold dn at hd
    injection hd with hd
    injection hd with _ hd
    exact ⟨a, o, ks, bs, rfl, hd, h1, h2, nd, hl⟩
  | _ => cases hd
end DL


set_option Elab.async false
set_option linter.all false
set_option maxRecDepth 100000
set_option maxHeartbeats 1000000
/-! len(x), t not in x, for t in x, x a dict whose keys are tuples of tuples of tuples of whole numbers. -/
namespace DL
open PySem L2
theorem ents_len {ks : List NK.TK} {bs : List Addr} (h : bs.length = ks.length) : (ents ks bs).length = ks.length := by unfold ents; rw [List.length_zipWith]; omega
theorem ents_get {ks : List NK.TK} {bs : List Addr} {i : Nat} {k : NK.TK} {b : Addr} (h1 : ks[i]? = some k) (h2 : bs[i]? = some b) : (ents ks bs)[i]? = some ⟨NK.hash3 k, .ref b, .bool true⟩ := by
  unfold ents
  rw [List.getElem?_zipWith, h1, h2]
section
variable {X : Cx} {pins : List (Addr × Obj)} {σ : St} {H : Hp} {s : Shared} {d : Addr} {o : Obj} {ks : List NK.TK} {bs : List Addr}
theorem Inv.frzN (I : Inv X pins σ H s) (h : H d = some (.frz o (.ext (isDn d ks bs)))) (hl : bs.length = ks.length) : (d == sysModules) = false ∧ s.heap.get? d = some o ∧ o.ExactDict ∧ ∃ (es : Array DictEntry) (ep : Nat), o.data = .dict es ep ∧ es.size = ks.length ∧ es.toList = ents ks bs := by
  obtain ⟨h0, ⟨hm, o', es, ep, h1, h2, h3, h4⟩, _⟩ := I.hok d _ h
  rw [h0] at h1
  cases h1
  exact ⟨hm, h0, h2, es, ep, h3, by rw [← Array.length_toList, h4, ents_len hl], h4⟩
end
/-! ### len -/
section
variable {prog : Program} {w : World} {A : Around} {E : Value → Shared → Prop} {s : Shared}
theorem meets_len_n {d : Addr} (hd : (d == sysModules) = false) :
    MeetsIn prog w (Builtin.«dict.__len__» ⟨[.ref d], []⟩) (fun _ R s => ∃ o es ep, s.heap.get? d = some o ∧ o.data = .dict es ep ∧ R (.ok (.ret (.int es.size s.toks))) { s with toks := s.toks + 1 }) :=
  .of_wp fun A R s ⟨o, es, ep, ho, hdat, h⟩ => by
    show wpAny _ _ (dictSize d >>= _) _ _ s
    unfold dictSize
    refine wpAny_bind (wpAny_bind (wpAny_dictEntries ho hdat (wpAny_pure ?_)))
    show wpAny _ _ (Builtin.Dict.pendingCount d >>= _) _ _ s
    refine wpAny_bind (wpAny_pendingCount_other hd ?_)
    refine wpAny_ret_mkInt ?_
    rw [Nat.add_zero]; exact h
theorem len_body_n {d : Addr} {o : Obj} {es : Array DictEntry} {ep : Nat} {Q : Value → Shared → Prop} (hd : (d == sysModules) = false) (ho : s.heap.get? d = some o) (hx : o.ExactDict) (hdat : o.data = .dict es ep) (hfit : (es.size : Int) < 2 ^ 63)
    (h : Q (.int es.size (s.toks + 1)) { s with toks := s.toks + 1 + 1 }) : wpAny (model prog w) A (Builtin.«len» ⟨[.ref d], []⟩) (fun fin s' => ∃ r, fin = .done (.ret r) ∧ Q r s') E s := by
  have hT : s.TypeIs (.ref d) "dict" := ⟨o, ho, hx.1⟩
  unfold Builtin.«len»
  refine wpAny_bind (m := oneArg "len" _) (wpAny_pure ?_)
  refine wpAny_bind (m := callSpecial? (.ref d) (Str.ofString "__len__")) (wpAny_callSpecial?_slot (name := Str.ofString "__len__") hT F.slot_dict_len
    (call_meetsIn F.slot_dict_len hT F.entry_dict_len (F.args_dict_len_1 _) (meets_len_n hd) ⟨o, es, ep, ho, hdat, ?_⟩))
  show wpAny _ _ _ _ _ { s with toks := s.toks + 1 }
  refine wpAny_bind (wpAny_holding (wpAny_pure ?_))
  refine wpAny_bind (wpAny_letGo ?_)
  show wpAny _ _ (if ((es.size : Nat) : Int) < 0 then _ else _) _ _ _
  rw [if_neg (by omega)]
  show wpAny _ _ (if ((es.size : Nat) : Int) ≥ 2 ^ 63 then _ else _) _ _ _
  rw [if_neg (by omega)]
  exact wpAny_bind (wpAny_mkInt (wpAny_pure ⟨_, rfl, h⟩))
end
def gLenN : List PyData → Option PyData
  | [.dict ((.none, .none) :: r)] => some (.int (r.length : Int))
  | _ => none
def rLenN : List V → Hp → VK → Prop := fun xs H Q => ∃ a o ks bs, xs = [V.ref a] ∧ H a = some (.frz o (.ext (isDn a ks bs))) ∧ bs.length = ks.length ∧ ks.length ≤ sizeLine ∧ Q (.int ks.length) H
theorem cr_lenN {X : Cx} : CallR X (.builtin "len") rLenN := by
  intro pins s σ H xs us Q I r h
  obtain ⟨a, o, ks, bs, rfl, ha, hl, hz, q⟩ := h
  obtain ⟨u, rfl, ru⟩ := vals1 r
  cases ru
  obtain ⟨hm, h0, h2, es, ep, h3, h4, h5⟩ := Inv.frzN I ha hl
  refine Calls.call_function_entry kind_len plain_len entry_len (args_len1 _) (len_body_n hm h0 h2 h3 (by rw [h4]; rw [sizeLine_eq] at hz; omega) ?_)
  rw [h4]
  exact ⟨.int ks.length, H, I.tok _, ⟨_, rfl⟩, q⟩
theorem len_of {K : PySem.W.Frag} {G : Hp} {bs : List Addr} {ks : List NK.TK} (h : DqAll K G (bs.map V.ref) (ks.map tkD)) : bs.length = ks.length := by have := dpAll_len h; simpa using this
theorem ca_lenN {K : PySem.W.Frag} : CaD K rLenN gLenN := by
  intro M H vs ds z Q live hd e q
  unfold gLenN at e
  split at e
  · cases e
    cases hd with
    | cons h t =>
      cases t
      obtain ⟨a, o, ks, bs, rfl, rfl, h1, h2, nd, hl⟩ := dq_dn h
      refine ⟨a, o, ks, bs, rfl, hid_sub _ _ _ _ h1, len_of h2, hl, ?_⟩
      rw [List.length_map] at q
      exact q _ H (Same.refl _) (.int _)
  · cases e
/-! ### not in -/
def gNiN : PyData → PyData → Option PyData
  | d, .dict ((.none, .none) :: r) => (match tkOf d with
    | some k => some (.bool (!(r.any fun p => (match tkOf p.1 with
      | some c => c == k
      | none => false))))
    | none => none)
  | _, _ => none
def rNiN (K : PySem.W.Frag) : R2 := fun x y H Q => ∃ a o ks bs k G, y = .ref a ∧ H a = some (.frz o (.ext (isDn a ks bs))) ∧ Same G H ∧ Dq K G x (tkD k) ∧ DqAll K G (bs.map V.ref) (ks.map tkD) ∧ ks.Nodup ∧ Q (.bl (!ks.contains k)) H
theorem op_niN {X : Cx} {kk : Nat} (hr : Room kk X.A) : OpR X (compareOp .NotIn) (rNiN X.K) := by
  intro pins s σ H x y v u Q I rx ry h
  obtain ⟨a, o, ks, bs, k, G, rfl, ha, sm, dx, dd, nd, q⟩ := h
  obtain ⟨b, rfl, hb⟩ := is_tk I sm dx
  cases (show v = Value.ref b from rx)
  cases (show u = Value.ref a from ry)
  obtain ⟨h0, hdn, _⟩ := I.hok a _ ha
  refine PyProof.Rows.wpAny_notIn_heap (knd := (NK.tk3 X.prog X.w).toHeapKind) (room3 hr) hb hdn.1 (dn_dict I sm hdn dd nd) ?_
  rw [at_xsN (len_of dd)]
  exact ⟨.bl (!ks.contains k), H, I.tok _, rfl, q⟩
theorem ptOf_map : ∀ k : List Int, ptOf (k.map PyData.int) = some k
  | [] => rfl
  | i :: r => by show (match ptOf (r.map PyData.int) with | some l => some (i :: l) | none => none) = _; rw [ptOf_map r]
theorem lnOf_map : ∀ k : List (List Int), lnOf (k.map ptD) = some k
  | [] => rfl
  | p :: r => by show (match ptOf (p.map PyData.int), lnOf (r.map ptD) with | some k, some l => some (k :: l) | _, _ => none) = _; rw [ptOf_map, lnOf_map r]
theorem tlOf_map : ∀ k : NK.TK, tlOf (k.map lnD) = some k
  | [] => rfl
  | p :: r => by show (match lnOf (p.map ptD), tlOf (r.map lnD) with | some k, some l => some (k :: l) | _, _ => none) = _; rw [lnOf_map, tlOf_map r]
theorem tkOf_tkD (k : NK.TK) : tkOf (tkD k) = some k := tlOf_map k
theorem any_tk (k : NK.TK) : ∀ ks : List NK.TK, ((ks.map fun k => (tkD k, PyData.bool true)).any fun p => (match tkOf p.1 with | some c => c == k | none => false)) = ks.contains k
  | [] => rfl
  | c :: ks => by
    rw [List.map_cons, List.any_cons, any_tk k ks, List.contains_cons]
    simp only [tkOf_tkD]
    rw [show (c == k) = (k == c) from by simp [Bool.beq_eq_decide_eq, eq_comm]]
theorem opd_niN {K : PySem.W.Frag} : OpD K (rNiN K) gNiN := by
  intro M H x y a b z Q live dx dy e q
  unfold gNiN at e
  split at e
  · split at e
    · rename_i k ek
      cases e
      obtain ⟨ad, o, ks, bs, rfl, rfl, h1, h2, nd, hl⟩ := dq_dn dy
      refine ⟨ad, o, ks, bs, k, hid M H, rfl, hid_sub _ _ _ _ h1, hid_sub _ _, by rw [← tkOf_is ek]; exact dx, h2, nd, ?_⟩
      rw [any_tk] at q
      exact q _ H (Same.refl _) (.bl _)
    · cases e
  · cases e
/-! ### the walk -/
def Itn (d : Addr) (o : Obj) (ks : List NK.TK) (bs : List Addr) : It :=
  ⟨fun i H => H d = some (.frz o (.ext (isDn d ks bs))) ∧ i < ks.length, fun i H x H' => H' = H ∧ ∃ b, bs[i]? = some b ∧ x = .ref b, fun i H => H d = some (.frz o (.ext (isDn d ks bs))) ∧ ks.length ≤ i⟩
section
variable {P : Program} {w : World} {K : PySem.W.Frag} {tg : Expr} {d : Addr} {o : Obj} {es : Array DictEntry} {ep : Nat} {ks : List NK.TK} {bs : List Addr}
theorem turn_keysN (it : Addr) (hod : o.data = .dict es ep) (hl : bs.length = ks.length) : Turn P w K tg (Itn d o ks bs) [it] it (fun i h => h.IsKeyIter it d i ks.length ep) where
  mem := by simp
  obj := fun i h st b hb => by
    have e : b = it := by simpa using hb
    subst e
    obtain ⟨oi, e, c, dd⟩ := st
    exact ⟨oi, e, fun v z => by rw [dd] at z; cases z⟩
  keep := fun i h h' st k => st.at fun oi e => k it (by simp) oi e
  item := by
    intro X hP hw hK hc i pins s σ H E I hf st hg
    subst hP hw hK
    obtain ⟨hd, hi⟩ := hg
    obtain ⟨f0, f1, f2, f3, f4, f5⟩ := hf it (by simp)
    obtain ⟨hs, hgd, hx, es', ep', hdt, hsz, ent⟩ := Inv.frzN I hd hl
    obtain ⟨rfl, rfl⟩ := dict_ep hod hdt
    obtain ⟨k, hk⟩ : ∃ p, ks[i]? = some p := ⟨ks[i], List.getElem?_eq_getElem hi⟩
    obtain ⟨b, hb⟩ : ∃ p, bs[i]? = some p := ⟨bs[i], List.getElem?_eq_getElem (by omega)⟩
    have hen := ents_get hk hb
    rw [← ent, Array.getElem?_toList] at hen
    refine next_key_item st hgd hdt hsz hen fun h' st' sb => ?_
    have I1 : Inv X pins σ H { s with heap := h' } := I.turned (t' := s.toks) (fun b ob hb e => (sb.2 b hb).trans e) f0 f1 f3 f4 f5
    obtain ⟨oi, e, c, dd⟩ := id st'
    exact ⟨_, rfl, go_of (s := { s with heap := h' }) e c dd (by decide) ⟨.ref b, H, I1, rfl, ⟨rfl, b, hb, rfl⟩, st', fun b hb => (hf b hb).1⟩⟩
  done := by
    intro X hP hw hK hc i pins s σ H E I hf st hg
    subst hP hw hK
    obtain ⟨hd, hi⟩ := hg
    obtain ⟨f0, f1, f2, f3, f4, f5⟩ := hf it (by simp)
    obtain ⟨hs, hgd, hx, es', ep', hdt, hsz, ent⟩ := Inv.frzN I hd hl
    obtain ⟨rfl, rfl⟩ := dict_ep hod hdt
    exact next_key_end (I.ok.hd hc) st hgd hdt hsz hi fun h' eb => ⟨rfl, I.turned (t' := s.toks) (fun b ob hb e => eb b ob hb e) f0 f1 f3 f4 f5⟩
  self := fun A i s Q E st h => wpAny_pyIter_keyiter st h
end
def iKeysN (td : TE) : TI := fun σ H R => td σ H fun x H1 => ∃ d o ks bs, x = .ref d ∧ H1 d = some (.frz o (.ext (isDn d ks bs))) ∧ bs.length = ks.length ∧ R (Itn d o ks bs) H1
theorem pi_keysN {X : Cx} {tg e : Expr} {td : TE} (he : PE X e td) : PI X tg e (iKeysN td) := by
  intro pins s σ H R I h
  refine thn (he pins s σ H _ I h) fun u s1 ⟨x, H1, I1, rx, d, o, ks, bs, ex, hd, hl, q⟩ => ?_
  subst ex
  obtain rfl : u = Value.ref d := rx
  obtain ⟨hs, hgd, hx, es, ep, hdt, hsz, ent⟩ := Inv.frzN I1 hd hl
  refine iter_keys hs hgd hx hdt (pi_one (tk := s1.toks) I1 _ (turn_keysN _ hdt hl) ⟨_, Heap.get?_push_size _ rfl, rfl, ?_⟩ q)
  rw [hsz] <;> rfl
def fiKeysN (f : FE) : FI := fun ρ => match f ρ with
  | some (.dat (.dict ((.none, .none) :: r)), ρ') => some (r.map (·.1), ρ')
  | _ => none
theorem itok_keysN {K : PySem.W.Frag} {M : List Addr} {H : Hp} {d : Addr} {o : Obj} {ks : List NK.TK} {bs : List Addr} (h : hid M H d = some (.frz o (.ext (isDn d ks bs)))) (r : DqAll K (hid M H) (bs.map V.ref) (ks.map tkD)) : ItOk K M H (Itn d o ks bs) (ks.map tkD) := by
  intro M' H' live s
  have h1 := hid_sub M' H' _ _ (s _ _ h)
  unfold Itn
  refine ⟨fun i dd e => ?_, ?_⟩
  · have hi : i < ks.length := by have := (List.getElem?_eq_some_iff.mp e).1; simpa using this
    refine ⟨⟨h1, hi⟩, fun x H3 y => ?_⟩
    obtain ⟨rfl, b, hb, rfl⟩ := y
    refine ⟨Same.refl _, ?_⟩
    obtain ⟨v, hv, dv⟩ := dpAll_get (dpAll_mono s r) e
    rw [List.getElem?_map, hb] at hv
    cases hv
    exact dv
  · rw [List.length_map]
    exact ⟨h1, Nat.le_refl _⟩
theorem di_keysN {X : Cx} {P : Nat} {tg e : Expr} {te : TE} {fe : FE} (h : DE X P e te fe) : DI X P tg e (iKeysN te) (fiKeysN fe) := ⟨pi_keysN h.1, by
  intro Out M σ H ρ items ρ' R F e q
  unfold fiKeysN at e
  split at e
  · rename_i qs ρ1 e1
    cases e
    refine h.2 Out M σ H ρ _ _ _ F e1 fun v M1 H1 F1 X1 k1 o1 => ?_
    obtain ⟨a, o, ks, bs, rfl, rfl, h1, h2, nd, hl⟩ := dq_dn (show Dq X.K (hid M1 H1) v _ from o1)
    refine ⟨a, o, ks, bs, rfl, hid_sub _ _ _ _ h1, len_of h2, q _ M1 H1 F1 X1 k1 ?_⟩
    rw [List.map_map]
    exact itok_keysN h1 h2
  · cases e⟩
section
variable {X : Cx} {P : Nat} {e a b : Expr} {pos p : Pos} {K : PySem.W.Frag} {fas : FA} {fe fa fb : FE} {tg : Expr}
theorem nde_lenN (hm : X.mg "len" = none) (ha : NA X K P [e] fas) (hg : Gl X "len" := by rfl) (he : starEach [e] X.env = (false, eval e X.env) :: starEach [] X.env := by rfl) (hpl : (backTo pos (starEach [] X.env)).any (·.1) = false := by rfl) : NE X K P (.Call (.Name "len" p) [e] [] pos) (fCa gLenN fas) := by
  have hK' := ha.hK
  subst hK'
  exact (de_callB cr_lenN ca_lenN hm ha.de (hg := hg) (he := he) (hpl := hpl)).ne
theorem ndi_keysN (h : NE X K P e fe) : NI X K P tg e (fiKeysN fe) := by
  have hK' := h.hK
  subst hK'
  exact (di_keysN h.de).ne
end
end DL


set_option Elab.async false
set_option linter.all false
set_option maxRecDepth 100000
set_option maxHeartbeats 1000000
/-! x.pop(0), x + y, x != [] of lists of one's own. -/
namespace DL
open PySem L2
/-- x.pop(0) -/
def fPop0 (j : Nat) : FE := fun ρ => match ρ[j]? with
  | some (.cel (d :: xs)) => if xs.length < 100000 then some (.dat d, ρ.set j (.cel xs)) else none
  | _ => none
theorem de_pop0 {X : Cx} {P : Nat} {j : Nat} {x : Str} {px apos cpos zp : Pos} {zj}
    (hp : PE X (.Call (.Attribute (.Name x px) "pop" apos) [.Constant (.int 0) zj zp] [] cpos) (tBM X.K "list" rPopAt (tVar j) (tCons (tC (.int 0)) tNil))) : DE X P (.Call (.Attribute (.Name x px) "pop" apos) [.Constant (.int 0) zj zp] [] cpos) (tBM X.K "list" rPopAt (tVar j) (tCons (tC (.int 0)) tNil)) (fPop0 j) := ⟨hp, by
  intro Out M σ H ρ r ρ' Q F e q
  unfold fPop0 at e
  split at e
  · rename_i d xs e0
    split at e
    · rename_i hl'
      cases e
      obtain ⟨a, vs, ea, m, o, hl, dd⟩ := F.cel j _ e0
      cases dd with
      | @cons v vs _ _ h t =>
      refine ⟨_, ea, .inl ⟨rfl, _, .inl (.inl hl)⟩, ?_⟩
      refine ⟨a, v :: vs, 0, 0, v, rfl, rfl, hl, by decide, by decide, ?_, rfl, ?_⟩
      · unfold seqIndex?
        simp
      · obtain ⟨F3, X3⟩ := F.celPut e0 ea t
        exact q _ M _ F3 X3 (kd_put e0) (dp_mono X3.same h)
    · cases e
  · cases e⟩
theorem nde_pop0 {X : Cx} {P : Nat} {j : Nat} {x : Str} {px apos cpos zp : Pos} {zj} {K : PySem.W.Frag} (hK : X.K = K) (hN : X.N[j]? = some x := by rfl) (hv : Vis X.env.scope x := by first | exact Or.inl rfl | exact Or.inr (Or.inl rfl) | exact Or.inr (Or.inr rfl)) (hd : (x == ("__debug__" : Str)) = false := by decide) (hcd : (x == ("__classdict__" : Str)) = false := by decide)
    (hst : starEach [.Constant (.int 0) zj zp] X.env = (false, eval (.Constant (.int 0) zj zp) X.env) :: starEach [] X.env := by rfl)
    (hbm : ∀ tx : TE, PE X (.Name x px) (tVar j) → PA X [.Constant (.int 0) zj zp] (tCons tx tNil) → PE X (.Call (.Attribute (.Name x px) "pop" apos) [.Constant (.int 0) zj zp] [] cpos) (tBM X.K "list" rPopAt (tVar j) (tCons tx tNil)) := by exact fun tx h1 h2 => pe_bm PySem.F.plainAttrs_list PySem.F.slot_list_pop PySem.F.type_list_pop mt_popAt h1 h2) :
    NE X K P (.Call (.Attribute (.Name x px) "pop" apos) [.Constant (.int 0) zj zp] [] cpos) (fPop0 j) := by
  subst hK
  exact (de_pop0 (hbm (tC (.int 0)) (pe_var hN hv hd hcd) (pa_cons pe_int pa_nil hst))).ne
/-- x + y, two lists of one's own -/
def fCatC (i j : Nat) : FE := fun ρ => match ρ[i]?, ρ[j]? with
  | some (.cel xs), some (.cel ys) => if xs.length + ys.length < 100000 then some (.new (xs ++ ys), ρ) else none
  | _, _ => none
theorem nde_catC {X : Cx} {P : Nat} {i j : Nat} {x y : Str} {px py pos : Pos} {K : PySem.W.Frag} (hK : X.K = K) (hN : X.N[i]? = some x := by rfl) (hv : Vis X.env.scope x := by first | exact Or.inl rfl | exact Or.inr (Or.inl rfl) | exact Or.inr (Or.inr rfl)) (hd : (x == ("__debug__" : Str)) = false := by decide) (hcd : (x == ("__classdict__" : Str)) = false := by decide)
    (hN' : X.N[j]? = some y := by rfl) (hv' : Vis X.env.scope y := by first | exact Or.inl rfl | exact Or.inr (Or.inl rfl) | exact Or.inr (Or.inr rfl)) (hd' : (y == ("__debug__" : Str)) = false := by decide) (hcd' : (y == ("__classdict__" : Str)) = false := by decide)
    (hop : PE X (.Name x px) (tVar i) → PE X (.Name y py) (tVar j) → PE X (.BinOp (.Name x px) .Add (.Name y py) pos) (tOp rCat (tVar i) (tVar j)) := by exact fun h1 h2 => pe_op op_cat h1 h2) : NE X K P (.BinOp (.Name x px) .Add (.Name y py) pos) (fCatC i j) := by
  subst hK
  refine (show DE X P (.BinOp (.Name x px) .Add (.Name y py) pos) (tOp rCat (tVar i) (tVar j)) (fCatC i j) from ⟨hop (pe_var hN hv hd hcd) (pe_var hN' hv' hd' hcd'), ?_⟩).ne
  intro Out M σ H ρ r ρ' Q F e q
  unfold fCatC at e
  split at e
  · rename_i xs ys e1 e2
    split at e
    · rename_i hl
      cases e
      obtain ⟨a, vs, ea, ma, oa, ha, da⟩ := F.cel i xs e1
      obtain ⟨b, ws, eb, mb, ob, hb, db⟩ := F.cel j ys e2
      refine ⟨_, ea, _, eb, a, b, vs, ws, rfl, rfl, ha, hb, by rw [dpAll_len da, dpAll_len db]; exact Nat.le_of_lt (lt_line hl), fun p hp => ?_⟩
      exact q _ (p :: M) _ (F.celNew hp _) (F.extNew hp _) (Kd.refl _ _) (F.rvNew hp (dpAll_app da db))
    · cases e
  · cases e
end DL


set_option Elab.async false
set_option linter.all false
set_option maxRecDepth 100000
set_option maxHeartbeats 1000000
/-! t[::-1] of a tuple; x != [] of a list of one's own. -/
namespace DL
open PySem PySem.Spec PyProof.Rows L2
section
variable {prog : Program} {w : World} {A : Around} {E : Value → Shared → Prop} {s : Shared}
theorem adjust_rev (n : Nat) : Builtin.Slice.sliceAdjust none none (-1) (n : Int) = ((n : Int) - 1, -1) := by
  unfold Builtin.Slice.sliceAdjust
  have h1 : ((-1 : Int) < 0) := by omega
  simp only [h1, if_true]
theorem places_rev (n : Nat) : Builtin.Slice.slicePlaces ((n : Int) - 1) (-1) (-1) = n := by
  unfold Builtin.Slice.slicePlaces
  have h1 : ¬ ((-1 : Int) > 0) := by omega
  simp only [h1, if_false]
  rw [show (- (-1) : Int) = 1 from rfl, Int.ediv_one]
  split <;> omega
theorem fm_congr {α β : Type} {f g : α → Option β} : ∀ {l : List α}, (∀ k ∈ l, f k = g k) → l.filterMap f = l.filterMap g
  | [], _ => rfl
  | a :: l, h => by rw [List.filterMap_cons, List.filterMap_cons, h a List.mem_cons_self, fm_congr fun k hk => h k (List.mem_cons_of_mem _ hk)]
theorem sliceApplied_rev {sl : Addr} {n : Nat} {u : Tok} {Q : Int × Int × Nat → Shared → Prop} (hs : s.heap.IsSliceOf sl .none .none (.int (-1) u)) (h : Q ((n : Int) - 1, -1, n) s) :
    wpAny (model prog w) A (Builtin.Slice.sliceApplied (.ref sl) (pure (n : Int))) Q E s := by
  obtain ⟨os, hos, hcs, hds⟩ := id hs
  unfold Builtin.Slice.sliceApplied Builtin.Slice.sliceFields
  refine wpAny_bind (wpAny_bind (wpAny_field hos hds (x := .none) rfl (wpAny_bind (wpAny_field hos hds (x := .none) rfl (wpAny_bind (wpAny_field hos hds (x := .int (-1) u) rfl (wpAny_pure ?_)))))))
  refine wpAny_bind (slicePart_int ?_)
  show wpAny _ _ (if ((-1 : Int) == 0) = true then _ else _) _ _ s
  rw [if_neg (by decide)]
  refine wpAny_bind (slicePart_none (wpAny_bind (slicePart_none (wpAny_bind (wpAny_pure ?_)))))
  show wpAny _ _ (match Builtin.Slice.sliceAdjust none none (-1) (n : Int) with | (lo, hi) => pure (lo, (-1 : Int), Builtin.Slice.slicePlaces lo hi (-1))) _ _ s
  rw [adjust_rev n]
  show wpAny _ _ (pure ((n : Int) - 1, (-1 : Int), Builtin.Slice.slicePlaces ((n : Int) - 1) (-1) (-1))) _ _ s
  rw [places_rev n]
  exact wpAny_pure h
theorem pick_rev (xs : Array Value) : ((List.range xs.size).filterMap fun (k : Nat) => xs[((xs.size : Int) - 1 + (k : Int) * -1).toNat]?) = xs.toList.reverse := by
  have e : ∀ k ∈ List.range xs.size, (fun (k : Nat) => xs[((xs.size : Int) - 1 + (k : Int) * -1).toNat]?) k = (fun k => xs.toList.reverse[k]?) k := by
    intro k hk
    have hk := List.mem_range.mp hk
    have : ((xs.size : Int) - 1 + (k : Int) * -1).toNat = xs.size - 1 - k := by omega
    simp only [this]
    rw [List.getElem?_reverse (by rw [Array.length_toList]; exact hk), Array.length_toList, Array.getElem?_toList]
  rw [fm_congr e]
  have h2 : ∀ l : List Value, (List.range l.length).filterMap (fun k => l[k]?) = l := by
    intro l
    induction l with
    | nil => rfl
    | cons a l ih =>
      rw [List.length_cons, List.range_succ_eq_map, List.filterMap_cons]
      simp only [List.getElem?_cons_zero, List.filterMap_map]
      rw [show (fun k => (a :: l)[k]?) ∘ Nat.succ = fun k => l[k]? from by funext k; simp]
      rw [ih]
  have := h2 xs.toList.reverse
  rw [List.length_reverse, Array.length_toList] at this
  exact this
theorem getItem_tuple_rev {t sl : Addr} {items : Array Value} {u : Tok} {Q : Value → Shared → Prop} (ht : IsTup s.heap t items) (hs : s.heap.IsSliceOf sl .none .none (.int (-1) u))
    (h : Q (.ref s.heap.objs.size) { s with heap := s.heap.push { cls := .type "tuple", data := .seq items.toList.reverse.toArray } })
    (hsz : items.size ≤ sizeLine) : wpAny (model prog w) A (getItem (.ref t) (.ref sl)) Q E s := by
  have hdrop : sizeOk (.seq items.toList.reverse.toArray) := by
    show items.toList.reverse.toArray.size ≤ sizeLine
    rw [List.size_toArray, List.length_reverse, Array.length_toList]
    omega
  obtain ⟨os, hos, hcs, hds⟩ := id hs
  have hTs : s.TypeIs (.ref sl) "slice" := ⟨os, hos, hcs⟩
  unfold getItem
  try with_reducible refine wpAny_holding ?_
  first | refine wpAny_bind (wpAny_pure ?_) | skip
  refine wpAny_bind (wpAny_sequenceKey ht.typeIs (by decide) ?_)
  refine wpAny_bind (wpAny_callSpecial?_slot (name := Str.ofString "__getitem__") ht.typeIs slot_tuple_getitem
    (wpAny_call_entry slot_tuple_getitem ht.typeIs entry_tuple_getitem ?_ (args_tuple_getitem _ _)))
  show wpAny _ _ (Builtin.Tuple.tupleItemsOf (.ref t) >>= _) _ _ s
  refine wpAny_bind (tupleItemsOf_ ht ?_)
  refine wpAny_bind (wpAny_typeOf hTs ?_)
  rw [if_pos (by decide)]
  refine wpAny_bind (sliceApplied_rev hs ?_)
  have hno : ¬ (((items.size : Int) - 1 == 0 && (-1 : Int) == 1 && items.size == items.size) = true) := by simp
  show wpAny _ _ (if ((items.size : Int) - 1 == 0 && (-1 : Int) == 1 && items.size == items.size) = true then _ else _) _ _ s
  rw [if_neg hno, pick_rev items]
  first
    | exact wpAny_bind (m := Builtin.Tuple.tupleExact _) (wpAny_newObj_type (wpAny_pure ⟨_, rfl, wpAny_pure h⟩) hdrop)
    | exact wpAny_bind (m := Builtin.Tuple.tupleExact _) (wpAny_newObj_type (wpAny_bind (wpAny_pure (wpAny_pure ⟨_, rfl, wpAny_pure h⟩))) hdrop)
    | exact wpAny_bind (wpAny_bind (m := Builtin.Tuple.tupleExact _) (wpAny_newObj_type (wpAny_pure (wpAny_pure ⟨_, rfl, wpAny_pure h⟩)) hdrop))
    | exact wpAny_bind (wpAny_bind (m := Builtin.Tuple.tupleExact _) (wpAny_newObj_type (wpAny_pure ⟨_, rfl, wpAny_pure h⟩) hdrop))
end
section
variable {X : Cx} {P : Nat} {a b e st : Expr} {ta tb te ts : TE} {fa fb fe fs : FE} {pos p2 : Pos}
def tRevT (K : PySem.W.Frag) (te ts : TE) : TE := fun σ H Q => te σ H fun x H1 => ts σ H1 fun y H2 => ∃ a xs, x = .ref a ∧ y = .int (-1) ∧ SqT K H2 a xs ∧ ∀ p, H2 p = none → Q (.ref p) (upd H2 p (.tup xs.reverse))
theorem pe_revT (he : PE X e te) (hs : PE X st ts) : PE X (.Subscript e (.Slice none none (some st) p2) pos) (tRevT X.K te ts) := by
  intro pins s σ H Q I h
  refine Subscript_ (thn (he pins s σ H _ I h) fun v s1 ⟨x, H1, I1, r1, q1⟩ => ?_)
  refine wpAny_Slice ?_
  rw [evalPart_none, evalPart_some]
  refine wpAny_pure (wpAny_pure (thn (hs pins s1 σ H1 _ I1 q1) fun vs s3 ⟨y, H3, I3, r3, q3⟩ => ?_))
  obtain ⟨a, xs, rfl, rfl, hq, q⟩ := q3
  obtain ⟨t, rfl⟩ := r3
  cases r1
  have I4 : Inv X pins σ H3 { s3 with heap := s3.heap.push { cls := .type "slice", data := .fields #[.none, .none, .int (-1) t] } } := I3.kept (t' := s3.toks) fun b ob q => Heap.get?_push_of_some _ q
  obtain ⟨its, r, ht, hz⟩ := I4.tuple hq
  have hlen := r.length
  show wpAny (model X.prog X.w) X.A (subscriptTail e (.Slice none none (some st) p2) (.ref a) (.ref s3.heap.objs.size)) (EP X pins σ Q) X.xe { s3 with heap := s3.heap.push { cls := .type "slice", data := .fields #[.none, .none, .int (-1) t] } }
  refine tail_any (ops := [.ref a, .ref s3.heap.objs.size]) ht.typeIs slot_tuple_getitem.lookup ?_ (by with_unfolding_all rfl)
  refine getItem_tuple_rev ht (Heap.IsSliceOf.new ..) ?_ (by rw [List.size_toArray] <;> omega)
  refine ⟨.ref _, _, I4.laid (t' := s3.toks) (o := .tup xs.reverse) (fun b ob q => Heap.get?_push_of_some _ q) (Nat.le_refl _) ?_, rfl, q _ (I4.hok.fresh (Nat.le_refl _))⟩
  exact ⟨by rw [List.length_reverse]; exact hz, _, vals_rev r, L2.IsTupN.new _ _⟩
def fRevT (fe fs : FE) : FE := fun ρ => match fe ρ with
  | some (.dat (.tuple xs), ρ1) => (match fs ρ1 with
    | some (.dat (.int i), ρ2) => if i = -1 then some (.dat (.tuple xs.reverse), ρ2) else none
    | _ => none)
  | _ => none
theorem de_revT (h : DE X P e te fe) (hs : DE X P st ts fs) : DE X P (.Subscript e (.Slice none none (some st) p2) pos) (tRevT X.K te ts) (fRevT fe fs) := ⟨pe_revT h.1 hs.1, by
  intro Out M σ H ρ r ρ' Q F e q
  unfold fRevT at e
  split at e
  · rename_i xs ρ1 e1
    split at e
    · rename_i i ρ2 e2
      split at e
      · rename_i hi
        cases e
        subst hi
        refine h.2 Out M σ H ρ _ _ _ F e1 fun v M1 H1 F1 X1 k1 o1 => ?_
        refine hs.2 Out M1 σ H1 ρ1 _ _ _ F1 e2 fun w M2 H2 F2 X2 k2 o2 => ?_
        cases o2
        have o3 := dp_mono X2.same (show Dq X.K (hid M1 H1) v (.tuple xs) from o1)
        cases o3 with
        | @tup a ws _ hs' ha =>
          refine ⟨a, ws, rfl, rfl, sameT (hid_sub _ _) hs', fun p hp => ?_⟩
          have s3 := same_upd hp (.tup ws.reverse)
          have np : p ∉ M2 := fun z => F2.live p z hp
          exact q _ M2 _ (F2.grow s3) ((X1.trans X2).trans (F2.ext s3)) (k1.trans k2) (.tup (SqT.of (hid_out np upd_same fun _ z => nomatch z)) (dpAll_mono (hid_same s3) (dpAll_rev ha)))
      · cases e
    · cases e
  · cases e⟩
theorem nde_revT {K : PySem.W.Frag} (h : NE X K P e fe) (hs : NE X K P st fs) : NE X K P (.Subscript e (.Slice none none (some st) p2) pos) (fRevT fe fs) := by
  have hK' := h.hK
  subst hK'
  exact (de_revT h.de hs.de).ne
end
end DL


set_option Elab.async false
set_option linter.all false
set_option maxRecDepth 100000
set_option maxHeartbeats 1000000
/-! x != [] of a list of one's own. -/
namespace DL
open PySem L2
def fNeC (j : Nat) : FE := fun ρ => match ρ[j]? with
  | some (.cel xs) => if SeqAt.shaped (.list xs) then some (.dat (.bool (!PyData.eqv (.list xs) (.list []))), ρ) else none
  | _ => none
theorem se_neC {K : PySem.W.Frag} {P j : Nat} : SE K P (tOp (rNeD K) (tVar j) (tLst tNil)) (fNeC j) := by
  intro Out M σ H ρ r ρ' Q F e q
  unfold fNeC at e
  split at e
  · rename_i xs e0
    split at e
    · rename_i hs
      cases e
      obtain ⟨a, vs, ea, m, o, hl, dd⟩ := F.cel j _ e0
      refine ⟨_, ea, Nat.zero_le _, fun p hp => ?_⟩
      have s3 := same_upd hp (.lst [])
      have d1 : Dq K (upd H p (.lst [])) (.ref a) (.list xs) := .lst (SqL.of (s3 _ _ hl)) (dpAll_mono ((hid_sub _ _).trans s3) dd)
      have d2 : Dq K (upd H p (.lst [])) (.ref p) (.list []) := .lst (SqL.of upd_same) .nil
      refine ⟨_, _, dq_dp (SeqAt.canLay_of_shaped hs) d1, dq_dp rfl d2, hs, by decide, ?_⟩
      exact q _ M _ (F.grow s3) (F.ext s3) (Kd.refl _ _) (.bl _)
    · cases e
  · cases e
theorem ndt_neC {X : Cx} {P : Nat} {j kk : Nat} {x : Str} {px lp pos : Pos} {K : PySem.W.Frag} (hK : X.K = K) (hr : Room kk X.A) (hN : X.N[j]? = some x := by rfl) (hv : Vis X.env.scope x := by first | exact Or.inl rfl | exact Or.inr (Or.inl rfl) | exact Or.inr (Or.inr rfl)) (hd : (x == ("__debug__" : Str)) = false := by decide) (hcd : (x == ("__classdict__" : Str)) = false := by decide) :
    NT X K P (.Compare (.Name x px) [.NotEq] [.List [] lp] pos) (fB (fNeC j)) := by
  subst hK
  exact (show DT X P (.Compare (.Name x px) [.NotEq] [.List [] lp] pos) (tTest (tOp (rNeD X.K) (tVar j) (tLst tNil))) (fB (fNeC j)) from ⟨pt_cmpR (op_neD hr.units) (pe_var hN hv hd hcd) (pe_lst pa_nil) (nomark _), st_val se_neC⟩).ne
/-! ### t not in x, a list of tuples -/
def rNiL (K : PySem.W.Frag) : R2 := fun x y H Q => ∃ d xs, Dp K H x d ∧ Dp K H y (.list xs) ∧ SeqAt.shaped d = true ∧ SeqAt.shaped (.list xs) = true ∧ Q (.bl (!xs.any fun z => PyData.eqv z d)) H
theorem op_niL {X : Cx} {kk : Nat} (hr : Room kk X.A) : OpR X (compareOp .NotIn) (rNiL X.K) := by
  intro pins s σ H x y v u Q I rx ry h
  obtain ⟨d, xs, hd, he, sd, se, q⟩ := h
  obtain ⟨as, r1⟩ := Dp.reads I d x v hd rx
  obtain ⟨bs, r2⟩ := Dp.reads I _ y u he ry
  have hu := hr.un
  have c1 := SeqAt.canLay_of_shaped se
  have c2 : PyData.canLayAll0 xs = true := by simpa only [PyData.canLay0] using c1
  refine SeqAt.notIn_list_reads r2 r1 c2 (SeqAt.canLay_of_shaped sd) ?_ ⟨.bl _, H, I, rfl, q⟩
  unfold SeqAt.shaped at sd
  rw [Bool.and_eq_true] at sd
  have hdp := of_decide_eq_true sd.2
  have : min (PyData.depthAll xs) d.depth ≤ d.depth := Nat.min_le_right _ _
  omega
def gNiL : PyData → PyData → Option PyData
  | d, .list xs => if SeqAt.shaped d && SeqAt.shaped (.list xs) then some (.bool (!xs.any fun z => PyData.eqv z d)) else none
  | _, _ => none
theorem opd_niL {K : PySem.W.Frag} : OpD K (rNiL K) gNiL := by
  intro M H x y a b z Q _ dx dy e q
  unfold gNiL at e
  split at e
  · split at e
    · rename_i c
      cases e
      rw [Bool.and_eq_true] at c
      exact ⟨a, _, dq_dp (SeqAt.canLay_of_shaped c.1) (dp_mono (hid_sub _ _) dx), dq_dp (SeqAt.canLay_of_shaped c.2) (dp_mono (hid_sub _ _) dy), c.1, c.2, q _ H (Same.refl _) (.bl _)⟩
    · cases e
  · cases e
end DL


set_option Elab.async false
set_option linter.all false
set_option maxRecDepth 100000
set_option maxHeartbeats 4000000
namespace K21
open PySem L2 DL LW
def top (i : Nat) : Stmt := PySem.Challenge.pw_squareweb_k21_whole_pushes_in_one_way.main.body.getD i (.Pass ⟨0, 0, 0, 0⟩)
/-- the built-ins' names are nobody's own -/
structure Bl (mg : Str → Option Value) : Prop where
  b_enumerate : mg "enumerate" = none
  b_len : mg "len" = none
  b_list : mg "list" = none
  b_max : mg "max" = none
  b_min : mg "min" = none
  b_range : mg "range" = none
  b_tuple : mg "tuple" = none
section
variable {P : Program} {w : World} {K : PySem.W.Frag} {mg : Str → Option Value} {base : Heap}
/-! ### lines_hung_from: 0 touching, 1 at, 2 above, 3 below, 4 number -/
abbrev s_lines_hung_from : Stmt := top 1
theorem sc_lines_hung_from : FnScope ["touching", "at", "above", "below", "number"] ["touching"] (defScope s_lines_hung_from) := ⟨rfl, rfl, rfl, by decide +kernel, rfl, by decide +kernel, by decide +kernel⟩
def F_lines_hung_from : FE := fFun 1 4 (fRet (fDc2 [1, 2, 3, 4] [4] (fiEnT (faCons (fVar 0) faNil)) (fgTup 2 (fgCons (fgName 1 1) (fgCons (fgTup 2 (fgCons (fgName 1 2) (fgCons (fgName 1 3) fgNil))) fgNil))) fYes (fiTup (fVar 3)) (fgName 1 4) fYes (fVar 4) (fVar 1)))
theorem ok_lines_hung_from {f : Addr} {fd : FuncData} (F : Fun K "lines_hung_from" "lines_hung_from" s_lines_hung_from f fd) (T : Bl mg) : FnOk P w K mg base CX0 1 f fd ["touching"] (spD K 1 F_lines_hung_from) :=
  nfun_ok (k := 0) F sc_lines_hung_from rfl rfl fun cdv A outer s H E hr =>
    (ndss_one (nds_ret (nde_dc2 (own := [("at", 1), ("above", 2), ("below", 3), ("number", 4)]) (vs1 := [4]) rfl sc_lines_hung_from.nd (ndi_enT T.b_enumerate (nda_cons (ndv 0) nda_nil)) (blkOk_by (by rfl)) (fun _ _ _ _ _ => (ndg_tup rfl (ndgs_cons (ndg_name (i := 1) sc_lines_hung_from.nd) (ndgs_cons (ndg_tup rfl (ndgs_cons (ndg_name (i := 2) sc_lines_hung_from.nd) (ndgs_cons (ndg_name (i := 3) sc_lines_hung_from.nd) ndgs_nil))) ndgs_nil)))) (fun _ _ _ _ _ => ndts_nil) (fun _ _ _ _ _ => (ndi_tup (ndv 3))) (fun _ _ _ _ _ => (ndg_name (i := 4) sc_lines_hung_from.nd)) (fun _ _ _ _ _ => ndts_nil) (fun _ _ _ _ _ => (ndv 4)) (fun _ _ _ _ _ => (ndv 1)))))
/-! ### lines_stood_on: 0 touching, 1 at, 2 above, 3 below, 4 number -/
abbrev s_lines_stood_on : Stmt := top 2
theorem sc_lines_stood_on : FnScope ["touching", "at", "above", "below", "number"] ["touching"] (defScope s_lines_stood_on) := ⟨rfl, rfl, rfl, by decide +kernel, rfl, by decide +kernel, by decide +kernel⟩
def F_lines_stood_on : FE := fFun 1 4 (fRet (fDc2 [1, 2, 3, 4] [4] (fiEnT (faCons (fVar 0) faNil)) (fgTup 2 (fgCons (fgName 1 1) (fgCons (fgTup 2 (fgCons (fgName 1 2) (fgCons (fgName 1 3) fgNil))) fgNil))) fYes (fiTup (fVar 2)) (fgName 1 4) fYes (fVar 4) (fVar 1)))
theorem ok_lines_stood_on {f : Addr} {fd : FuncData} (F : Fun K "lines_stood_on" "lines_stood_on" s_lines_stood_on f fd) (T : Bl mg) : FnOk P w K mg base CX0 1 f fd ["touching"] (spD K 1 F_lines_stood_on) :=
  nfun_ok (k := 0) F sc_lines_stood_on rfl rfl fun cdv A outer s H E hr =>
    (ndss_one (nds_ret (nde_dc2 (own := [("at", 1), ("above", 2), ("below", 3), ("number", 4)]) (vs1 := [4]) rfl sc_lines_stood_on.nd (ndi_enT T.b_enumerate (nda_cons (ndv 0) nda_nil)) (blkOk_by (by rfl)) (fun _ _ _ _ _ => (ndg_tup rfl (ndgs_cons (ndg_name (i := 1) sc_lines_stood_on.nd) (ndgs_cons (ndg_tup rfl (ndgs_cons (ndg_name (i := 2) sc_lines_stood_on.nd) (ndgs_cons (ndg_name (i := 3) sc_lines_stood_on.nd) ndgs_nil))) ndgs_nil)))) (fun _ _ _ _ _ => ndts_nil) (fun _ _ _ _ _ => (ndi_tup (ndv 2))) (fun _ _ _ _ _ => (ndg_name (i := 4) sc_lines_stood_on.nd)) (fun _ _ _ _ _ => ndts_nil) (fun _ _ _ _ _ => (ndv 4)) (fun _ _ _ _ _ => (ndv 1)))))
/-! ### next_number: 0 touching -/
abbrev s_next_number : Stmt := top 7
theorem sc_next_number : FnScope ["touching"] ["touching"] (defScope s_next_number) := ⟨rfl, rfl, rfl, by decide +kernel, rfl, by decide +kernel, by decide +kernel⟩
def F_next_number : FE := fFun 1 0 (fRet (fCa gLenD (faCons (fCall 1 F_lines_hung_from (fVar 0) faNil) faNil)))
theorem ok_next_number {f : Addr} {fd : FuncData} (F : Fun K "next_number" "next_number" s_next_number f fd) (T : Bl mg) (C_lines_hung_from : Cal P w K mg base 1 "lines_hung_from" ["touching"] 1 F_lines_hung_from) : FnOk P w K mg base CX0 2 f fd ["touching"] (spD K 1 F_next_number) :=
  nfun_ok (k := 1) F sc_next_number rfl rfl fun cdv A outer s H E hr =>
    (ndss_one (nds_ret (nde_lenD T.b_len (nda_cons (nde_cal C_lines_hung_from (hr.mono (by omega)) (ndv 0) nda_nil) nda_nil))))
/-! ### nearest_count: 0 many, 1 most -/
abbrev s_nearest_count : Stmt := top 6
theorem sc_nearest_count : FnScope ["many", "most"] ["many", "most"] (defScope s_nearest_count) := ⟨rfl, rfl, rfl, by decide +kernel, rfl, by decide +kernel, by decide +kernel⟩
def F_nearest_count : FE := fFun 2 0 (fRet (fCa gMin2 (faCons (fCa gMax2 (faCons (fVar 0) (faCons (fC (.int 1)) faNil))) (faCons (fVar 1) faNil))))
theorem ok_nearest_count {f : Addr} {fd : FuncData} (F : Fun K "nearest_count" "nearest_count" s_nearest_count f fd) (T : Bl mg) : FnOk P w K mg base CX0 1 f fd ["many", "most"] (spD K 2 F_nearest_count) :=
  nfun_ok (k := 0) F sc_nearest_count rfl rfl fun cdv A outer s H E hr =>
    (ndss_one (nds_ret (nde_min2 rfl T.b_min (nda_cons (nde_max2 rfl T.b_max (nda_cons (ndv 0) (nda_cons nde_int nda_nil))) (nda_cons (ndv 1) nda_nil)))))
/-! ### push_over: 0 touching, 1 many, 2 new, 3 hanging, 4 pushed, 5 first_line, 6 new_line -/
abbrev s_push_over : Stmt := top 4
theorem sc_push_over : FnScope ["touching", "many", "new", "hanging", "pushed", "first_line", "new_line"] ["touching", "many"] (defScope s_push_over) := ⟨rfl, rfl, rfl, by decide +kernel, rfl, by decide +kernel, by decide +kernel⟩
def F_push_over : FE := fFun 2 5 (fSeq (fAsg 2 2 (fCall 1 F_next_number (fVar 0) faNil))
  (fSeq (fAsg 2 3 (f2 gIx (f2 gIx (fVar 0) (fC (.int 0))) (fC (.int 1))))
  (fSeq (fAsg 2 4 (fCall 2 F_nearest_count (fVar 1) (faCons (fCa gLen (faCons (fVar 3) faNil)) faNil)))
  (fSeq (fAsg 2 5 (fTup (faCons (fTup faNil) (faCons (f2 gCatT (fTup (faCons (fVar 2) faNil)) (fSlT (fVar 3) (foSome (fVar 4)) foNone)) faNil))))
  (fSeq (fAsg 2 6 (fTup (faCons (fTup (faCons (fVar 2) faNil)) (faCons (fSlT (fVar 3) foNone (foSome (fVar 4))) faNil))))
  (fRet (f2 gCatT (fTup (faCons (fVar 5) (faCons (fVar 6) faNil))) (fSlT (fVar 0) (foSome (fC (.int 1))) foNone))))))))
theorem ok_push_over {f : Addr} {fd : FuncData} (F : Fun K "push_over" "push_over" s_push_over f fd) (T : Bl mg) (C_next_number : Cal P w K mg base 2 "next_number" ["touching"] 1 F_next_number) (C_nearest_count : Cal P w K mg base 1 "nearest_count" ["many", "most"] 2 F_nearest_count) : FnOk P w K mg base CX0 3 f fd ["touching", "many"] (spD K 2 F_push_over) :=
  nfun_ok (k := 2) F sc_push_over rfl rfl fun cdv A outer s H E hr =>
    (ndss_cons (nds_set (i := 2) sc_push_over.nd (nde_cal C_next_number (hr.mono (by omega)) (ndv 0) nda_nil))
    (ndss_cons (nds_set (i := 3) sc_push_over.nd (nde_ix (nde_ix (ndv 0) nde_int) nde_int))
    (ndss_cons (nds_set (i := 4) sc_push_over.nd (nde_cal C_nearest_count (hr.mono (by omega)) (ndv 1) (nda_cons (nde_len T.b_len (nda_cons (ndv 3) nda_nil)) nda_nil)))
    (ndss_cons (nds_set (i := 5) sc_push_over.nd (nde_tup (nda_cons (nde_tup nda_nil) (nda_cons (nde_catT (nde_tup (nda_cons (ndv 2) nda_nil)) (nde_sliceT (ndv 3) (ndo_some (ndv 4)) ndo_none)) nda_nil))))
    (ndss_cons (nds_set (i := 6) sc_push_over.nd (nde_tup (nda_cons (nde_tup (nda_cons (ndv 2) nda_nil)) (nda_cons (nde_sliceT (ndv 3) ndo_none (ndo_some (ndv 4))) nda_nil))))
    (ndss_one (nds_ret (nde_catT (nde_tup (nda_cons (ndv 5) (nda_cons (ndv 6) nda_nil))) (nde_sliceT (ndv 0) (ndo_some nde_int) ndo_none)))))))))
/-! ### left_rim: 0 touching, 1 stood_on, 2 rim, 3 below -/
abbrev s_left_rim : Stmt := top 8
theorem sc_left_rim : FnScope ["touching", "stood_on", "rim", "below"] ["touching"] (defScope s_left_rim) := ⟨rfl, rfl, rfl, by decide +kernel, rfl, by decide +kernel, by decide +kernel⟩
def F_left_rim : FE := fFun 1 3 (fSeq (fAsg 1 1 (fCall 1 F_lines_stood_on (fVar 0) faNil))
  (fSeq (fAsg 1 2 (fLst faNil))
  (fSeq (fAsg 1 3 (f2 gIx (f2 gIx (fVar 0) (fC (.int 0))) (fC (.int 1))))
  (fSeq (fWhileN (fTru (fVar 3)) (fSeq (fDrop (fAppend 2 (f2 gIx (fVar 3) (fC (.int 0)))))
  (fAsg 1 3 (f2 gIx (f2 gIx (fVar 0) (f2 gIxD (fVar 1) (f2 gIx (fVar 3) (fC (.int 0))))) (fC (.int 1))))) 1000000000000000000000000000000)
  (fRet (fFrzS 1 2))))))
theorem ok_left_rim {f : Addr} {fd : FuncData} (F : Fun K "left_rim" "left_rim" s_left_rim f fd) (T : Bl mg) (C_lines_stood_on : Cal P w K mg base 1 "lines_stood_on" ["touching"] 1 F_lines_stood_on) : FnOk P w K mg base CX0 2 f fd ["touching"] (spD K 1 F_left_rim) :=
  nfun_ok (k := 1) F sc_left_rim rfl rfl fun cdv A outer s H E hr =>
    (ndss_cons (nds_set (i := 1) sc_left_rim.nd (nde_cal C_lines_stood_on (hr.mono (by omega)) (ndv 0) nda_nil))
    (ndss_cons (nds_set (i := 2) sc_left_rim.nd (nde_lst nda_nil))
    (ndss_cons (nds_set (i := 3) sc_left_rim.nd (nde_ix (nde_ix (ndv 0) nde_int) nde_int))
    (ndss_cons (nds_while 1000000000000000000000000000000 PassesOwn.never (ndt_tru (ndv 3)) (ndss_cons (nds_expr (nde_app (j := 2) (nde_ix (ndv 3) nde_int)))
    (ndss_one (nds_set (i := 3) sc_left_rim.nd (nde_ix (nde_ix (ndv 0) (nde_ixD hr (ndv 1) (nde_ix (ndv 3) nde_int))) nde_int)))))
    (ndss_one (nds_ret (ndvz 2)))))))
/-! ### push_beside: 0 touching, 1 many, 2 new, 3 rim, 4 last_pushed, 5 at, 6 above, 7 below, 8 first_line, 9 lengthened -/
abbrev s_push_beside : Stmt := top 5
theorem sc_push_beside : FnScope ["touching", "many", "new", "rim", "last_pushed", "at", "above", "below", "first_line", "lengthened"] ["touching", "many"] (defScope s_push_beside) := ⟨rfl, rfl, rfl, by decide +kernel, rfl, by decide +kernel, by decide +kernel⟩
def F_push_beside : FE := fFun 2 8 (fSeq (fAsg 2 2 (fCall 1 F_next_number (fVar 0) faNil))
  (fSeq (fAsg 2 3 (fCall 1 F_left_rim (fVar 0) faNil))
  (fSeq (fAsg 2 4 (f2 gIx (fVar 3) (f2 gSub (fCall 2 F_nearest_count (fVar 1) (faCons (fCa gLen (faCons (fVar 3) faNil)) faNil)) (fC (.int 1)))))
  (fSeq (fAsg 2 5 (f2 gIxD (fCall 1 F_lines_stood_on (fVar 0) faNil) (fVar 4)))
  (fSeq (fAsgG (f2 gIx (fVar 0) (fVar 5)) (fgTup 2 (fgCons (fgName 2 6) (fgCons (fgName 2 7) fgNil))))
  (fSeq (fAsg 2 8 (fTup (faCons (fTup faNil) (faCons (f2 gCatT (fTup (faCons (fVar 2) faNil)) (f2 gIx (f2 gIx (fVar 0) (fC (.int 0))) (fC (.int 1)))) faNil))))
  (fSeq (fAsg 2 9 (fTup (faCons (f2 gCatT (fTup (faCons (fVar 2) faNil)) (fVar 6)) (faCons (fVar 7) faNil))))
  (fRet (f2 gCatT (f2 gCatT (f2 gCatT (fTup (faCons (fVar 8) faNil)) (fSlT (fVar 0) (foSome (fC (.int 1))) (foSome (fVar 5)))) (fTup (faCons (fVar 9) faNil))) (fSlT (fVar 0) (foSome (f2 gAdd (fVar 5) (fC (.int 1)))) foNone))))))))))
theorem ok_push_beside {f : Addr} {fd : FuncData} (F : Fun K "push_beside" "push_beside" s_push_beside f fd) (T : Bl mg) (C_next_number : Cal P w K mg base 2 "next_number" ["touching"] 1 F_next_number) (C_left_rim : Cal P w K mg base 2 "left_rim" ["touching"] 1 F_left_rim) (C_nearest_count : Cal P w K mg base 1 "nearest_count" ["many", "most"] 2 F_nearest_count) (C_lines_stood_on : Cal P w K mg base 1 "lines_stood_on" ["touching"] 1 F_lines_stood_on) : FnOk P w K mg base CX0 3 f fd ["touching", "many"] (spD K 2 F_push_beside) :=
  nfun_ok (k := 2) F sc_push_beside rfl rfl fun cdv A outer s H E hr =>
    (ndss_cons (nds_set (i := 2) sc_push_beside.nd (nde_cal C_next_number (hr.mono (by omega)) (ndv 0) nda_nil))
    (ndss_cons (nds_set (i := 3) sc_push_beside.nd (nde_cal C_left_rim (hr.mono (by omega)) (ndv 0) nda_nil))
    (ndss_cons (nds_set (i := 4) sc_push_beside.nd (nde_ix (ndv 3) (nde_sub (nde_cal C_nearest_count (hr.mono (by omega)) (ndv 1) (nda_cons (nde_len T.b_len (nda_cons (ndv 3) nda_nil)) nda_nil)) nde_int)))
    (ndss_cons (nds_set (i := 5) sc_push_beside.nd (nde_ixD hr (nde_cal C_lines_stood_on (hr.mono (by omega)) (ndv 0) nda_nil) (ndv 4)))
    (ndss_cons (nds_asg (nde_ix (ndv 0) (ndv 5)) (ndg_tup rfl (ndgs_cons (ndg_name (i := 6) sc_push_beside.nd) (ndgs_cons (ndg_name (i := 7) sc_push_beside.nd) ndgs_nil))))
    (ndss_cons (nds_set (i := 8) sc_push_beside.nd (nde_tup (nda_cons (nde_tup nda_nil) (nda_cons (nde_catT (nde_tup (nda_cons (ndv 2) nda_nil)) (nde_ix (nde_ix (ndv 0) nde_int) nde_int)) nda_nil))))
    (ndss_cons (nds_set (i := 9) sc_push_beside.nd (nde_tup (nda_cons (nde_catT (nde_tup (nda_cons (ndv 2) nda_nil)) (ndv 6)) (nda_cons (ndv 7) nda_nil))))
    (ndss_one (nds_ret (nde_catT (nde_catT (nde_catT (nde_tup (nda_cons (ndv 8) nda_nil)) (nde_sliceT (ndv 0) (ndo_some nde_int) (ndo_some (ndv 5)))) (nde_tup (nda_cons (ndv 9) nda_nil))) (nde_sliceT (ndv 0) (ndo_some (nde_add (ndv 5) nde_int)) ndo_none)))))))))))
/-! ### _law_bag: 0 script, 1 k, 2 cell, 3 seed -/
abbrev s_law_bag : Stmt := top 10
theorem sc_law_bag : FnScope ["script", "k", "cell", "seed"] ["script", "k"] (defScope s_law_bag) := ⟨rfl, rfl, rfl, by decide +kernel, rfl, by decide +kernel, by decide +kernel⟩
theorem ok_law_bag {f : Addr} {fd : FuncData} (F : Fun K "_law_bag" "_law_bag" s_law_bag f fd) (T : Bl mg) : FnOk P w K mg base CX0 1 f fd ["script", "k"] (spD K 2 F_law_bag) :=
  nfun_ok (k := 0) F sc_law_bag rfl rfl fun cdv A outer s H E hr =>
    (ndss_cons (nds_set (i := 2) sc_law_bag.nd nde_int)
    (ndss_cons (nds_if (ndt_cmp op_lt (opd_rI0 fun _ _ _ => .bl _) (ndv 1) (nde_len T.b_len (nda_cons (ndv 0) nda_nil)) (nomark _)) (ndss_one (nds_set (i := 2) sc_law_bag.nd (nde_mod (nde_ix (ndv 0) (ndv 1)) (nde_pow nde_int nde_int)))) ndss_nil)
    (ndss_cons (nds_set (i := 3) sc_law_bag.nd (nde_add nde_int (nde_mod (nde_add (nde_add (nde_add (nde_mul (nde_mod (ndv 2) nde_int) nde_int) (nde_mul (nde_mul nde_int (ndv 1)) (ndv 1))) (nde_mul nde_int (ndv 1))) nde_int) nde_int)))
    (ndss_cons (nds_if (ndt_cmp op_lt (opd_rI0 fun _ _ _ => .bl _) (ndv 2) (nde_pow nde_int nde_int) (nomark _)) (ndss_one (nds_ret (nde_lst (nda_cons nde_int (nda_cons (ndv 3) nda_nil))))) ndss_nil)
    (ndss_one (nds_ret (nde_lst (nda_cons (ndv 2) (nda_cons (ndv 3) nda_nil)))))))))
/-! ### _law_take: 0 bag, 1 many, 2 found -/
abbrev s_law_take : Stmt := top 11
theorem sc_law_take : FnScope ["bag", "many", "found"] ["bag", "many"] (defScope s_law_take) := ⟨rfl, rfl, rfl, by decide +kernel, rfl, by decide +kernel, by decide +kernel⟩
theorem ok_law_take {f : Addr} {fd : FuncData} (F : Fun K "_law_take" "_law_take" s_law_take f fd) (T : Bl mg) : FnOk P w K mg base CX0 1 f fd ["bag", "many"] (spD K 2 F_law_take) :=
  nfun_ok (k := 0) F sc_law_take rfl rfl fun cdv A outer s H E hr =>
    (ndss_cons (nds_if (ndt_cmp op_gt (opd_rI0 fun _ _ _ => .bl _) (nde_celIx (j := 0) nde_int) nde_int (nomark _)) (ndss_cons (nds_set (i := 2) sc_law_take.nd (nde_mod (nde_celIx (j := 0) nde_int) (ndv 1)))
    (ndss_cons (nds_setIx (j := 0) nde_int (nde_div (nde_celIx (j := 0) nde_int) (ndv 1)))
    (ndss_one (nds_ret (ndv 2))))) ndss_nil)
    (ndss_cons (nds_setIx (j := 0) nde_int (nde_mod (nde_mul (nde_celIx (j := 0) nde_int) nde_int) nde_int))
    (ndss_one (nds_ret (nde_mod (nde_div (nde_mod (nde_mul (nde_div (nde_celIx (j := 0) nde_int) nde_int) (nde_add (nde_mod (nde_celIx (j := 0) nde_int) nde_int) nde_int)) nde_int) nde_int) (ndv 1))))))
/-! ### _law_left_lines: 0 touching, 1 found, 2 place, 3 number, 4 k -/
abbrev s_law_left_lines : Stmt := top 13
theorem sc_law_left_lines : FnScope ["touching", "found", "place", "number", "k"] ["touching"] (defScope s_law_left_lines) := ⟨rfl, rfl, rfl, by decide +kernel, rfl, by decide +kernel, by decide +kernel⟩
def F_law_left_lines : FE := fFun 1 4 (fSeq (fAsg 1 1 (fLst faNil))
  (fSeq (fAsg 1 2 (fC (.int 0)))
  (fSeq (fWhileN (fB (f2 gLt (fVar 2) (f2 gSub (fCa gLen (faCons (fVar 0) faNil)) (fC (.int 1))))) (fSeq (fAsg 1 3 (f2 gIx (f2 gIx (f2 gIx (fVar 0) (fVar 2)) (fC (.int 1))) (fC (.int 0))))
  (fSeq (fAsg 1 2 (f2 gIx (fFrz (fLc [4] (fiR1 (faCons (fCa gLen (faCons (fVar 0) faNil)) faNil)) (fgName 1 4) (fB (f2 (gIn false) (fVar 3) (f2 gIx (f2 gIx (fVar 0) (fVar 4)) (fC (.int 0))))) (fVar 4))) (fC (.int 0))))
  (fDrop (fAppend 1 (fVar 2))))) 1000000000000000000000000000000)
  (fRet (fFrzS 1 1)))))
theorem ok_law_left_lines {f : Addr} {fd : FuncData} (F : Fun K "_law_left_lines" "_law_left_lines" s_law_left_lines f fd) (T : Bl mg) : FnOk P w K mg base CX0 1 f fd ["touching"] (spD K 1 F_law_left_lines) :=
  nfun_ok (k := 0) F sc_law_left_lines rfl rfl fun cdv A outer s H E hr =>
    (ndss_cons (nds_set (i := 1) sc_law_left_lines.nd (nde_lst nda_nil))
    (ndss_cons (nds_set (i := 2) sc_law_left_lines.nd nde_int)
    (ndss_cons (nds_while 1000000000000000000000000000000 PassesOwn.never (ndt_cmp op_lt (opd_rI0 fun _ _ _ => .bl _) (ndv 2) (nde_sub (nde_len T.b_len (nda_cons (ndv 0) nda_nil)) nde_int) (nomark _)) (ndss_cons (nds_set (i := 3) sc_law_left_lines.nd (nde_ix (nde_ix (nde_ix (ndv 0) (ndv 2)) nde_int) nde_int))
    (ndss_cons (nds_set (i := 2) sc_law_left_lines.nd (nde_ix (nde_frz (nde_lc (own := [("k", 4)]) rfl sc_law_left_lines.nd (ndi_r1 T.b_range (nda_cons (nde_len T.b_len (nda_cons (ndv 0) nda_nil)) nda_nil)) (blkOk_by (by rfl)) (fun _ _ _ _ _ => (ndg_name (i := 4) sc_law_left_lines.nd)) (fun _ _ _ _ _ => (ndts_one (ndt_cmp op_in_seq opd_in (ndv 3) (nde_ix (nde_ix (ndv 0) (ndv 4)) nde_int) (by rfl)))) (fun _ _ _ _ _ => (ndv 4)))) nde_int))
    (ndss_one (nds_expr (nde_app (j := 1) (ndv 2)))))))
    (ndss_one (nds_ret (ndvz 1))))))
/-! ### _law_pushed: 0 bag, 1 many, 2 found, 3 new, 4 below, 5 size, 6 rims, 7 place, 8 rows -/
abbrev s_law_pushed : Stmt := top 12
theorem sc_law_pushed : FnScope ["bag", "many", "found", "new", "below", "size", "rims", "place", "rows"] ["bag", "many"] (defScope s_law_pushed) := ⟨rfl, rfl, rfl, by decide +kernel, rfl, by decide +kernel, by decide +kernel⟩
def F_law_pushed : FE := fFun 2 7 (fSeq (fAsg 2 2 (fTup (faCons (fTup (faCons (fTup faNil) (faCons (fTup (faCons (fC (.int 0)) faNil)) faNil))) (faCons (fTup (faCons (fTup (faCons (fC (.int 0)) faNil)) (faCons (fTup faNil) faNil))) faNil))))
  (fSeq (fFor (fiR2 (faCons (fC (.int 1)) (faCons (fVar 1) faNil))) (fgName 2 3) (fIfS (fB (f2 gEq (fCall 2 F_law_take (fVar 0) (faCons (fC (.int 2)) faNil)) (fC (.int 0)))) (fSeq (fAsg 2 4 (f2 gIx (f2 gIx (fVar 2) (fC (.int 0))) (fC (.int 1))))
  (fSeq (fAsg 2 5 (f2 gAdd (fC (.int 1)) (fCall 2 F_law_take (fVar 0) (faCons (fCa gLen (faCons (fVar 4) faNil)) faNil))))
  (fAsg 2 2 (f2 gCatT (fTup (faCons (fTup (faCons (fTup faNil) (faCons (f2 gCatT (fTup (faCons (fVar 3) faNil)) (fSlT (fVar 4) (foSome (fVar 5)) foNone)) faNil))) (faCons (fTup (faCons (fTup (faCons (fVar 3) faNil)) (faCons (fSlT (fVar 4) foNone (foSome (fVar 5))) faNil))) faNil))) (fSlT (fVar 2) (foSome (fC (.int 1))) foNone))))) (fSeq (fAsg 2 6 (fCall 1 F_law_left_lines (fVar 2) faNil))
  (fSeq (fAsg 2 7 (f2 gIx (fVar 6) (fCall 2 F_law_take (fVar 0) (faCons (fCa gLen (faCons (fVar 6) faNil)) faNil))))
  (fSeq (fAsg 2 8 (fCaN gListOf (faCons (fVar 2) faNil)))
  (fSeq (fSetIx 8 (fC (.int 0)) (fTup (faCons (fTup faNil) (faCons (f2 gCatT (fTup (faCons (fVar 3) faNil)) (f2 gIx (fCelIx 8 (fC (.int 0))) (fC (.int 1)))) faNil))))
  (fSeq (fSetIx 8 (fVar 7) (fTup (faCons (f2 gCatT (fTup (faCons (fVar 3) faNil)) (f2 gIx (fCelIx 8 (fVar 7)) (fC (.int 0)))) (faCons (f2 gIx (fCelIx 8 (fVar 7)) (fC (.int 1))) faNil))))
  (fAsg 2 2 (fCa gTupleOf (faCons (fFrzS 2 8) faNil))))))))))
  (fRet (fVar 2))))
theorem ok_law_pushed {f : Addr} {fd : FuncData} (F : Fun K "_law_pushed" "_law_pushed" s_law_pushed f fd) (T : Bl mg) (C_law_take : Cal P w K mg base 1 "_law_take" ["bag", "many"] 2 F_law_take) (C_law_left_lines : Cal P w K mg base 1 "_law_left_lines" ["touching"] 1 F_law_left_lines) : FnOk P w K mg base CX0 2 f fd ["bag", "many"] (spD K 2 F_law_pushed) :=
  nfun_ok (k := 1) F sc_law_pushed rfl rfl fun cdv A outer s H E hr =>
    (ndss_cons (nds_set (i := 2) sc_law_pushed.nd (nde_tup (nda_cons (nde_tup (nda_cons (nde_tup nda_nil) (nda_cons (nde_tup (nda_cons nde_int nda_nil)) nda_nil))) (nda_cons (nde_tup (nda_cons (nde_tup (nda_cons nde_int nda_nil)) (nda_cons (nde_tup nda_nil) nda_nil))) nda_nil))))
    (ndss_cons (nds_for rfl PassesOwn.never (ndi_r2 T.b_range (nda_cons nde_int (nda_cons (ndv 1) nda_nil))) (ndg_name (i := 3) sc_law_pushed.nd) (ndss_one (nds_if (ndt_cmp (op_eqD hr.units) opd_eq (nde_cal C_law_take (hr.mono (by omega)) (ndv 0) (nda_cons nde_int nda_nil)) nde_int (nomark _)) (ndss_cons (nds_set (i := 4) sc_law_pushed.nd (nde_ix (nde_ix (ndv 2) nde_int) nde_int))
    (ndss_cons (nds_set (i := 5) sc_law_pushed.nd (nde_add nde_int (nde_cal C_law_take (hr.mono (by omega)) (ndv 0) (nda_cons (nde_len T.b_len (nda_cons (ndv 4) nda_nil)) nda_nil))))
    (ndss_one (nds_set (i := 2) sc_law_pushed.nd (nde_catT (nde_tup (nda_cons (nde_tup (nda_cons (nde_tup nda_nil) (nda_cons (nde_catT (nde_tup (nda_cons (ndv 3) nda_nil)) (nde_sliceT (ndv 4) (ndo_some (ndv 5)) ndo_none)) nda_nil))) (nda_cons (nde_tup (nda_cons (nde_tup (nda_cons (ndv 3) nda_nil)) (nda_cons (nde_sliceT (ndv 4) ndo_none (ndo_some (ndv 5))) nda_nil))) nda_nil))) (nde_sliceT (ndv 2) (ndo_some nde_int) ndo_none)))))) (ndss_cons (nds_set (i := 6) sc_law_pushed.nd (nde_cal C_law_left_lines (hr.mono (by omega)) (ndv 2) nda_nil))
    (ndss_cons (nds_set (i := 7) sc_law_pushed.nd (nde_ix (ndv 6) (nde_cal C_law_take (hr.mono (by omega)) (ndv 0) (nda_cons (nde_len T.b_len (nda_cons (ndv 6) nda_nil)) nda_nil))))
    (ndss_cons (nds_set (i := 8) sc_law_pushed.nd (nde_list T.b_list (nda_cons (ndv 2) nda_nil)))
    (ndss_cons (nds_setIx (j := 8) nde_int (nde_tup (nda_cons (nde_tup nda_nil) (nda_cons (nde_catT (nde_tup (nda_cons (ndv 3) nda_nil)) (nde_ix (nde_celIx (j := 8) nde_int) nde_int)) nda_nil))))
    (ndss_cons (nds_setIx (j := 8) (ndv 7) (nde_tup (nda_cons (nde_catT (nde_tup (nda_cons (ndv 3) nda_nil)) (nde_ix (nde_celIx (j := 8) (ndv 7)) nde_int)) (nda_cons (nde_ix (nde_celIx (j := 8) (ndv 7)) nde_int) nda_nil))))
    (ndss_one (nds_set (i := 2) sc_law_pushed.nd (nde_tuple T.b_tuple (nda_cons (ndvz 8) nda_nil))))))))))))
    (ndss_one (nds_ret (ndv 2)))))
/-! ### _law_form: 0 touching, 1 names, 2 rows, 3 stands, 4 line, 5 waiting, 6 number, 7 part -/
abbrev s_law_form : Stmt := top 14
theorem sc_law_form : FnScope ["touching", "names", "rows", "stands", "line", "waiting", "number", "part"] ["touching"] (defScope s_law_form) := ⟨rfl, rfl, rfl, by decide +kernel, rfl, by decide +kernel, by decide +kernel⟩
def F_law_form : FE := fFun 1 7 (fOwnG (fgSeq (fgNew 1 (.dic []))
  (fgSeq (fgSet 1 2 (fLst faNil))
  (fgSeq (fgNew 3 (.dic []))
  (fgSeq (fgFrz 1 (fgFor 1 4 (fiTup (fVar 0)) (fgSeq (fgFor 1 6 (fiTup (f2 gIx (fVar 4) (fC (.int 0)))) (fgSeq (fgPut 3 (fVar 6) (fVar 4))
  fgNext))
  fgNext)))
  (fgSeq (fgSet 1 5 (fLst (faCons (f2 gIx (fVar 0) (fC (.int 0))) faNil)))
  (fgSeq (fgFrz 1 (fgWhile (fB (fNeC 5)) (fgSeq (fgSet 1 4 (fPop0 5))
  (fgSeq (fgExp (fAppend 2 (fVar 4)))
  (fgSeq (fgFor 1 6 (fiTup (f2 gIx (fVar 4) (fC (.int 1)))) (fgSeq (fgPutLen 1 (fVar 6))
  fgNext))
  (fgSeq (fgFor 1 6 (fiTup (f2 gIx (fVar 4) (fC (.int 1)))) (fgSeq (fgIf (fB (f2 gNiL (f2 gIxD (fVar 3) (fVar 6)) (fFrz (fCatC 2 5)))) (fgSeq (fgExp (fAppend 5 (f2 gIxD (fVar 3) (fVar 6))))
  fgNext) fgNext)
  fgNext))
  fgNext)))) 1000000000000000000000000000000))
  (fgRest (fRet (fCa gTupleOf (faCons (fFrz (fLcC 2 [4] (fgName 1 4) fYes (fCa gTupleOf (faCons (fFrz (fLc [7] (fiTup (fVar 4)) (fgName 1 7) fYes (fCa gTupleOf (faCons (fFrz (fLc [6] (fiTup (fVar 7)) (fgName 1 6) fYes (f2 gIxD (fVar 1) (fVar 6)))) faNil)))) faNil)))) faNil)))))))))))
theorem ok_law_form {f : Addr} {fd : FuncData} (F : Fun K "_law_form" "_law_form" s_law_form f fd) (T : Bl mg) : FnOk P w K mg base CX0 1 f fd ["touching"] (spD K 1 F_law_form) :=
  nfun_ok (k := 0) F sc_law_form rfl rfl fun cdv A outer s H E hr =>
    (ndss_g (gss_cons (gs_newK (i := 1) rfl sc_law_form.nd)
    (gss_cons (gs_set (j := 2) sc_law_form.nd (nde_lst nda_nil))
    (gss_cons (gs_newK (i := 3) rfl sc_law_form.nd)
    (gss_cons (gs_frz (gs_for (j := 4) rfl PassesOwn.never sc_law_form.nd (ndi_tup (ndv 0)) (gss_cons (gs_for (j := 6) rfl PassesOwn.never sc_law_form.nd (ndi_tup (nde_ix (ndv 4) nde_int)) (gss_cons (gs_put (i := 3) hr (ndv 6) (ndv 4))
    gss_nil))
    gss_nil)))
    (gss_cons (gs_set (j := 5) sc_law_form.nd (nde_lst (nda_cons (nde_ix (ndv 0) nde_int) nda_nil)))
    (gss_cons (gs_frz (gs_while 1000000000000000000000000000000 PassesOwn.never (ndt_neC (j := 5) rfl hr) (gss_cons (gs_set (j := 4) sc_law_form.nd (nde_pop0 (j := 5) rfl))
    (gss_cons (gs_exp (nde_app (j := 2) (ndv 4)))
    (gss_cons (gs_for (j := 6) rfl PassesOwn.never sc_law_form.nd (ndi_tup (nde_ix (ndv 4) nde_int)) (gss_cons (gs_putLen (i := 1) hr (ndv 6) T.b_len)
    gss_nil))
    (gss_cons (gs_for (j := 6) rfl PassesOwn.never sc_law_form.nd (ndi_tup (nde_ix (ndv 4) nde_int)) (gss_cons (gs_if (ndt_cmp (op_niL hr) opd_niL (nde_ixD hr (ndv 3) (ndv 6)) (nde_frz (nde_catC (i := 2) (j := 5) rfl)) (by rfl)) (gss_cons (gs_exp (nde_app (j := 5) (nde_ixD hr (ndv 3) (ndv 6))))
    gss_nil) gss_nil)
    gss_nil))
    gss_nil))))))
    (gss_rest (ndss_one (nds_ret (nde_tuple T.b_tuple (nda_cons (nde_frz (nde_lcC (j := 2) (own := [("line", 4)]) rfl sc_law_form.nd (blkOk_by (by rfl)) (fun _ _ _ _ _ => (ndg_name (i := 4) sc_law_form.nd)) (fun _ _ _ _ _ => ndts_nil) (fun _ _ _ _ _ => (nde_tuple T.b_tuple (nda_cons (nde_frz (nde_lc (own := [("part", 7)]) rfl sc_law_form.nd (ndi_tup (ndv 4)) (blkOk_by (by rfl)) (fun _ _ _ _ _ => (ndg_name (i := 7) sc_law_form.nd)) (fun _ _ _ _ _ => ndts_nil) (fun _ _ _ _ _ => (nde_tuple T.b_tuple (nda_cons (nde_frz (nde_lc (own := [("number", 6)]) rfl sc_law_form.nd (ndi_tup (ndv 7)) (blkOk_by (by rfl)) (fun _ _ _ _ _ => (ndg_name (i := 6) sc_law_form.nd)) (fun _ _ _ _ _ => ndts_nil) (fun _ _ _ _ _ => (nde_ixD hr (ndv 1) (ndv 6))))) nda_nil))))) nda_nil))))) nda_nil))))))))))))
/-! ### _law_mirror: 0 touching, 1 line -/
abbrev s_law_mirror : Stmt := top 15
theorem sc_law_mirror : FnScope ["touching", "line"] ["touching"] (defScope s_law_mirror) := ⟨rfl, rfl, rfl, by decide +kernel, rfl, by decide +kernel, by decide +kernel⟩
def F_law_mirror : FE := fFun 1 1 (fRet (fCa gTupleOf (faCons (fFrz (fLc [1] (fiTup (fVar 0)) (fgName 1 1) fYes (fTup (faCons (fRevT (f2 gIx (fVar 1) (fC (.int 0))) (f1 gNeg (fC (.int 1)))) (faCons (fRevT (f2 gIx (fVar 1) (fC (.int 1))) (f1 gNeg (fC (.int 1)))) faNil))))) faNil)))
theorem ok_law_mirror {f : Addr} {fd : FuncData} (F : Fun K "_law_mirror" "_law_mirror" s_law_mirror f fd) (T : Bl mg) : FnOk P w K mg base CX0 1 f fd ["touching"] (spD K 1 F_law_mirror) :=
  nfun_ok (k := 0) F sc_law_mirror rfl rfl fun cdv A outer s H E hr =>
    (ndss_one (nds_ret (nde_tuple T.b_tuple (nda_cons (nde_frz (nde_lc (own := [("line", 1)]) rfl sc_law_mirror.nd (ndi_tup (ndv 0)) (blkOk_by (by rfl)) (fun _ _ _ _ _ => (ndg_name (i := 1) sc_law_mirror.nd)) (fun _ _ _ _ _ => ndts_nil) (fun _ _ _ _ _ => (nde_tup (nda_cons (nde_revT (nde_ix (ndv 1) nde_int) (nde_neg nde_int)) (nda_cons (nde_revT (nde_ix (ndv 1) nde_int) (nde_neg nde_int)) nda_nil)))))) nda_nil))))
/-! ### law: 0 script, 1 bag, 2 most, 3 some, 4 counts, 5 many, 6 forms, 7 touching, 8 turn, 9 further, 10 wide, 11 form, 12 k -/
abbrev s_law : Stmt := top 16
theorem sc_law : FnScope ["script", "bag", "most", "some", "counts", "many", "forms", "touching", "turn", "further", "wide", "form", "k"] ["script"] (defScope s_law) := ⟨rfl, rfl, rfl, by decide +kernel, rfl, by decide +kernel, by decide +kernel⟩
def F_law : FE := fFun 1 12 (fSeq (fAsg 1 1 (fCall 2 F_law_bag (fVar 0) (faCons (fC (.int 0)) faNil)))
  (fSeq (fAsg 1 2 (f2 gIx (fFrz (fLst (faCons (fC (.int 5)) (faCons (fC (.int 5)) (faCons (fC (.int 6)) faNil))))) (fCall 2 F_law_take (fVar 1) (faCons (fC (.int 3)) faNil))))
  (fSeq (fAsg 1 3 (fFrz (fLst (faCons (fTup (faCons (fTup (faCons (fTup faNil) (faCons (fTup (faCons (fC (.int 0)) faNil)) faNil))) (faCons (fTup (faCons (fTup (faCons (fC (.int 0)) faNil)) (faCons (fTup faNil) faNil))) faNil))) faNil))))
  (fSeq (fAsg 1 4 (fFrz (fLst (faCons (fC (.int 1)) (faCons (fC (.int 2)) (faCons (fC (.int 6)) (faCons (fC (.int 22)) (faCons (fC (.int 92)) (faCons (fC (.int 422)) faNil)))))))))
  (fSeq (fFor (fiR2 (faCons (fC (.int 1)) (faCons (f2 gAdd (fVar 2) (fC (.int 1))) faNil))) (fgName 1 5) (fOwnG (fgSeq (fgNew 6 (.dit []))
  (fgSeq (fgFrz 1 (fgFor 1 7 (fiList (fVar 3)) (fgSeq (fgPutT 6 (fCall 1 F_law_form (fVar 7) faNil))
  fgNext)))
  (fgRest (fSeq (fIfS (fOr (fB (f2 gNe (fCa gLen (faCons (fVar 3) faNil)) (f2 gIx (fVar 4) (f2 gSub (fVar 5) (fC (.int 1)))))) (fB (f2 gNe (fCa gLenN (faCons (fVar 6) faNil)) (fCa gLen (faCons (fVar 3) faNil))))) (fRet (fC (.bool false))) fNext)
  (fSeq (fIfS (fB (f2 gNe (fFrz (fLc [11] (fiKeysN (fVar 6)) (fgName 1 11) (fB (f2 gNiN (fCall 1 F_law_form (fCall 1 F_law_mirror (fVar 11) faNil) faNil) (fVar 6))) (fVar 11))) (fFrz (fLst faNil)))) (fRet (fC (.bool false))) fNext)
  (fSeq (fFor (fiR1 (faCons (fC (.int 10)) faNil)) (fgName 1 8) (fIfS (fB (f2 gNiN (fCall 1 F_law_form (fCall 2 F_law_pushed (fVar 1) (faCons (fVar 5) faNil)) faNil) (fVar 6))) (fRet (fC (.bool false))) fNext))
  (fSeq (fAsg 1 9 (fFrz (fLst faNil)))
  (fSeq (fFor (fiList (fVar 3)) (fgName 1 7) (fSeq (fAsg 1 10 (fCa gLen (faCons (f2 gIx (f2 gIx (fVar 7) (fC (.int 0))) (fC (.int 1))) faNil)))
  (fSeq (fAsg 1 9 (f2 gCat (fVar 9) (fFrz (fLc [12] (fiR1 (faCons (fVar 10) faNil)) (fgName 1 12) fYes (fCall 2 F_push_over (fVar 7) (faCons (f2 gAdd (fVar 12) (fC (.int 1))) faNil))))))
  (fAsg 1 9 (f2 gCat (fVar 9) (fFrz (fLc [12] (fiR1 (faCons (fCa gLen (faCons (fCall 1 F_law_left_lines (fVar 7) faNil) faNil)) faNil)) (fgName 1 12) fYes (fCall 2 F_push_beside (fVar 7) (faCons (f2 gAdd (fVar 12) (fC (.int 1))) faNil)))))))))
  (fAsg 1 3 (fVar 9))))))))))))
  (fRet (fC (.bool true))))))))
theorem ok_law {f : Addr} {fd : FuncData} (F : Fun K "law" "law" s_law f fd) (T : Bl mg) (C_law_bag : Cal P w K mg base 1 "_law_bag" ["script", "k"] 2 F_law_bag) (C_law_take : Cal P w K mg base 1 "_law_take" ["bag", "many"] 2 F_law_take) (C_law_form : Cal P w K mg base 1 "_law_form" ["touching"] 1 F_law_form) (C_law_mirror : Cal P w K mg base 1 "_law_mirror" ["touching"] 1 F_law_mirror) (C_law_pushed : Cal P w K mg base 2 "_law_pushed" ["bag", "many"] 2 F_law_pushed) (C_push_over : Cal P w K mg base 3 "push_over" ["touching", "many"] 2 F_push_over) (C_law_left_lines : Cal P w K mg base 1 "_law_left_lines" ["touching"] 1 F_law_left_lines) (C_push_beside : Cal P w K mg base 3 "push_beside" ["touching", "many"] 2 F_push_beside) : FnOk P w K mg base CX0 4 f fd ["script"] (spD K 1 F_law) :=
  nfun_ok (k := 3) F sc_law rfl rfl fun cdv A outer s H E hr =>
    (ndss_cons (nds_set (i := 1) sc_law.nd (nde_cal C_law_bag (hr.mono (by omega)) (ndv 0) (nda_cons nde_int nda_nil)))
    (ndss_cons (nds_set (i := 2) sc_law.nd (nde_ix (nde_frz (nde_lst (nda_cons nde_int (nda_cons nde_int (nda_cons nde_int nda_nil))))) (nde_cal C_law_take (hr.mono (by omega)) (ndv 1) (nda_cons nde_int nda_nil))))
    (ndss_cons (nds_set (i := 3) sc_law.nd (nde_frz (nde_lst (nda_cons (nde_tup (nda_cons (nde_tup (nda_cons (nde_tup nda_nil) (nda_cons (nde_tup (nda_cons nde_int nda_nil)) nda_nil))) (nda_cons (nde_tup (nda_cons (nde_tup (nda_cons nde_int nda_nil)) (nda_cons (nde_tup nda_nil) nda_nil))) nda_nil))) nda_nil))))
    (ndss_cons (nds_set (i := 4) sc_law.nd (nde_frz (nde_lst (nda_cons nde_int (nda_cons nde_int (nda_cons nde_int (nda_cons nde_int (nda_cons nde_int (nda_cons nde_int nda_nil)))))))))
    (ndss_cons (nds_for rfl PassesOwn.never (ndi_r2 T.b_range (nda_cons nde_int (nda_cons (nde_add (ndv 2) nde_int) nda_nil))) (ndg_name (i := 5) sc_law.nd) (ndss_g (gss_cons (gs_newN (i := 6) rfl sc_law.nd)
    (gss_cons (gs_frz (gs_for (j := 7) rfl PassesOwn.never sc_law.nd (ndi_list (ndv 3)) (gss_cons (gs_putT (i := 6) hr (nde_cal C_law_form (hr.mono (by omega)) (ndv 7) nda_nil))
    gss_nil)))
    (gss_rest (ndss_cons (nds_if (ndt_w (ndw_or (ndt_cmp (op_neD hr.units) opd_ne (nde_len T.b_len (nda_cons (ndv 3) nda_nil)) (nde_ix (ndv 4) (nde_sub (ndv 5) nde_int)) (nomark _)) (ndw_or1 (ndt_cmp (op_neD hr.units) opd_ne (nde_lenN T.b_len (nda_cons (ndv 6) nda_nil)) (nde_len T.b_len (nda_cons (ndv 3) nda_nil)) (nomark _))))) (ndss_one (nds_ret nde_bl)) ndss_nil)
    (ndss_cons (nds_if (ndt_cmp (op_neD hr.units) opd_ne (nde_frz (nde_lc (own := [("form", 11)]) rfl sc_law.nd (ndi_keysN (ndv 6)) (blkOk_by (by rfl)) (fun _ _ _ _ _ => (ndg_name (i := 11) sc_law.nd)) (fun _ _ _ _ _ => (ndts_one (ndt_cmp (op_niN hr) opd_niN (nde_cal C_law_form (hr.mono (by omega)) (nde_cal C_law_mirror (hr.mono (by omega)) (ndv 11) nda_nil) nda_nil) (ndv 6) (by rfl)))) (fun _ _ _ _ _ => (ndv 11)))) (nde_frz (nde_lst nda_nil)) (nomark _)) (ndss_one (nds_ret nde_bl)) ndss_nil)
    (ndss_cons (nds_for rfl PassesOwn.never (ndi_r1 T.b_range (nda_cons nde_int nda_nil)) (ndg_name (i := 8) sc_law.nd) (ndss_one (nds_if (ndt_cmp (op_niN hr) opd_niN (nde_cal C_law_form (hr.mono (by omega)) (nde_cal C_law_pushed (hr.mono (by omega)) (ndv 1) (nda_cons (ndv 5) nda_nil)) nda_nil) (ndv 6) (by rfl)) (ndss_one (nds_ret nde_bl)) ndss_nil)))
    (ndss_cons (nds_set (i := 9) sc_law.nd (nde_frz (nde_lst nda_nil)))
    (ndss_cons (nds_for rfl PassesOwn.never (ndi_list (ndv 3)) (ndg_name (i := 7) sc_law.nd) (ndss_cons (nds_set (i := 10) sc_law.nd (nde_len T.b_len (nda_cons (nde_ix (nde_ix (ndv 7) nde_int) nde_int) nda_nil)))
    (ndss_cons (nds_set (i := 9) sc_law.nd (nde_cat (ndv 9) (nde_frz (nde_lc (own := [("k", 12)]) rfl sc_law.nd (ndi_r1 T.b_range (nda_cons (ndv 10) nda_nil)) (blkOk_by (by rfl)) (fun _ _ _ _ _ => (ndg_name (i := 12) sc_law.nd)) (fun _ _ _ _ _ => ndts_nil) (fun _ _ _ _ _ => (nde_cal C_push_over (hr.mono (by omega)) (ndv 7) (nda_cons (nde_add (ndv 12) nde_int) nda_nil)))))))
    (ndss_one (nds_set (i := 9) sc_law.nd (nde_cat (ndv 9) (nde_frz (nde_lc (own := [("k", 12)]) rfl sc_law.nd (ndi_r1 T.b_range (nda_cons (nde_len T.b_len (nda_cons (nde_cal C_law_left_lines (hr.mono (by omega)) (ndv 7) nda_nil) nda_nil)) nda_nil)) (blkOk_by (by rfl)) (fun _ _ _ _ _ => (ndg_name (i := 12) sc_law.nd)) (fun _ _ _ _ _ => ndts_nil) (fun _ _ _ _ _ => (nde_cal C_push_beside (hr.mono (by omega)) (ndv 7) (nda_cons (nde_add (ndv 12) nde_int) nda_nil)))))))))))
    (ndss_one (nds_set (i := 3) sc_law.nd (ndv 9)))))))))))))
    (ndss_one (nds_ret nde_bl)))))))
end
end K21


set_option Elab.async false
set_option linter.all false
set_option maxRecDepth 100000
set_option maxHeartbeats 4000000
namespace LW
open PySem L2 DL
/-! ### the bag -/
def BagOk (xs : List PyData) : Prop := ∃ c d : Int, xs = [.int c, .int d] ∧ 0 ≤ c ∧ 0 ≤ d ∧ d < 2147483648
theorem okMul_r {i j : Int} (h1 : 0 ≤ j) (h2 : j < 2 ^ 64) : okMul i j = true := by
  unfold okMul
  simp only [Bool.or_eq_true, Bool.and_eq_true, decide_eq_true_eq]
  exact .inr ⟨by omega, h2⟩
theorem okDiv_ok {m : Int} (h0 : 0 < m) (h1 : m < 2 ^ 100) : okDiv m = true := by
  unfold okDiv
  rw [Bool.and_eq_true]
  exact ⟨decide_eq_true h0, decide_eq_true (by omega)⟩
theorem atI0 {α : Type} (a : α) (r : List α) : atI (a :: r) 0 = some a := by
  have := atI_nat (xs := a :: r) (j := 0) (v := a) rfl
  simpa using this
theorem atI1 {α : Type} (a b : α) (r : List α) : atI (a :: b :: r) 1 = some b := by
  have := atI_nat (xs := a :: b :: r) (j := 1) (v := b) rfl
  simpa using this
theorem take_ok {xs : List PyData} {m : Int} (hb : BagOk xs) (h0 : 0 < m) (h1 : m < 2 ^ 100) :
    ∃ (r : Int) (ys : List PyData) (e : En), F_law_take [.cel xs, .dat (.int m)] = some (.dat (.int r), [.cel ys, e]) ∧ BagOk ys ∧ 0 ≤ r ∧ r < m := by
  obtain ⟨c, d, rfl, hc, hd, hd2⟩ := hb
  have hm200 : okDiv m = true := okDiv_ok h0 h1
  by_cases hp : 0 < c
  · refine ⟨c % m, [.int (c / m), .int d], .un, ?_, ⟨c / m, d, rfl, Int.ediv_nonneg hc (by omega), hd, hd2⟩, Int.emod_nonneg _ (by omega), Int.emod_lt_of_pos _ h0⟩
    simp [F_law_take, fVar, fC, f2, f1, fB, fAnd, fOr, fNot, fV, fAndV, fOrV, fNotV, fIfE, faNil, faCons, fTup, fLst, fFrz, fCa, fCaN, setE, fgName, fgNil, fgCons, fgTup, fNext, fSeq, fIfS, fRet, fRetN, fDrop, fAsg, fAsgG, fBreak, fCont, fPar, fSetIx, fCelIx, fAppend, fiList, fiTup, fiR1, fiR2, fFor, fYes, fFrzS, fFun, kpE, fCall, gI, gAdd, DL.gSub, gMul, gMod, gDiv, gPow, gLt, gLe, gGt, gGe, gIsN, gNotN, isNon, gLen, gMin2, gMax2, gAbs, gListOf, gTupleOf, seqOf, gIx, gNeg, foNone, foSome, fSl, fRev, atI0, ixN, hp, h0, hm200]
  · have e : d * 48271 % 2147483647 < 2147483648 := by omega
    refine ⟨d * 48271 % 2147483647 / 13 * (d * 48271 % 2147483647 % 32749 + 17) % 2147483629 / 32 % m, [.int c, .int (d * 48271 % 2147483647)], .un, ?_, ⟨c, _, rfl, hc, by omega, by omega⟩, Int.emod_nonneg _ (by omega), Int.emod_lt_of_pos _ h0⟩
    · have m1 : okMul d 48271 = true := okMul_r (by decide) (by decide)
      have m2 : ∀ i : Int, okMul i (d * 48271 % 2147483647 % 32749 + 17) = true := fun i => okMul_r (by omega) (by omega)
      simp [F_law_take, fVar, fC, f2, f1, fB, fAnd, fOr, fNot, fV, fAndV, fOrV, fNotV, fIfE, faNil, faCons, fTup, fLst, fFrz, fCa, fCaN, setE, fgName, fgNil, fgCons, fgTup, fNext, fSeq, fIfS, fRet, fRetN, fDrop, fAsg, fAsgG, fBreak, fCont, fPar, fSetIx, fCelIx, fAppend, fiList, fiTup, fiR1, fiR2, fFor, fYes, fFrzS, fFun, kpE, fCall, gI, gAdd, DL.gSub, gMul, gMod, gDiv, gPow, gLt, gLe, gGt, gGe, gIsN, gNotN, isNon, gLen, gMin2, gMax2, gAbs, gListOf, gTupleOf, seqOf, gIx, gNeg, foNone, foSome, fSl, fRev, atI0, atI1, ixN, hp, h0, m1, m2, show okDiv 13 = true from rfl, show okDiv 32 = true from rfl]

/-! ### comprehensions, by a map -/
theorem lcGo_map {α : Type} {vs : List Nat} {g : FG} {ft : FT} {fe : FE} {ρ : List En} (toD h : α → PyData) : ∀ (xs : List α), (∀ x ∈ xs, ∃ ρ1, g (toD x) ρ = some ρ1 ∧ ft ρ1 = some (true, ρ1) ∧ fe ρ1 = some (.dat (h x), ρ1) ∧ noCel vs ρ1 = true ∧ wipeE ρ1 vs = ρ) →
    fLcGo vs g ft fe (xs.map toD) ρ = some (xs.map h, ρ)
  | [], _ => rfl
  | x :: xs, hx => by
    obtain ⟨ρ1, e1, e2, e3, e4, e5⟩ := hx x List.mem_cons_self
    have ih := lcGo_map toD h xs fun y hy => hx y (List.mem_cons_of_mem _ hy)
    rw [List.map_cons, List.map_cons]
    unfold fLcGo
    simp only [e1, e2, e3, e4, e5, ih, if_true]
theorem lc_map {α : Type} {vs : List Nat} {fi : FI} {g : FG} {ft : FT} {fe : FE} {ρ : List En} (toD h : α → PyData) (xs : List α) (hi : fi ρ = some (xs.map toD, ρ)) (hn : noCel vs ρ = true) (hw : restE ρ (wipeE ρ vs) vs = ρ) (hl : xs.length < 100000)
    (hx : ∀ x ∈ xs, ∃ ρ1, g (toD x) (wipeE ρ vs) = some ρ1 ∧ ft ρ1 = some (true, ρ1) ∧ fe ρ1 = some (.dat (h x), ρ1) ∧ noCel vs ρ1 = true ∧ wipeE ρ1 vs = wipeE ρ vs) : fLc vs fi g ft fe ρ = some (.new (xs.map h), ρ) := by
  unfold fLc
  simp only [hi, hn, if_true, lcGo_map toD h xs hx, List.length_map, hl, hw]

/-! ### squares, cuts -/
abbrev Sq := Int × Int × Int
def mx : List Int → Int
  | [] => 0
  | n :: r => maxI n r
end LW


set_option Elab.async false
set_option linter.all false
set_option maxRecDepth 100000
set_option maxHeartbeats 4000000
namespace LW
open PySem L2 DL
theorem bag_ok {ns : List Int} {k : Int} (h0 : 0 ≤ k) (h1 : k ≤ 100) : ∃ xs e1 e2, F_law_bag [.dat (.list (ns.map PyData.int)), .dat (.int k)] = some (.new xs, [e1, e2]) ∧ BagOk xs := by
  have a1 : ∀ x : Int, okMul (x % 2147483629) 16807 = true := fun x => okMul_r (by decide) (by decide)
  have a2 : okMul 40009 k = true := okMul_r h0 (by omega)
  have a3 : okMul (40009 * k) k = true := okMul_r h0 (by omega)
  have a4 : okMul 7919 k = true := okMul_r h0 (by omega)
  have p1 : okPow 10 60 = true := rfl
  have p2 : okPow 10 18 = true := rfl
  by_cases hk : k < (ns.length : Int)
  · have hk' : k.toNat < ns.length := by omega
    have ea : atI (ns.map PyData.int) k = some (.int ns[k.toNat]) := by
      have : atI (ns.map PyData.int) ((k.toNat : Nat) : Int) = some (.int ns[k.toNat]) := atI_nat (by rw [List.getElem?_map, List.getElem?_eq_getElem hk']; rfl)
      rwa [Int.toNat_of_nonneg h0] at this
    have hc : 0 ≤ ns[k.toNat] % 1000000000000000000000000000000000000000000000000000000000000 := Int.emod_nonneg _ (by decide)
    by_cases hs : ns[k.toNat] % 1000000000000000000000000000000000000000000000000000000000000 < 1000000000000000000
    · refine ⟨_, _, _, by simp [F_law_bag, fVar, fC, f2, f1, fB, fAnd, fOr, fNot, fV, fAndV, fOrV, fNotV, fIfE, faNil, faCons, fTup, fLst, fFrz, fCa, fCaN, setE, fgName, fgNil, fgCons, fgTup, fNext, fSeq, fIfS, fRet, fRetN, fDrop, fAsg, fAsgG, fBreak, fCont, fPar, fSetIx, fCelIx, fAppend, fiList, fiTup, fiR1, fiR2, fFor, fYes, fFrzS, fFun, kpE, fCall, gI, gAdd, DL.gSub, gMul, gMod, gDiv, gPow, gLt, gLe, gGt, gGe, gIsN, gNotN, isNon, gLen, gMin2, gMax2, gAbs, gListOf, gTupleOf, seqOf, gIx, gNeg, foNone, foSome, fSl, fRev, hk, ea, p1, p2, a1, a2, a3, a4, hs]; first | rfl | exact ⟨rfl, rfl, rfl⟩ | exact ⟨rfl, rfl⟩, 0, _, rfl, by omega, by omega, by omega⟩
    · refine ⟨_, _, _, by simp [F_law_bag, fVar, fC, f2, f1, fB, fAnd, fOr, fNot, fV, fAndV, fOrV, fNotV, fIfE, faNil, faCons, fTup, fLst, fFrz, fCa, fCaN, setE, fgName, fgNil, fgCons, fgTup, fNext, fSeq, fIfS, fRet, fRetN, fDrop, fAsg, fAsgG, fBreak, fCont, fPar, fSetIx, fCelIx, fAppend, fiList, fiTup, fiR1, fiR2, fFor, fYes, fFrzS, fFun, kpE, fCall, gI, gAdd, DL.gSub, gMul, gMod, gDiv, gPow, gLt, gLe, gGt, gGe, gIsN, gNotN, isNon, gLen, gMin2, gMax2, gAbs, gListOf, gTupleOf, seqOf, gIx, gNeg, foNone, foSome, fSl, fRev, hk, ea, p1, p2, a1, a2, a3, a4, hs]; first | rfl | exact ⟨rfl, rfl, rfl⟩ | exact ⟨rfl, rfl⟩, _, _, rfl, hc, by omega, by omega⟩
  · refine ⟨[.int 0, .int (1 + (40009 * k * k + 7919 * k + 1009) % 2147483645)], .un, .un, ?_, 0, _, rfl, by omega, by omega, by omega⟩
    simp [F_law_bag, fVar, fC, f2, f1, fB, fAnd, fOr, fNot, fV, fAndV, fOrV, fNotV, fIfE, faNil, faCons, fTup, fLst, fFrz, fCa, fCaN, setE, fgName, fgNil, fgCons, fgTup, fNext, fSeq, fIfS, fRet, fRetN, fDrop, fAsg, fAsgG, fBreak, fCont, fPar, fSetIx, fCelIx, fAppend, fiList, fiTup, fiR1, fiR2, fFor, fYes, fFrzS, fFun, kpE, fCall, gI, gAdd, DL.gSub, gMul, gMod, gDiv, gPow, gLt, gLe, gGt, gGe, gIsN, gNotN, isNon, gLen, gMin2, gMax2, gAbs, gListOf, gTupleOf, seqOf, gIx, gNeg, foNone, foSome, fSl, fRev, hk, p1, p2, a1, a2, a3, a4, show okMul 0 16807 = true from rfl]

/-! ### the greatest divisor -/
/-! ### sorted -/
def row (q : Sq) : List Int := [q.2.1, q.1, q.2.2]
def tD (q : Sq) : PyData := .tuple [.int q.2.1, .int q.1, .int q.2.2]
/-! ### lowest -/
end LW


set_option Elab.async false
set_option linter.all false
set_option maxRecDepth 100000
set_option maxHeartbeats 4000000
/-! steps of functions over frames -/
namespace LX
open PySem L2 DL LW
section
variable {P i np k : Nat} {ρ ρ1 ρ2 ρ3 ρ' : List En} {f g fe fb fa F : FE} {x y z d b : PyData} {xs ys zs ds : List PyData} {e : List En}
theorem f2_at {o : PyData → PyData → Option PyData} (ha : fa ρ = some (.dat x, ρ1)) (hb : fb ρ1 = some (.dat y, ρ2)) (hg : o x y = some z) : f2 o fa fb ρ = some (.dat z, ρ2) := by
  unfold f2; rw [ha]; simp only [hb, hg]
theorem faCons_at {h : FA} (h1 : f ρ = some (.dat d, ρ1)) (h2 : h ρ1 = some (ds, ρ2)) : faCons f h ρ = some (d :: ds, ρ2) := by
  unfold faCons; rw [h1]; simp only [h2]
theorem fa1 (h1 : f ρ = some (.dat d, ρ1)) : faCons f faNil ρ = some ([d], ρ1) := faCons_at h1 rfl
theorem fa2 (h1 : f ρ = some (.dat d, ρ1)) (h2 : g ρ1 = some (.dat b, ρ2)) : faCons f (faCons g faNil) ρ = some ([d, b], ρ2) := faCons_at h1 (fa1 h2)
theorem fTup_at {h : FA} (h1 : h ρ = some (ds, ρ1)) (hl : ds.length ≤ 1000) : fTup h ρ = some (.dat (.tuple ds), ρ1) := by
  unfold fTup; rw [h1]; simp only [hl, if_true]
theorem tup1 (h1 : f ρ = some (.dat d, ρ1)) : fTup (faCons f faNil) ρ = some (.dat (.tuple [d]), ρ1) := fTup_at (fa1 h1) (Nat.le_of_ble_eq_true rfl)
theorem tup2 (h1 : f ρ = some (.dat d, ρ1)) (h2 : g ρ1 = some (.dat b, ρ2)) : fTup (faCons f (faCons g faNil)) ρ = some (.dat (.tuple [d, b]), ρ2) := fTup_at (fa2 h1 h2) (Nat.le_of_ble_eq_true rfl)
theorem fCa_at {o : List PyData → Option PyData} {h : FA} (h1 : h ρ = some (ds, ρ1)) (hg : o ds = some z) : fCa o h ρ = some (.dat z, ρ1) := by
  unfold fCa; rw [h1]; simp only [hg]
theorem frz_at (h : f ρ = some (.new zs, ρ1)) : fFrz f ρ = some (.dat (.list zs), ρ1) := by
  unfold fFrz; rw [h]
theorem asg_at (h : f ρ = some (.dat d, ρ1)) (hs : setE P i (.dat d) ρ1 = some ρ2) : fAsg P i f ρ = some (.nx ρ2) := by
  unfold fAsg; rw [h]; simp only [hs]
theorem asgG_at {g : FG} (h : f ρ = some (.dat d, ρ1)) (hs : g d ρ1 = some ρ2) : fAsgG f g ρ = some (.nx ρ2) := by
  unfold fAsgG; rw [h]; simp only [hs]
theorem drop_at (h : f ρ = some (.dat d, ρ1)) : fDrop f ρ = some (.nx ρ1) := by
  unfold fDrop; rw [h]
theorem ret_at (h : f ρ = some (.dat x, ρ1)) : fRet f ρ = some (.rt (.dat x) ρ1) := by
  unfold fRet; rw [h]
theorem call_at (h : fe ρ = some (.dat d, ρ1)) (hF : F [.dat d] = some (.dat z, e)) : fCall 1 F fe faNil ρ = some (.dat z, ρ1) := by
  unfold fCall; rw [h]; simp [faNil, hF]
theorem call2 (h : fe ρ = some (.dat d, ρ1)) (hb : fb ρ1 = some (.dat b, ρ2)) (hF : F [.dat d, .dat b] = some (.dat z, e)) : fCall 2 F fe (faCons fb faNil) ρ = some (.dat z, ρ2) := by
  unfold fCall; rw [h]; simp [faCons, faNil, hb, hF]
/-- the first argument a cell of this frame -/
theorem callC2 {e' : En} (h : fe ρ = some (.slot i, ρ1)) (hb : fb ρ1 = some (.dat b, ρ2)) (hc : ρ2[i]? = some (.cel xs)) (hF : F [.cel xs, .dat b] = some (.dat z, [.cel ys, e'])) : fCall 2 F fe (faCons fb faNil) ρ = some (.dat z, ρ2.set i (.cel ys)) := by
  unfold fCall; rw [h]; simp [faCons, faNil, hb, hc, hF]
theorem fFun_at {body : FS} (h : body (ρ ++ List.replicate k .un) = some (.rt (.dat d) ρ')) : fFun np k body ρ = some (.dat d, List.zipWith kpE ρ ρ') := by unfold fFun; rw [h]
theorem fiR1_at {a : Int} {h : FA} (s1 : small62 a = true) (h1 : h ρ = some ([.int a], ρ1)) : fiR1 h ρ = some (rng 0 a.toNat, ρ1) := by
  unfold fiR1; rw [h1]; simp only [s1, if_true]
theorem fiR2_at {a c : Int} {h : FA} (s1 : small62 a = true) (s2 : small62 c = true) (h1 : h ρ = some ([.int a, .int c], ρ1)) : fiR2 h ρ = some (rng a (c - a).toNat, ρ1) := by
  unfold fiR2; rw [h1]; simp only [s1, s2, Bool.and_self, if_true]
theorem seq_nx {s t : FS} (h : s ρ = some (.nx ρ1)) : fSeq s t ρ = t ρ1 := by unfold fSeq; rw [h]
theorem if_t {t : FT} {s u : FS} (h : t ρ = some (true, ρ1)) : fIfS t s u ρ = s ρ1 := by unfold fIfS; rw [h]
theorem if_f {t : FT} {s u : FS} (h : t ρ = some (false, ρ1)) : fIfS t s u ρ = u ρ1 := by unfold fIfS; rw [h]
theorem fB_at {c : Bool} (h : f ρ = some (.dat (.bool c), ρ1)) : fB f ρ = some (c, ρ1) := by unfold fB; rw [h]
theorem or_f {t u : FT} (h : t ρ = some (false, ρ1)) : fOr t u ρ = u ρ1 := by unfold fOr; rw [h]
theorem while_f {t : FT} {s : FS} {n : Nat} (h : t ρ = some (false, ρ1)) : fWhileN t s (n + 1) ρ = some (.nx ρ1) := by rw [fWhileN]; simp only [h]
theorem while_t {t : FT} {s : FS} {n : Nat} (h : t ρ = some (true, ρ1)) (hb : s ρ1 = some (.nx ρ2)) : fWhileN t s (n + 1) ρ = fWhileN t s n ρ2 := by rw [fWhileN]; simp only [h, hb]
theorem for_at {fi : FI} {gg : FG} {s : FS} (h : fi ρ = some (xs, ρ1)) : fFor fi gg s ρ = fForGo gg s xs ρ1 := by unfold fFor; rw [h]
theorem forGo_nx {gg : FG} {s : FS} (h : gg x ρ = some ρ1) (hb : s ρ1 = some (.nx ρ2)) : fForGo gg s (x :: xs) ρ = fForGo gg s xs ρ2 := by
  rw [fForGo]; simp only [h, hb]
theorem slT_at {fl fh : FO} {lo hi : Option Int} (h : fe ρ = some (.dat (.tuple xs), ρ1)) (hl : fl ρ1 = some (lo, ρ2)) (hh : fh ρ2 = some (hi, ρ3)) : fSlT fe fl fh ρ = some (.dat (.tuple (cutD xs lo hi)), ρ3) := by
  unfold fSlT; rw [h]; simp only [hl, hh]
theorem tru_at {c : Bool} (h : f ρ = some (.dat d, ρ1)) (ht : truD d = some c) : fTru f ρ = some (c, ρ1) := by unfold fTru; rw [h]; simp only [ht]
theorem app_at (h0 : ρ[i]? = some (.cel ys)) (h : f ρ = some (.dat d, ρ1)) (h1 : ρ1[i]? = some (.cel xs)) (hl : xs.length < 100000) : fAppend i f ρ = some (.dat .none, ρ1.set i (.cel (xs ++ [d]))) := by
  unfold fAppend; rw [h0]; simp only [h, h1, hl, if_true]
end
theorem rng_succ (lo : Int) (m : Nat) : rng lo (m + 1) = .int lo :: rng (lo + 1) m := by
  unfold rng
  rw [List.range_succ_eq_map, List.map_cons, List.map_map]
  refine congr (congrArg _ ?_) ?_
  · simp
  · refine List.map_congr_left fun i _ => ?_
    simp only [Function.comp_apply, Nat.succ_eq_add_one, Int.natCast_add, Int.cast_ofNat_Int]
    congr 1
    omega
theorem small62_nat {n : Nat} (h : n < 1000000) : small62 (n : Int) = true := Nat.ble_eq_true_of_le (by omega)
/-! comprehensions, with a test, with two clauses -/
section
variable {α : Type} {vs vs1 : List Nat} {g g1 : FG} {ft ft1 : FT} {fe fk fv : FE} {fi fi1 : FI} {ρ : List En}
theorem lcGo_filter (toD h : α → PyData) (p : α → Bool) : ∀ (xs : List α), (∀ x ∈ xs, ∃ ρ1, g (toD x) ρ = some ρ1 ∧ ft ρ1 = some (p x, ρ1) ∧ (p x = true → fe ρ1 = some (.dat (h x), ρ1)) ∧ noCel vs ρ1 = true ∧ wipeE ρ1 vs = ρ) →
    fLcGo vs g ft fe (xs.map toD) ρ = some ((xs.filter p).map h, ρ)
  | [], _ => rfl
  | x :: xs, hx => by
    obtain ⟨ρ1, e1, e2, e3, e4, e5⟩ := hx x List.mem_cons_self
    have ih := lcGo_filter toD h p xs fun y hy => hx y (List.mem_cons_of_mem _ hy)
    rw [List.map_cons, List.filter_cons]
    unfold fLcGo
    cases hp : p x with
    | true => rw [hp] at e2; simp only [e1, e2, e3 hp, e4, e5, ih, if_true, List.map_cons]
    | false => rw [hp] at e2; simp only [e1, e2, e4, e5, ih, if_true, Bool.false_eq_true, if_false]
theorem lc_filter (toD h : α → PyData) (p : α → Bool) (xs : List α) (hi : fi ρ = some (xs.map toD, ρ)) (hn : noCel vs ρ = true) (hw : restE ρ (wipeE ρ vs) vs = ρ) (hl : xs.length < 100000)
    (hx : ∀ x ∈ xs, ∃ ρ1, g (toD x) (wipeE ρ vs) = some ρ1 ∧ ft ρ1 = some (p x, ρ1) ∧ (p x = true → fe ρ1 = some (.dat (h x), ρ1)) ∧ noCel vs ρ1 = true ∧ wipeE ρ1 vs = wipeE ρ vs) : fLc vs fi g ft fe ρ = some (.new ((xs.filter p).map h), ρ) := by
  have hl2 : (xs.filter p).length < 100000 := Nat.lt_of_le_of_lt (List.length_filter_le _ _) hl
  unfold fLc
  simp only [hi, hn, if_true, lcGo_filter toD h p xs hx, List.length_map, hl2, hw]
theorem lc2Go_map (toD : α → PyData) (ys : α → List PyData) : ∀ (xs : List α), (∀ x ∈ xs, ∃ ρ1 items ρ4, g (toD x) ρ = some ρ1 ∧ ft ρ1 = some (true, ρ1) ∧ fi1 ρ1 = some (items, ρ1) ∧ noCel vs1 ρ1 = true ∧ fLcGo vs1 g1 ft1 fe items (wipeE ρ1 vs1) = some (ys x, ρ4) ∧ noCel vs ρ4 = true ∧ wipeE ρ4 vs = ρ) →
    fLc2Go vs vs1 g ft fi1 g1 ft1 fe (xs.map toD) ρ = some (xs.flatMap ys, ρ)
  | [], _ => rfl
  | x :: xs, h => by
    obtain ⟨ρ1, items, ρ4, h1, h2, h3, h4, h5, h6, h7⟩ := h x List.mem_cons_self
    have ih := lc2Go_map toD ys xs fun y hy => h y (List.mem_cons_of_mem _ hy)
    rw [List.map_cons]
    unfold fLc2Go
    simp only [h1, h2, h3, h4, h5, h6, h7, ih, if_true]
    rfl
theorem dc2_map (toD : α → PyData) (ys : α → List PyData) (xs : List α) {ps : List (Key × PyData)} (hi : fi ρ = some (xs.map toD, ρ)) (hn : noCel vs ρ = true) (hw : restE ρ (wipeE ρ vs) vs = ρ) (hl : (xs.flatMap ys).length < 100000)
    (h : ∀ x ∈ xs, ∃ ρ1 items ρ4, g (toD x) (wipeE ρ vs) = some ρ1 ∧ ft ρ1 = some (true, ρ1) ∧ fi1 ρ1 = some (items, ρ1) ∧ noCel vs1 ρ1 = true ∧ fLcGo vs1 g1 ft1 (fPr fk fv) items (wipeE ρ1 vs1) = some (ys x, ρ4) ∧ noCel vs ρ4 = true ∧ wipeE ρ4 vs = wipeE ρ vs) (hp : pairsOf (xs.flatMap ys) = some ps) :
    fDc2 vs vs1 fi g ft fi1 g1 ft1 fk fv ρ = some (.dat (dk (foldP ps)), ρ) := by
  unfold fDc2
  simp only [hi, hn, if_true, lc2Go_map toD ys xs h, hl, hw, hp]
theorem lcGo_none (toD : α → PyData) : ∀ (xs : List α), (∀ x ∈ xs, ∃ ρ1, g (toD x) ρ = some ρ1 ∧ ft ρ1 = some (false, ρ1) ∧ noCel vs ρ1 = true ∧ wipeE ρ1 vs = ρ) →
    fLcGo vs g ft fe (xs.map toD) ρ = some ([], ρ)
  | [], _ => rfl
  | x :: xs, hx => by
    obtain ⟨ρ1, e1, e2, e4, e5⟩ := hx x List.mem_cons_self
    have ih := lcGo_none toD xs fun y hy => hx y (List.mem_cons_of_mem _ hy)
    rw [List.map_cons]
    unfold fLcGo
    simp only [e1, e2, e4, e5, ih, if_true]
theorem lc_none (toD : α → PyData) (xs : List α) (hi : fi ρ = some (xs.map toD, ρ)) (hn : noCel vs ρ = true) (hw : restE ρ (wipeE ρ vs) vs = ρ)
    (hx : ∀ x ∈ xs, ∃ ρ1, g (toD x) (wipeE ρ vs) = some ρ1 ∧ ft ρ1 = some (false, ρ1) ∧ noCel vs ρ1 = true ∧ wipeE ρ1 vs = wipeE ρ vs) : fLc vs fi g ft fe ρ = some (.new [], ρ) := by
  unfold fLc
  simp only [hi, hn, if_true, lcGo_none toD xs hx, hw]
  rfl
/-! all(..) -/
end
end LX


set_option Elab.async false
set_option linter.all false
set_option maxRecDepth 100000
set_option maxHeartbeats 4000000
/-! touchings -/
namespace TC
open PySem L2 DL LW LX
abbrev Ln := List Int × List Int
def nmD (xs : List Int) : PyData := .tuple (xs.map PyData.int)
def lnD (l : Ln) : PyData := .tuple [nmD l.1, nmD l.2]
def tD (t : List Ln) : PyData := .tuple (t.map lnD)
def rgI (n : Nat) : List Int := (List.range n).map fun (i : Nat) => (i : Int)
structure Tch (t : List Ln) (n : Nat) : Prop where
  two : 2 ≤ t.length
  few : t.length ≤ n + 1
  ab : ∀ (i : Nat) l, t[i]? = some l → (l.1 = [] ↔ i = 0)
  be : ∀ (i : Nat) l, t[i]? = some l → (l.2 = [] ↔ i + 1 = t.length)
  pa : (t.flatMap (·.1)).Perm (rgI n)
  pb : (t.flatMap (·.2)).Perm (rgI n)
  own : ∀ l ∈ t, ∀ x ∈ l.1, x ∉ l.2
  fal : t.Pairwise fun a b => ∀ x ∈ a.1, x ∉ b.2
theorem mem_rgI {n : Nat} {x : Int} : x ∈ rgI n ↔ 0 ≤ x ∧ x < n := by
  unfold rgI
  rw [List.mem_map]
  constructor
  · rintro ⟨i, h, rfl⟩
    have := List.mem_range.mp h
    omega
  · rintro ⟨h1, h2⟩
    exact ⟨x.toNat, List.mem_range.mpr (by omega), by omega⟩
theorem rgI_succ (n : Nat) : rgI (n + 1) = rgI n ++ [(n : Int)] := by
  unfold rgI; rw [List.range_succ, List.map_append]; rfl
theorem rgI_len (n : Nat) : (rgI n).length = n := by unfold rgI; rw [List.length_map, List.length_range]
theorem rgI_nodup (n : Nat) : (rgI n).Nodup := by
  induction n with
  | zero => exact List.nodup_nil
  | succ n ih =>
    rw [rgI_succ, List.nodup_append]
    refine ⟨ih, by simp, fun a h1 b hb => ?_⟩
    have := (mem_rgI.mp h1).2
    have : b = (n : Int) := by simpa using hb
    omega
section
variable {t : List Ln} {n : Nat}
theorem Tch.memB (h : Tch t n) {l : Ln} {x : Int} (hl : l ∈ t) (hx : x ∈ l.2) : 0 ≤ x ∧ x < n := mem_rgI.mp (h.pb.mem_iff.mp (List.mem_flatMap.mpr ⟨l, hl, hx⟩))
theorem Tch.nodA (h : Tch t n) : (t.flatMap (·.1)).Nodup := h.pa.nodup_iff.mpr (rgI_nodup n)
theorem Tch.nodB (h : Tch t n) : (t.flatMap (·.2)).Nodup := h.pb.nodup_iff.mpr (rgI_nodup n)
theorem Tch.head (h : Tch t n) : ∃ B r, t = ([], B) :: r ∧ B ≠ [] ∧ r ≠ [] := by
  cases t with
  | nil => have := h.two; simp at this
  | cons l r =>
    obtain ⟨A, B⟩ := l
    have h1 := (h.ab 0 (A, B) rfl).mpr rfl
    have h2 := h.be 0 (A, B) rfl
    have h3 := h.two
    dsimp only at h1 h2
    subst h1
    refine ⟨B, r, rfl, fun z => ?_, fun z => ?_⟩
    · have := h2.mp z; rw [List.length_cons] at h3 this; omega
    · subst z; simp at h3
end
/-! the first one -/
def one : List Ln := [([], [0]), ([0], [])]
theorem tch_one : Tch one 1 := by
  refine ⟨by decide, by decide, fun i l h => ?_, fun i l h => ?_, by decide, by decide, by decide, by decide⟩
  · match i, h with
    | 0, h => cases h; simp
    | 1, h => cases h; simp
    | i + 2, h => simp [one] at h
  · match i, h with
    | 0, h => cases h; simp [one]
    | 1, h => cases h; simp [one]
    | i + 2, h => simp [one] at h
/-! a push over -/
def over (n : Nat) (m : Nat) : List Ln → List Ln
  | l :: r => ([], (n : Int) :: l.2.drop m) :: ([(n : Int)], l.2.take m) :: r
  | [] => []
theorem tch_over {t : List Ln} {n m : Nat} {B : List Int} {r : List Ln} (h : Tch t n) (e : t = ([], B) :: r) (h1 : 1 ≤ m) (h2 : m ≤ B.length) : Tch (over n m t) (n + 1) := by
  subst e
  have hB : ∀ x ∈ B, x < (n : Int) := fun x hx => (h.memB (l := ([], B)) List.mem_cons_self hx).2
  have hr : ∀ l ∈ r, ∀ x ∈ l.2, x < (n : Int) := fun l hl x hx => (h.memB (List.mem_cons_of_mem _ hl) hx).2
  have htk : B.take m ≠ [] := fun z => by
    have := congrArg List.length z
    rw [List.length_take, List.length_nil] at this
    omega
  have hne : r ≠ [] := fun z => by have := h.two; rw [z] at this; simp at this
  refine ⟨by show 2 ≤ (_ :: _ :: r).length; rw [List.length_cons, List.length_cons]; omega, ?_, fun i l hl => ?_, fun i l hl => ?_, ?_, ?_, fun l hl => ?_, ?_⟩
  · have := h.few
    show (_ :: _ :: r).length ≤ _
    rw [List.length_cons] at this ⊢
    rw [List.length_cons]
    omega
  · match i, hl with
    | 0, hl => cases hl; simp
    | 1, hl => cases hl; simp
    | i + 2, hl =>
      have hl' : r[i]? = some l := hl
      have := h.ab (i + 1) l hl'
      constructor
      · intro z; have := this.mp z; omega
      · intro z; omega
  · have el : (over n m (([], B) :: r)).length = r.length + 2 := rfl
    rw [el]
    match i, hl with
    | 0, hl =>
      cases hl
      constructor
      · intro z; cases z
      · intro z; exact absurd (List.length_eq_zero_iff.mp (by omega)) hne
    | 1, hl =>
      cases hl
      constructor
      · intro z; exact absurd z htk
      · intro z; exact absurd (List.length_eq_zero_iff.mp (by omega)) hne
    | i + 2, hl =>
      have hl' : r[i]? = some l := hl
      have := h.be (i + 1) l hl'
      rw [List.length_cons] at this
      constructor
      · intro z; have := this.mp z; omega
      · intro z; exact this.mpr (by omega)
  · rw [rgI_succ]
    have p := h.pa
    have p2 : ([(n : Int)] ++ r.flatMap (·.1)).Perm (rgI n ++ [(n : Int)]) := by
      refine List.perm_append_comm.trans ?_
      exact List.Perm.append_right _ p
    exact p2
  · rw [rgI_succ]
    have p : (B ++ r.flatMap (·.2)).Perm (rgI n) := h.pb
    show ((n : Int) :: B.drop m ++ (B.take m ++ r.flatMap (·.2))).Perm _
    refine List.Perm.trans ?_ (List.perm_append_comm (l₁ := [(n : Int)]))
    refine List.Perm.cons _ ?_
    refine List.Perm.trans ?_ p
    show (B.drop m ++ (B.take m ++ r.flatMap (·.2))).Perm _
    rw [← List.append_assoc]
    refine List.Perm.append_right _ ?_
    refine List.perm_append_comm.trans ?_
    rw [List.take_append_drop]
  · rcases List.mem_cons.mp hl with z | hl
    · subst z; intro x hx; cases hx
    rcases List.mem_cons.mp hl with z | hl
    · subst z
      intro x hx hx2
      have hx' : x = (n : Int) := by simpa using hx
      have := hB x (List.mem_of_mem_take hx2)
      omega
    · exact h.own l (List.mem_cons_of_mem _ hl)
  · refine List.Pairwise.cons (fun b _ x hx => by cases hx) (List.Pairwise.cons (fun b hb x hx hx2 => ?_) (List.pairwise_cons.mp h.fal).2)
    have hx' : x = (n : Int) := by simpa using hx
    have := hr b hb x hx2
    omega
/-! a push beside, to the line at k -/
def beside (n k : Nat) : List Ln → List Ln
  | l :: r => ([], (n : Int) :: l.2) :: (match r[k - 1]? with
    | some q => r.set (k - 1) ((n : Int) :: q.1, q.2)
    | none => r)
  | [] => []
theorem set_mid {α : Type} : ∀ (r : List α) (k : Nat) (q a : α), r[k]? = some q → ∃ p s, r = p ++ q :: s ∧ p.length = k ∧ r.set k a = p ++ a :: s
  | [], k, q, a, h => by simp at h
  | x :: r, 0, q, a, h => by cases h; exact ⟨[], r, rfl, rfl, rfl⟩
  | x :: r, k + 1, q, a, h => by
    obtain ⟨p, s, h1, h2, h3⟩ := set_mid r k q a (by simpa using h)
    exact ⟨x :: p, s, by rw [h1]; rfl, by rw [List.length_cons, h2], by rw [List.set_cons_succ, h3]; rfl⟩
theorem tch_beside {t : List Ln} {n k : Nat} (h : Tch t n) (h1 : 1 ≤ k) (h2 : k < t.length) : Tch (beside n k t) (n + 1) := by
  obtain ⟨B, r, rfl, hB, hr⟩ := h.head
  rw [List.length_cons] at h2
  have hk : k - 1 < r.length := by omega
  obtain ⟨p, s, er, ep, es⟩ := set_mid r (k - 1) r[k - 1] ((n : Int) :: r[k - 1].1, r[k - 1].2) (List.getElem?_eq_getElem hk)
  generalize hq : r[k - 1] = q at er es
  obtain ⟨qa, qb⟩ := q
  dsimp only at es
  have eb : beside n k (([], B) :: r) = ([], (n : Int) :: B) :: (p ++ ((n : Int) :: qa, qb) :: s) := by
    show _ :: _ = _
    rw [List.getElem?_eq_getElem hk]
    dsimp only
    rw [hq, es]
  have hlt : ∀ l ∈ r, ∀ x ∈ l.2, x < (n : Int) := fun l hl x hx => (h.memB (List.mem_cons_of_mem _ hl) hx).2
  have el : (p ++ ((n : Int) :: qa, qb) :: s).length = r.length := by rw [er, List.length_append, List.length_append]; rfl
  rw [eb]
  refine ⟨?_, ?_, fun i l hl => ?_, fun i l hl => ?_, ?_, ?_, fun l hl => ?_, ?_⟩
  · rw [List.length_cons, el]; have := h.two; rw [List.length_cons] at this; exact this
  · rw [List.length_cons, el]; have := h.few; rw [List.length_cons] at this; omega
  · cases i with
    | zero => cases hl; simp
    | succ i =>
      have hl' : (p ++ ((n : Int) :: qa, qb) :: s)[i]? = some l := hl
      by_cases z : i = p.length
      · subst z
        rw [List.getElem?_append_right (Nat.le_refl _), Nat.sub_self] at hl'
        cases hl'
        simp
      · have e2 : r[i]? = some l := by
          rw [er]
          by_cases c : i < p.length
          · rw [List.getElem?_append_left c] at hl' ⊢; exact hl'
          · rw [List.getElem?_append_right (by omega)] at hl' ⊢
            obtain ⟨j, hj⟩ : ∃ j, i - p.length = j + 1 := ⟨i - p.length - 1, by omega⟩
            rw [hj] at hl' ⊢
            exact hl'
        have := h.ab (i + 1) l e2
        exact this
  · rw [List.length_cons, el]
    cases i with
    | zero =>
      cases hl
      constructor
      · intro z; cases z
      · intro z; exact absurd (List.length_eq_zero_iff.mp (by omega)) hr
    | succ i =>
      have hl' : (p ++ ((n : Int) :: qa, qb) :: s)[i]? = some l := hl
      by_cases z : i = p.length
      · subst z
        rw [List.getElem?_append_right (Nat.le_refl _), Nat.sub_self] at hl'
        cases hl'
        have e2 : r[p.length]? = some (qa, qb) := by rw [er, List.getElem?_append_right (Nat.le_refl _), Nat.sub_self]; rfl
        have := h.be (p.length + 1) _ e2
        rw [List.length_cons] at this
        exact this
      · have e2 : r[i]? = some l := by
          rw [er]
          by_cases c : i < p.length
          · rw [List.getElem?_append_left c] at hl' ⊢; exact hl'
          · rw [List.getElem?_append_right (by omega)] at hl' ⊢
            obtain ⟨j, hj⟩ : ∃ j, i - p.length = j + 1 := ⟨i - p.length - 1, by omega⟩
            rw [hj] at hl' ⊢
            exact hl'
        have := h.be (i + 1) l e2
        rw [List.length_cons] at this
        exact this
  · have pa : (r.flatMap (·.1)).Perm (rgI n) := h.pa
    rw [rgI_succ]
    show ((p ++ ((n : Int) :: qa, qb) :: s).flatMap (·.1)).Perm _
    rw [er] at pa
    rw [List.flatMap_append, List.flatMap_cons] at pa ⊢
    refine List.Perm.trans ?_ (List.perm_append_comm (l₁ := [(n : Int)]))
    refine List.Perm.trans (List.perm_middle (a := (n : Int)) (l₁ := p.flatMap (·.1)) (l₂ := qa ++ s.flatMap (·.1))) ?_
    exact List.Perm.cons _ pa
  · have pb : (B ++ r.flatMap (·.2)).Perm (rgI n) := h.pb
    rw [rgI_succ]
    show ((n : Int) :: B ++ (p ++ ((n : Int) :: qa, qb) :: s).flatMap (·.2)).Perm _
    rw [er] at pb
    rw [List.flatMap_append, List.flatMap_cons] at pb ⊢
    refine List.Perm.trans ?_ (List.perm_append_comm (l₁ := [(n : Int)]))
    exact List.Perm.cons _ pb
  · rcases List.mem_cons.mp hl with z | hl
    · subst z; intro x hx; cases hx
    rcases List.mem_append.mp hl with hl | hl
    · exact h.own l (List.mem_cons_of_mem _ (by rw [er]; exact List.mem_append_left _ hl))
    rcases List.mem_cons.mp hl with z | hl
    · subst z
      have m : (qa, qb) ∈ r := by rw [er]; exact List.mem_append_right _ List.mem_cons_self
      intro x hx hx2
      rcases List.mem_cons.mp hx with z | hx
      · have := hlt _ m x hx2; omega
      · exact h.own _ (List.mem_cons_of_mem _ m) x hx hx2
    · exact h.own l (List.mem_cons_of_mem _ (by rw [er]; exact List.mem_append_right _ (List.mem_cons_of_mem _ hl)))
  · refine List.Pairwise.cons (fun b _ x hx => by cases hx) ?_
    have f := (List.pairwise_cons.mp h.fal).2
    rw [er] at f
    rw [List.pairwise_append] at f ⊢
    obtain ⟨f1, f2, f3⟩ := f
    obtain ⟨f4, f5⟩ := List.pairwise_cons.mp f2
    refine ⟨f1, List.Pairwise.cons (fun b hb x hx hx2 => ?_) f5, fun a ha b hb => ?_⟩
    · rcases List.mem_cons.mp hx with z | hx
      · have := hlt b (by rw [er]; exact List.mem_append_right _ (List.mem_cons_of_mem _ hb)) x hx2; omega
      · exact f4 b hb x hx hx2
    · rcases List.mem_cons.mp hb with z | hb
      · subst z; exact f3 a ha (qa, qb) List.mem_cons_self
      · exact f3 a ha b (List.mem_cons_of_mem _ hb)
end TC


set_option Elab.async false
set_option linter.all false
set_option maxRecDepth 100000
set_option maxHeartbeats 4000000
namespace TC
open PySem L2 DL LW LX
/-! ### shapes, equality -/
theorem gNe_self {d : PyData} (h : SeqAt.shaped d = true) : gNe d d = some (.bool false) := by
  unfold gNe
  rw [h, if_pos (show (true && true) = true from rfl), SeqAt.eqv_refl d (SeqAt.canLay_of_shaped h)]
  rfl
/-! ### lines with their places -/
def zipI : Nat → List Ln → List (Nat × Ln)
  | _, [] => []
  | k, l :: r => (k, l) :: zipI (k + 1) r
def pD (p : Nat × Ln) : PyData := .tuple [.int (p.1 : Int), TC.lnD p.2]
theorem enum_zip : ∀ (k : Nat) (t : List Ln), enumD k (t.map TC.lnD) = (zipI k t).map pD
  | _, [] => rfl
  | k, l :: r => by rw [List.map_cons]; unfold enumD zipI; rw [enum_zip (k + 1) r, List.map_cons]; rfl
/-! ### tables of numbers -/
def prs (f : Ln → List Int) : Nat → List Ln → List (Key × PyData)
  | _, [] => []
  | k, l :: r => (f l).map (fun x => (Sum.inl x, PyData.int (k : Int))) ++ prs f (k + 1) r
theorem prs_keys (f : Ln → List Int) : ∀ (k : Nat) (t : List Ln), (prs f k t).map (·.1) = (t.flatMap f).map Sum.inl
  | _, [] => rfl
  | k, l :: r => by
    unfold prs
    rw [List.map_append, List.map_map, prs_keys f (k + 1) r, List.flatMap_cons, List.map_append]
    rfl
theorem foldl_nod {α : Type} : ∀ (ps acc : List (Key × α)), ((acc ++ ps).map (·.1)).Nodup → ps.foldl (fun acc p => putP acc p.1 p.2) acc = acc ++ ps
  | [], acc, _ => by rw [List.foldl_nil, List.append_nil]
  | p :: ps, acc, h => by
    have hn : (acc.any fun q => decide (q.1 = p.1)) = false := by
      rw [List.any_eq_false]
      intro q hq
      rw [List.map_append, List.nodup_append] at h
      have := h.2.2 q.1 (List.mem_map.mpr ⟨q, hq, rfl⟩) p.1 (List.mem_map.mpr ⟨p, List.mem_cons_self, rfl⟩)
      simpa using this
    have e : putP acc p.1 p.2 = acc ++ [p] := by
      unfold putP
      rw [hn, if_neg Bool.false_ne_true]
    rw [List.foldl_cons, e, foldl_nod ps (acc ++ [p]) (by rw [List.append_assoc]; exact h), List.append_assoc]
    rfl
theorem foldP_nod {α : Type} {ps : List (Key × α)} (h : (ps.map (·.1)).Nodup) : foldP ps = ps := by
  have := foldl_nod ps [] (by simpa using h)
  simpa [foldP] using this
theorem nodup_inl {xs : List Int} (h : xs.Nodup) : (xs.map (Sum.inl : Int → Key)).Nodup := by
  induction xs with
  | nil => exact List.nodup_nil
  | cons x xs ih =>
    rw [List.nodup_cons] at h
    rw [List.map_cons, List.nodup_cons]
    refine ⟨fun m => ?_, ih h.2⟩
    obtain ⟨y, hy, e⟩ := List.mem_map.mp m
    cases e
    exact h.1 hy
theorem prs_fold {f : Ln → List Int} {t : List Ln} (k : Nat) (h : (t.flatMap f).Nodup) : foldP (prs f k t) = prs f k t := foldP_nod (by rw [prs_keys]; exact nodup_inl h)
def idx (f : Ln → List Int) (x : Int) (t : List Ln) : Nat := t.findIdx fun l => decide (x ∈ f l)
theorem valP_app {α : Type} (a b : List (Key × α)) (k : Key) : valP (a ++ b) k = (valP a k).or (valP b k) := by
  unfold valP
  rw [List.find?_append]
  cases a.find? fun p => decide (p.1 = k) <;> rfl
theorem valP_in (xs : List Int) (x : Int) (d : PyData) : valP (xs.map fun y => ((Sum.inl y : Key), d)) (.inl x) = if x ∈ xs then some d else none := by
  induction xs with
  | nil => rfl
  | cons y xs ih =>
    unfold valP at ih ⊢
    rw [List.map_cons, List.find?_cons]
    by_cases e : y = x
    · subst e
      simp
    · have e1 : decide ((Sum.inl y : Key) = .inl x) = false := decide_eq_false fun z => e (Sum.inl.inj z)
      rw [e1]
      rw [ih]
      have : (x ∈ y :: xs) ↔ x ∈ xs := by
        rw [List.mem_cons]
        exact ⟨fun h => h.resolve_left fun z => e z.symm, .inr⟩
      simp only [this]
theorem prs_val (f : Ln → List Int) (x : Int) : ∀ (t : List Ln) (k : Nat), x ∈ t.flatMap f → valP (prs f k t) (.inl x) = some (.int ((k + idx f x t : Nat) : Int))
  | [], _, h => by simp at h
  | l :: r, k, h => by
    unfold prs
    rw [valP_app, valP_in]
    unfold idx
    rw [List.findIdx_cons]
    by_cases e : x ∈ f l
    · rw [if_pos e, decide_eq_true e]; rfl
    · rw [if_neg e, decide_eq_false e]
      rw [List.flatMap_cons, List.mem_append] at h
      have ih := prs_val f x r (k + 1) (h.resolve_left e)
      show valP (prs f (k + 1) r) (.inl x) = _
      rw [ih]
      unfold idx
      congr 2
      show ((k + 1 + _ : Nat) : Int) = ((k + (_ + 1) : Nat) : Int)
      omega
theorem idx_lt {f : Ln → List Int} {x : Int} {t : List Ln} (h : x ∈ t.flatMap f) : ∃ l, t[idx f x t]? = some l ∧ x ∈ f l := by
  obtain ⟨l, hl, hx⟩ := List.mem_flatMap.mp h
  have hlt : idx f x t < t.length := List.findIdx_lt_length_of_exists ⟨l, hl, decide_eq_true hx⟩
  refine ⟨t[idx f x t], List.getElem?_eq_getElem hlt, ?_⟩
  have := List.findIdx_getElem (xs := t) (p := fun l => decide (x ∈ f l)) (w := hlt)
  exact of_decide_eq_true this
theorem fall_lt {t : List Ln} {n : Nat} (h : Tch t n) {x : Int} {i j : Nat} {a b : Ln} (hi : t[i]? = some a) (hj : t[j]? = some b) (hx : x ∈ a.2) (hy : x ∈ b.1) : i < j := by
  apply Nat.lt_of_not_le
  intro hle
  obtain ⟨li, ei⟩ := List.getElem?_eq_some_iff.mp hi
  obtain ⟨lj, ej⟩ := List.getElem?_eq_some_iff.mp hj
  rcases Nat.lt_or_eq_of_le hle with c | c
  · have := List.pairwise_iff_getElem.mp h.fal j i lj li c
    rw [ei, ej] at this
    exact this x hy hx
  · subst c
    rw [hi] at hj
    cases hj
    exact h.own a (List.mem_of_getElem? hi) x hy hx
end TC


set_option Elab.async false
set_option linter.all false
set_option maxRecDepth 100000
set_option maxHeartbeats 4000000
namespace K21
open PySem L2 DL LW LX TC
theorem isEmp (xs : List Int) : truD (nmD xs) = some (!xs.isEmpty) := by
  show some (!(xs.map PyData.int).isEmpty) = _
  cases xs <;> rfl
theorem len_t (t : List Ln) : gLen [tD t] = some (.int (t.length : Int)) := by
  show some (PyData.int ((t.map TC.lnD).length : Int)) = _
  rw [List.length_map]
/-! ### each number once -/
theorem inner {x0 x1 x2 x3 x4 x5 : En} (xs : List Int) : fLcGo [6] (fgName 1 6) fYes (fVar 6) (xs.map PyData.int) [x0, x1, x2, x3, x4, x5, .un] = some (xs.map PyData.int, [x0, x1, x2, x3, x4, x5, .un]) :=
  lcGo_map (vs := [6]) (g := fgName 1 6) (ft := fYes) (fe := fVar 6) (ρ := [x0, x1, x2, x3, x4, x5, .un]) PyData.int PyData.int xs fun i _ => ⟨[x0, x1, x2, x3, x4, x5, .dat (.int i)], rfl, rfl, rfl, rfl, rfl⟩
theorem flat_len {t : List Ln} {n : Nat} {f : Ln → List Int} (h : (t.flatMap f).Perm (rgI n)) : (t.flatMap f).length = n := by rw [h.length_eq, rgI_len]
end K21


set_option Elab.async false
set_option linter.all false
set_option maxRecDepth 100000
set_option maxHeartbeats 4000000
namespace TC
open PySem L2 DL LW LX
theorem pairsOf_cat : ∀ {a b : List PyData} {p q : List (Key × PyData)}, pairsOf a = some p → pairsOf b = some q → pairsOf (a ++ b) = some (p ++ q)
  | [], b, p, q, h1, h2 => by cases h1; exact h2
  | y :: a, b, p, q, h1, h2 => by
    obtain ⟨kd, k, d, qs, rfl, e2, e3, rfl⟩ := pairsOf_cons h1
    have ih := pairsOf_cat e3 h2
    rw [List.cons_append]
    unfold pairsOf
    simp only [e2, ih]
    rfl
def prY (f : Ln → List Int) (q : Nat × Ln) : List PyData := (f q.2).map fun x => .tuple [.int x, .int (q.1 : Int)]
theorem pairsOf_map (k : Int) : ∀ xs : List Int, pairsOf (xs.map fun x => .tuple [.int x, .int k]) = some (xs.map fun x => ((Sum.inl x : Key), PyData.int k))
  | [] => rfl
  | x :: xs => by
    rw [List.map_cons, List.map_cons]
    unfold pairsOf
    simp only [keyOf, pairsOf_map k xs]
theorem pairsOf_zip (f : Ln → List Int) : ∀ (k : Nat) (t : List Ln), pairsOf ((zipI k t).flatMap (prY f)) = some (prs f k t)
  | _, [] => rfl
  | k, l :: r => by
    unfold zipI prs
    rw [List.flatMap_cons]
    exact pairsOf_cat (pairsOf_map (k : Int) (f l)) (pairsOf_zip f (k + 1) r)
theorem zip_len (f : Ln → List Int) : ∀ (k : Nat) (t : List Ln), ((zipI k t).flatMap (prY f)).length = (t.flatMap f).length
  | _, [] => rfl
  | k, l :: r => by
    unfold zipI
    rw [List.flatMap_cons, List.flatMap_cons, List.length_append, List.length_append, zip_len f (k + 1) r]
    unfold prY
    rw [List.length_map]
theorem ixD_int (ps : List (Key × PyData)) (x : Int) : gIxD (dk ps) (.int x) = valP ps (.inl x) := by
  unfold gIxD dk
  simp only [undk_dk, keyOf]
theorem prs_len (f : Ln → List Int) (k : Nat) (t : List Ln) : (prs f k t).length = (t.flatMap f).length := by
  have := congrArg List.length (prs_keys f k t)
  rwa [List.length_map, List.length_map] at this
end TC
namespace K21
open PySem L2 DL LW LX TC
abbrev gH : FG := fgTup 2 (fgCons (fgName 1 1) (fgCons (fgTup 2 (fgCons (fgName 1 2) (fgCons (fgName 1 3) fgNil))) fgNil))
theorem innerP {x0 x2 x3 : En} {k : Int} (xs : List Int) : fLcGo [4] (fgName 1 4) fYes (fPr (fVar 4) (fVar 1)) (xs.map PyData.int) [x0, .dat (.int k), x2, x3, .un] = some (xs.map (fun x => .tuple [.int x, .int k]), [x0, .dat (.int k), x2, x3, .un]) :=
  lcGo_map (vs := [4]) (g := fgName 1 4) (ft := fYes) (fe := fPr (fVar 4) (fVar 1)) (ρ := [x0, .dat (.int k), x2, x3, .un]) PyData.int (fun x => .tuple [.int x, .int k]) xs fun i _ => ⟨[x0, .dat (.int k), x2, x3, .dat (.int i)], rfl, rfl, rfl, rfl, rfl⟩
theorem hung_ok {t : List Ln} (hd : (t.flatMap (·.2)).Nodup) (hl : (t.flatMap (·.2)).length < 1000) : F_lines_hung_from [.dat (tD t)] = some (.dat (dk (prs (·.2) 0 t)), [.un]) := by
  have e := dc2_map (vs := [1, 2, 3, 4]) (vs1 := [4]) (fi := fiEnT (faCons (fVar 0) faNil)) (g := gH) (ft := fYes) (fi1 := fiTup (fVar 3)) (g1 := fgName 1 4) (ft1 := fYes) (fk := fVar 4) (fv := fVar 1) (ρ := [.dat (tD t), .un, .un, .un, .un]) pD (prY (·.2)) (zipI 0 t) (ps := prs (·.2) 0 t)
    (by show some (enumD 0 (t.map TC.lnD), _) = _; rw [enum_zip]) rfl rfl (by rw [zip_len]; exact Nat.lt_trans hl (by decide))
    (fun q _ => ⟨[.dat (tD t), .dat (.int (q.1 : Int)), .dat (nmD q.2.1), .dat (nmD q.2.2), .un], q.2.2.map PyData.int, [.dat (tD t), .dat (.int (q.1 : Int)), .dat (nmD q.2.1), .dat (nmD q.2.2), .un], rfl, rfl, rfl, rfl, innerP q.2.2, rfl, rfl⟩)
    (pairsOf_zip (·.2) 0 t)
  rw [prs_fold 0 hd] at e
  exact fFun_at (np := 1) (k := 4) (ρ := [.dat (tD t)]) (ret_at e)
theorem stood_ok {t : List Ln} (hd : (t.flatMap (·.1)).Nodup) (hl : (t.flatMap (·.1)).length < 1000) : F_lines_stood_on [.dat (tD t)] = some (.dat (dk (prs (·.1) 0 t)), [.un]) := by
  have e := dc2_map (vs := [1, 2, 3, 4]) (vs1 := [4]) (fi := fiEnT (faCons (fVar 0) faNil)) (g := gH) (ft := fYes) (fi1 := fiTup (fVar 2)) (g1 := fgName 1 4) (ft1 := fYes) (fk := fVar 4) (fv := fVar 1) (ρ := [.dat (tD t), .un, .un, .un, .un]) pD (prY (·.1)) (zipI 0 t) (ps := prs (·.1) 0 t)
    (by show some (enumD 0 (t.map TC.lnD), _) = _; rw [enum_zip]) rfl rfl (by rw [zip_len]; exact Nat.lt_trans hl (by decide))
    (fun q _ => ⟨[.dat (tD t), .dat (.int (q.1 : Int)), .dat (nmD q.2.1), .dat (nmD q.2.2), .un], q.2.1.map PyData.int, [.dat (tD t), .dat (.int (q.1 : Int)), .dat (nmD q.2.1), .dat (nmD q.2.2), .un], rfl, rfl, rfl, rfl, innerP q.2.1, rfl, rfl⟩)
    (pairsOf_zip (·.1) 0 t)
  rw [prs_fold 0 hd] at e
  exact fFun_at (np := 1) (k := 4) (ρ := [.dat (tD t)]) (ret_at e)
section
variable {t : List Ln} {n : Nat}
theorem hungT (h : Tch t n) (hn : n < 900) : F_lines_hung_from [.dat (tD t)] = some (.dat (dk (prs (·.2) 0 t)), [.un]) := hung_ok h.nodB (by rw [flat_len h.pb]; omega)
theorem stoodT (h : Tch t n) (hn : n < 900) : F_lines_stood_on [.dat (tD t)] = some (.dat (dk (prs (·.1) 0 t)), [.un]) := stood_ok h.nodA (by rw [flat_len h.pa]; omega)
theorem memAB (h : Tch t n) {x : Int} : x ∈ t.flatMap (·.2) ↔ x ∈ t.flatMap (·.1) := by rw [h.pb.mem_iff, h.pa.mem_iff]
theorem next_ok (h : Tch t n) (hn : n < 900) : F_next_number [.dat (tD t)] = some (.dat (.int (n : Int)), [.un]) := by
  have c := call_at (F := F_lines_hung_from) (fe := fVar 0) (ρ := [.dat (tD t)]) rfl (hungT h hn)
  refine fFun_at (np := 1) (k := 0) (ρ := [.dat (tD t)]) (ret_at (fCa_at (o := gLenD) (fa1 c) ?_))
  have hu : (undk ((prs (·.2) 0 t).map fun p => (keyD p.1, p.2))).isSome = true := by rw [undk_dk]; rfl
  show (if (undk ((prs (·.2) 0 t).map fun p => (keyD p.1, p.2))).isSome = true then some (PyData.int ((((prs (·.2) 0 t).map fun p => (keyD p.1, p.2)).length : Nat) : Int)) else none) = _
  rw [if_pos hu]
  rw [List.length_map, prs_len, flat_len h.pb]
theorem nearest_ok {m k : Nat} (h1 : 1 ≤ m) (h2 : m ≤ k) : F_nearest_count [.dat (.int (m : Int)), .dat (.int (k : Int))] = some (.dat (.int (m : Int)), [.un, .un]) := by
  let R : List En := [.dat (.int (m : Int)), .dat (.int (k : Int))]
  have g1 : gMax2 [.int (m : Int), .int 1] = some (.int (m : Int)) := by
    show some (PyData.int (if (1 : Int) > (m : Int) then 1 else (m : Int))) = _
    rw [if_neg (by omega)]
  have g2 : gMin2 [.int (m : Int), .int (k : Int)] = some (.int (m : Int)) := by
    show some (PyData.int (if (k : Int) < (m : Int) then (k : Int) else (m : Int))) = _
    rw [if_neg (by omega)]
  exact fFun_at (np := 2) (k := 0) (ρ := R) (ret_at (fCa_at (o := gMin2) (fa2 (g := fVar 1) (fCa_at (o := gMax2) (h := faCons (fVar 0) (faCons (fC (.int 1)) faNil)) (ρ := R) rfl g1) rfl) g2))
end
end K21


set_option Elab.async false
set_option linter.all false
set_option maxRecDepth 100000
set_option maxHeartbeats 4000000
namespace TC
open PySem L2 DL LW LX
/-! ### slices -/
theorem sIx_nat (n d m : Nat) (h : m ≤ n) : HT.sIx n d (some (m : Int)) = m := by
  unfold HT.sIx
  simp only
  rw [if_neg (by omega)]
  omega
theorem cut_from (xs : List PyData) (m : Nat) (h : m ≤ xs.length) : cutD xs (some (m : Int)) none = xs.drop m := by
  unfold cutD
  have e0 : HT.sIx xs.length 0 (some (m : Int)) = m := by
    exact sIx_nat _ _ _ (by omega)
  have e1 : HT.sIx xs.length xs.length none = xs.length := rfl
  rw [e0, e1, List.take_of_length_le (by rw [List.length_drop]; omega)]
theorem cut_to (xs : List PyData) (m : Nat) (h : m ≤ xs.length) : cutD xs none (some (m : Int)) = xs.take m := by
  unfold cutD
  have e0 : HT.sIx xs.length 0 none = 0 := rfl
  have e1 : HT.sIx xs.length xs.length (some (m : Int)) = m := by
    exact sIx_nat _ _ _ (by omega)
  rw [e0, e1]
  simp
theorem cut_mid (xs : List PyData) (a m : Nat) (h1 : a ≤ m) (h : m ≤ xs.length) : cutD xs (some (a : Int)) (some (m : Int)) = (xs.drop a).take (m - a) := by
  unfold cutD
  have e0 : HT.sIx xs.length 0 (some (a : Int)) = a := by
    exact sIx_nat _ _ _ (by omega)
  have e1 : HT.sIx xs.length xs.length (some (m : Int)) = m := by
    exact sIx_nat _ _ _ (by omega)
  rw [e0, e1]
theorem nm_from (xs : List Int) (m : Nat) (h : m ≤ xs.length) : PyData.tuple (cutD (xs.map PyData.int) (some (m : Int)) none) = nmD (xs.drop m) := by
  rw [cut_from _ _ (by rw [List.length_map]; exact h), ← List.map_drop]; rfl
theorem nm_to (xs : List Int) (m : Nat) (h : m ≤ xs.length) : PyData.tuple (cutD (xs.map PyData.int) none (some (m : Int))) = nmD (xs.take m) := by
  rw [cut_to _ _ (by rw [List.length_map]; exact h), ← List.map_take]; rfl
theorem cat_nm (x : Int) (xs : List Int) (h : xs.length < 1000) : gCatT (.tuple [.int x]) (nmD xs) = some (nmD (x :: xs)) := by
  unfold gCatT nmD
  simp only
  rw [if_pos]
  · rfl
  · refine ⟨List.cons_ne_nil _ _, ?_⟩
    rw [List.length_map, List.length_singleton]; omega
theorem cat_t (a b : List Ln) (h : a ≠ []) (hl : a.length + b.length < 1000) : gCatT (tD a) (tD b) = some (tD (a ++ b)) := by
  unfold gCatT tD
  simp only
  rw [if_pos]
  · rw [List.map_append]
  · refine ⟨fun z => h (List.map_eq_nil_iff.mp z), ?_⟩
    rw [List.length_map, List.length_map]; omega
theorem t_tail (l : Ln) (r : List Ln) : PyData.tuple (cutD ((l :: r).map TC.lnD) (some ((1 : Nat) : Int)) none) = tD r := by
  rw [cut_from _ 1 (by simp)]; rfl
theorem ix_t {t : List Ln} {i : Nat} {l : Ln} (h : t[i]? = some l) : gIx (tD t) (.int (i : Int)) = some (TC.lnD l) := by
  show atI (t.map TC.lnD) (i : Int) = _
  exact atI_nat (by rw [List.getElem?_map, h]; rfl)
theorem ix_nm {xs : List Int} {i : Nat} {x : Int} (h : xs[i]? = some x) : gIx (nmD xs) (.int (i : Int)) = some (.int x) := by
  show atI (xs.map PyData.int) (i : Int) = _
  exact atI_nat (by rw [List.getElem?_map, h]; rfl)
end TC
namespace K21
open PySem L2 DL LW LX TC
section
variable {n m : Nat} {B : List Int} {r : List Ln}
theorem cat2 {ρ ρ1 : List En} {fe : FE} {x : Int} {fx : FE} {ys : List Int} (hx : fx ρ = some (.dat (.int x), ρ)) (h : fe ρ = some (.dat (nmD ys), ρ1)) (hl : ys.length < 1000) : f2 gCatT (fTup (faCons fx faNil)) fe ρ = some (.dat (nmD (x :: ys)), ρ1) :=
  f2_at (tup1 hx) h (cat_nm x ys hl)
theorem first_at {ρ ρ1 : List En} {fe : FE} {l : Ln} (h : fe ρ = some (.dat (tD (l :: r)), ρ1)) : f2 gIx (f2 gIx fe (fC (.int 0))) (fC (.int 1)) ρ = some (.dat (nmD l.2), ρ1) :=
  f2_at (f2_at (fb := fC (.int 0)) h rfl (ix_t (i := 0) (l := l) rfl)) (fb := fC (.int 1)) rfl rfl
/-- what both make of it -/
theorem over_fin {ρ : List En} {fl fw fs ft : FE} (h1 : fl ρ = some (.dat (TC.lnD ([], (n : Int) :: B.drop m)), ρ)) (h2 : fw ρ = some (.dat (TC.lnD ([(n : Int)], B.take m)), ρ)) (h3 : ft ρ = some (.dat (tD (([], B) :: r)), ρ)) (hl : r.length < 900) :
    f2 gCatT (fTup (faCons fl (faCons fw faNil))) (fSlT ft (foSome (fC (.int 1))) foNone) ρ = some (.dat (tD (over n m (([], B) :: r))), ρ) := by
  have s := slT_at (fl := foSome (fC (.int 1))) (fh := foNone) (lo := some ((1 : Nat) : Int)) (hi := none) (ρ2 := ρ) (ρ3 := ρ) h3 rfl rfl
  rw [t_tail] at s
  exact f2_at (tup2 h1 h2) s (cat_t [([], (n : Int) :: B.drop m), ([(n : Int)], B.take m)] r (List.cons_ne_nil _ _) (by show 2 + r.length < 1000; omega))
theorem over_ok (h : Tch (([], B) :: r) n) (hn : n < 800) (h1 : 1 ≤ m) (h2 : m ≤ B.length) : F_push_over [.dat (tD (([], B) :: r)), .dat (.int (m : Int))] = some (.dat (tD (over n m (([], B) :: r))), [.un, .un]) := by
  let T := tD (([], B) :: r)
  let M : En := .dat (.int (m : Int))
  have hr : r.length < 900 := by have := h.few; rw [List.length_cons] at this; omega
  have hB : B.length < 900 := by
    have := flat_len h.pb
    rw [List.flatMap_cons, List.length_append] at this
    have e : ((([] : List Int), B) : Ln).2.length = B.length := rfl
    omega
  have a1 := asg_at (P := 2) (i := 2) (ρ2 := [.dat T, M, .dat (.int (n : Int)), .un, .un, .un, .un]) (call_at (F := F_next_number) (fe := fVar 0) (ρ := [.dat T, M, .un, .un, .un, .un, .un]) rfl (next_ok h (by omega))) rfl
  have a2 := asg_at (P := 2) (i := 3) (ρ2 := [.dat T, M, .dat (.int (n : Int)), .dat (nmD B), .un, .un, .un]) (first_at (fe := fVar 0) (ρ := [.dat T, M, .dat (.int (n : Int)), .un, .un, .un, .un]) rfl) rfl
  have gl : gLen [nmD B] = some (.int (B.length : Int)) := by show some (PyData.int ((B.map PyData.int).length : Int)) = _; rw [List.length_map]
  have a3 := asg_at (P := 2) (i := 4) (ρ2 := [.dat T, M, .dat (.int (n : Int)), .dat (nmD B), M, .un, .un]) (call2 (F := F_nearest_count) (fe := fVar 1) (ρ := [.dat T, M, .dat (.int (n : Int)), .dat (nmD B), .un, .un, .un]) rfl (fCa_at (o := gLen) (h := faCons (fVar 3) faNil) rfl gl) (nearest_ok h1 h2)) rfl
  let L1 := TC.lnD ([], (n : Int) :: B.drop m)
  let L2' := TC.lnD ([(n : Int)], B.take m)
  have s1 := slT_at (fe := fVar 3) (fl := foSome (fVar 4)) (fh := foNone) (lo := some (m : Int)) (hi := none) (ρ := [.dat T, M, .dat (.int (n : Int)), .dat (nmD B), M, .un, .un]) (ρ1 := [.dat T, M, .dat (.int (n : Int)), .dat (nmD B), M, .un, .un]) (xs := B.map PyData.int) rfl rfl rfl
  rw [nm_from B m h2] at s1
  have a4 := asg_at (P := 2) (i := 5) (ρ2 := [.dat T, M, .dat (.int (n : Int)), .dat (nmD B), M, .dat L1, .un]) (tup2 (f := fTup faNil) (d := nmD []) rfl (cat2 (x := (n : Int)) (fx := fVar 2) rfl s1 (by rw [List.length_drop]; omega))) rfl
  have s2 := slT_at (fe := fVar 3) (fl := foNone) (fh := foSome (fVar 4)) (lo := none) (hi := some (m : Int)) (ρ := [.dat T, M, .dat (.int (n : Int)), .dat (nmD B), M, .dat L1, .un]) (ρ1 := [.dat T, M, .dat (.int (n : Int)), .dat (nmD B), M, .dat L1, .un]) (xs := B.map PyData.int) rfl rfl rfl
  rw [nm_to B m h2] at s2
  have a5 := asg_at (P := 2) (i := 6) (ρ2 := [.dat T, M, .dat (.int (n : Int)), .dat (nmD B), M, .dat L1, .dat L2']) (tup2 (ρ := [.dat T, M, .dat (.int (n : Int)), .dat (nmD B), M, .dat L1, .un]) (f := fTup (faCons (fVar 2) faNil)) (d := nmD [(n : Int)]) rfl s2) rfl
  have fin := over_fin (n := n) (m := m) (B := B) (r := r) (fl := fVar 5) (fw := fVar 6) (ft := fVar 0) (fs := fVar 0) (ρ := [.dat T, M, .dat (.int (n : Int)), .dat (nmD B), M, .dat L1, .dat L2']) rfl rfl rfl hr
  exact fFun_at (np := 2) (k := 5) (ρ := [.dat T, M]) ((seq_nx a1).trans ((seq_nx a2).trans ((seq_nx a3).trans ((seq_nx a4).trans ((seq_nx a5).trans (ret_at fin))))))
/-! ### how many squares, by the law -/
end
end K21


set_option Elab.async false
set_option linter.all false
set_option maxRecDepth 100000
set_option maxHeartbeats 4000000
namespace TC
open PySem L2 DL LW LX
/-! ### down the left rim -/
def steps (t : List Ln) : Nat → Nat → List (Int × Nat)
  | 0, _ => []
  | f + 1, p => match t[p]? with
    | some (_, x :: _) => (x, idx (·.1) x t) :: steps t f (idx (·.1) x t)
    | _ => []
theorem in_nm (x : Int) (xs : List Int) : gIn false (.int x) (nmD xs) = some (.bool (decide (x ∈ xs))) := by
  unfold gIn nmD
  simp only [flatD, Bool.true_and]
  have h1 : (xs.map PyData.int).all flatD = true := List.all_eq_true.mpr fun d hd => by obtain ⟨i, _, rfl⟩ := List.mem_map.mp hd; rfl
  rw [h1, if_pos rfl, if_neg Bool.false_ne_true]
  congr 2
  unfold inD
  rw [List.any_map]
  induction xs with
  | nil => rfl
  | cons y xs ih =>
    rw [List.any_cons, ih (List.all_eq_true.mpr fun d hd => by obtain ⟨i, _, rfl⟩ := List.mem_map.mp hd; rfl)]
    show ((y == x) || _) = _
    rw [Bool.eq_iff_iff, Bool.or_eq_true, decide_eq_true_eq, decide_eq_true_eq, List.mem_cons, beq_iff_eq]
    exact ⟨fun z => z.imp Eq.symm id, fun z => z.imp Eq.symm id⟩
theorem first_idx {t : List Ln} {x : Int} (h : x ∈ t.flatMap (·.1)) : ((List.range t.length).filter (fun k => match t[k]? with | some l => decide (x ∈ l.1) | none => false))[0]? = some (idx (·.1) x t) := by
  rw [← List.head?_eq_getElem?, List.head?_filter, List.find?_range_eq_some]
  obtain ⟨l, e, m⟩ := idx_lt h
  have hlt := (List.getElem?_eq_some_iff.mp e).1
  refine ⟨by rw [e]; exact decide_eq_true m, List.mem_range.mpr hlt, fun j hj => ?_⟩
  have hj2 : j < t.length := by omega
  rw [List.getElem?_eq_getElem hj2]
  have := List.not_of_lt_findIdx (xs := t) (p := fun l => decide (x ∈ l.1)) hj
  simpa using this
section
variable {t : List Ln} {n : Nat}
/-- one step down -/
theorem Tch.step (h : Tch t n) {p : Nat} (hp : p + 1 < t.length) : ∃ A x R l, t[p]? = some (A, x :: R) ∧ x ∈ t.flatMap (·.1) ∧ p < idx (·.1) x t ∧ t[idx (·.1) x t]? = some l ∧ idx (·.1) x t < t.length := by
  have e : t[p]? = some t[p] := List.getElem?_eq_getElem (by omega)
  have hb := h.be p _ e
  generalize t[p] = q at e hb
  obtain ⟨A, B⟩ := q
  cases B with
  | nil => have := hb.mp rfl; omega
  | cons x R =>
    have m2 : x ∈ t.flatMap (·.2) := List.mem_flatMap.mpr ⟨_, List.mem_of_getElem? e, List.mem_cons_self⟩
    have m1 : x ∈ t.flatMap (·.1) := h.pa.mem_iff.mpr (h.pb.mem_iff.mp m2)
    obtain ⟨l, el, ml⟩ := idx_lt m1
    exact ⟨A, x, R, l, e, m1, fall_lt h e el List.mem_cons_self ml, el, (List.getElem?_eq_some_iff.mp el).1⟩
theorem Tch.last (h : Tch t n) {p : Nat} {l : Ln} (e : t[p]? = some l) (hp : ¬ p + 1 < t.length) : l.2 = [] := by
  have := (List.getElem?_eq_some_iff.mp e).1
  exact (h.be p l e).mpr (by omega)
theorem steps_len : ∀ (f p : Nat), (steps t f p).length ≤ f
  | 0, _ => Nat.zero_le _
  | f + 1, p => by
    unfold steps
    split
    · rw [List.length_cons]; have := steps_len f (idx (·.1) ‹Int› t); omega
    · exact Nat.zero_le _
theorem steps_at : ∀ {f p j : Nat} {x : Int} {q : Nat}, (steps t f p)[j]? = some (x, q) → q = idx (·.1) x t ∧ x ∈ t.flatMap (·.2)
  | 0, _, _, _, _, h => by simp [steps] at h
  | f + 1, p, j, x, q, h => by
    unfold steps at h
    split at h
    · rename_i A y R e
      cases j with
      | zero =>
        cases h
        exact ⟨rfl, List.mem_flatMap.mpr ⟨_, List.mem_of_getElem? e, List.mem_cons_self⟩⟩
      | succ j => exact steps_at (by simpa using h)
    · simp at h
end
end TC
namespace K21
open PySem L2 DL LW LX TC
section
variable {t : List Ln} {n : Nat}
abbrev wT : FT := fB (f2 gLt (fVar 2) (f2 DL.gSub (fCa gLen (faCons (fVar 0) faNil)) (fC (.int 1))))
abbrev wC : FE := fFrz (fLc [4] (fiR1 (faCons (fCa gLen (faCons (fVar 0) faNil)) faNil)) (fgName 1 4) (fB (f2 (gIn false) (fVar 3) (f2 gIx (f2 gIx (fVar 0) (fVar 4)) (fC (.int 0))))) (fVar 4))
abbrev wB : FS := fSeq (fAsg 1 3 (f2 gIx (f2 gIx (f2 gIx (fVar 0) (fVar 2)) (fC (.int 1))) (fC (.int 0))))
  (fSeq (fAsg 1 2 (f2 gIx wC (fC (.int 0)))) (fDrop (fAppend 1 (fVar 2))))
theorem wT_at {x1 x3 x4 : En} (p : Nat) : wT [.dat (tD t), x1, .dat (.int (p : Int)), x3, x4] = some (decide ((p : Int) < (t.length : Int) - 1), [.dat (tD t), x1, .dat (.int (p : Int)), x3, x4]) :=
  fB_at (f2_at (o := gLt) (fa := fVar 2) rfl (f2_at (o := DL.gSub) (fb := fC (.int 1)) (fCa_at (o := gLen) (h := faCons (fVar 0) faNil) (ρ := [.dat (tD t), x1, .dat (.int (p : Int)), x3, x4]) rfl (len_t t)) rfl rfl) rfl)
theorem wC_at {x1 x2 : En} {x : Int} (hl : t.length < 1000) : wC [.dat (tD t), x1, x2, .dat (.int x), .un] = some (.dat (.list (((List.range t.length).filter (fun k => match t[k]? with | some l => decide (x ∈ l.1) | none => false)).map fun (k : Nat) => PyData.int (k : Int))), [.dat (tD t), x1, x2, .dat (.int x), .un]) := by
  refine frz_at (lc_filter (vs := [4]) (fi := fiR1 (faCons (fCa gLen (faCons (fVar 0) faNil)) faNil)) (g := fgName 1 4) (ft := fB (f2 (gIn false) (fVar 3) (f2 gIx (f2 gIx (fVar 0) (fVar 4)) (fC (.int 0))))) (fe := fVar 4) (ρ := [.dat (tD t), x1, x2, .dat (.int x), .un]) (fun (k : Nat) => PyData.int ((0 : Int) + (k : Int))) (fun (k : Nat) => PyData.int (k : Int)) (fun k => match t[k]? with | some l => decide (x ∈ l.1) | none => false) (List.range t.length) ?_ rfl rfl (by rw [List.length_range]; omega) fun k hk => ?_)
  · have := fiR1_at (a := (t.length : Int)) (small62_nat (by omega)) (fa1 (fCa_at (o := gLen) (h := faCons (fVar 0) faNil) (ρ := [.dat (tD t), x1, x2, .dat (.int x), .un]) rfl (len_t t)))
    rw [Int.toNat_natCast] at this
    exact this
  · have hk2 := List.mem_range.mp hk
    have e : t[k]? = some t[k] := List.getElem?_eq_getElem hk2
    refine ⟨[.dat (tD t), x1, x2, .dat (.int x), .dat (.int (k : Int))], by rw [Int.zero_add]; rfl, ?_, fun _ => rfl, rfl, rfl⟩
    rw [e]
    exact fB_at (f2_at (fa := fVar 3) rfl (f2_at (fb := fC (.int 0)) (f2_at (fa := fVar 0) (fb := fVar 4) rfl rfl (ix_t e)) rfl rfl) (in_nm x _))
theorem left_while (h : Tch t n) (hn : n < 800) : ∀ (d p N : Nat) (L : List PyData) (x3 : En), p < t.length → t.length - p ≤ d → d < N → L.length + d < 5000 → ∃ y2 y3, fWhileN wT wB N [.dat (tD t), .cel L, .dat (.int (p : Int)), x3, .un] = some (.nx [.dat (tD t), .cel (L ++ (steps t d p).map fun s => PyData.int (s.2 : Int)), y2, y3, .un])
  | 0, p, N, L, x3, h1, h2, _, _ => by omega
  | d + 1, p, 0, L, x3, h1, h2, h3, _ => by omega
  | d + 1, p, N + 1, L, x3, h1, h2, h3, h4 => by
    have hl : t.length < 1000 := by have := h.few; omega
    have ht := wT_at (t := t) (x1 := .cel L) (x3 := x3) (x4 := .un) p
    by_cases hp : p + 1 < t.length
    · obtain ⟨A, x, R, l, e1, m1, lt, el, ll⟩ := h.step hp
      rw [decide_eq_true (by omega)] at ht
      let q := idx (·.1) x t
      have a1 := asg_at (P := 1) (i := 3) (ρ2 := [.dat (tD t), .cel L, .dat (.int (p : Int)), .dat (.int x), .un]) (f2_at (o := gIx) (fb := fC (.int 0)) (f2_at (o := gIx) (fb := fC (.int 1)) (f2_at (o := gIx) (fa := fVar 0) (fb := fVar 2) (ρ := [.dat (tD t), .cel L, .dat (.int (p : Int)), x3, .un]) rfl rfl (ix_t e1)) rfl (z := nmD (x :: R)) rfl) rfl (ix_nm (i := 0) (x := x) rfl)) rfl
      have a2 := asg_at (P := 1) (i := 2) (ρ2 := [.dat (tD t), .cel L, .dat (.int (q : Int)), .dat (.int x), .un]) (f2_at (o := gIx) (fb := fC (.int 0)) (wC_at (x1 := .cel L) (x2 := .dat (.int (p : Int))) (x := x) hl) rfl (z := .int (q : Int)) (by
        show atI _ ((0 : Nat) : Int) = _
        exact atI_nat (by rw [List.getElem?_map, first_idx m1]; rfl))) rfl
      have a3 := drop_at (app_at (f := fVar 2) (i := 1) (ρ := [.dat (tD t), .cel L, .dat (.int (q : Int)), .dat (.int x), .un]) (ys := L) (xs := L) rfl rfl rfl (by omega))
      obtain ⟨y2, y3, e⟩ := left_while h hn d q N (L ++ [.int (q : Int)]) (.dat (.int x)) ll (by show t.length - idx (·.1) x t ≤ d; omega) (by omega) (by rw [List.length_append, List.length_singleton]; omega)
      refine ⟨y2, y3, ?_⟩
      rw [while_t ht ((seq_nx a1).trans ((seq_nx a2).trans a3))]
      have es : steps t (d + 1) p = (x, q) :: steps t d q := by rw [steps]; simp only [e1]; rfl
      rw [es, List.map_cons]
      refine Eq.trans e ?_
      rw [List.append_assoc]
      rfl
    · rw [decide_eq_false (by omega)] at ht
      refine ⟨.dat (.int (p : Int)), x3, ?_⟩
      rw [while_f ht]
      have e : t[p]? = some t[p] := List.getElem?_eq_getElem h1
      have hb := h.last e hp
      have es : steps t (d + 1) p = [] := by
        generalize t[p] = l at e hb
        obtain ⟨A, B⟩ := l
        dsimp only at hb
        subst hb
        rw [steps]; simp only [e]
      rw [es, List.map_nil, List.append_nil]
theorem left_ok (h : Tch t n) (hn : n < 800) : F_law_left_lines [.dat (tD t)] = some (.dat (.list ((steps t t.length 0).map fun s => PyData.int (s.2 : Int))), [.un]) := by
  have h2 := h.two
  have h3 := h.few
  obtain ⟨y2, y3, e⟩ := left_while h hn t.length 0 1000000000000000000000000000000 [] .un (by omega) (by omega) (by omega) (by rw [List.length_nil]; omega)
  rw [List.nil_append] at e
  have a1 : fAsg 1 1 (fLst faNil) [.dat (tD t), .un, .un, .un, .un] = some (.nx [.dat (tD t), .cel [], .un, .un, .un]) := rfl
  have a2 : fAsg 1 2 (fC (.int 0)) [.dat (tD t), .cel [], .un, .un, .un] = some (.nx [.dat (tD t), .cel [], .dat (.int ((0 : Nat) : Int)), .un, .un]) := rfl
  exact fFun_at (np := 1) (k := 4) (ρ := [.dat (tD t)]) ((seq_nx a1).trans ((seq_nx a2).trans ((seq_nx (t := fRet (fFrzS 1 1)) e).trans rfl)))
/-! the program's -/
abbrev rT : FT := fTru (fVar 3)
abbrev rB : FS := fSeq (fDrop (fAppend 2 (f2 gIx (fVar 3) (fC (.int 0)))))
  (fAsg 1 3 (f2 gIx (f2 gIx (fVar 0) (f2 gIxD (fVar 1) (f2 gIx (fVar 3) (fC (.int 0))))) (fC (.int 1))))
theorem rim_while (h : Tch t n) (hn : n < 800) : ∀ (d p N : Nat) (L : List PyData) (l : Ln), t[p]? = some l → t.length - p ≤ d → d < N → L.length + d < 5000 → ∃ y3, fWhileN rT rB N [.dat (tD t), .dat (dk (prs (·.1) 0 t)), .cel L, .dat (nmD l.2)] = some (.nx [.dat (tD t), .dat (dk (prs (·.1) 0 t)), .cel (L ++ (steps t d p).map fun s => PyData.int s.1), y3])
  | 0, p, N, L, l, h1, h2, _, _ => by have := (List.getElem?_eq_some_iff.mp h1).1; omega
  | d + 1, p, 0, L, l, h1, h2, h3, _ => by omega
  | d + 1, p, N + 1, L, l, h1, h2, h3, h4 => by
    let D := dk (prs (·.1) 0 t)
    have ht := tru_at (f := fVar 3) (ρ := [.dat (tD t), .dat D, .cel L, .dat (nmD l.2)]) rfl (isEmp l.2)
    by_cases hp : p + 1 < t.length
    · obtain ⟨A, x, R, l', e1, m1, lt, el, ll⟩ := h.step hp
      rw [h1] at e1
      cases e1
      let q := idx (·.1) x t
      have i1 := f2_at (o := gIx) (fa := fVar 3) (fb := fC (.int 0)) (ρ := [.dat (tD t), .dat D, .cel L, .dat (nmD (x :: R))]) (ρ1 := [.dat (tD t), .dat D, .cel L, .dat (nmD (x :: R))]) (ρ2 := [.dat (tD t), .dat D, .cel L, .dat (nmD (x :: R))]) rfl rfl (ix_nm (xs := x :: R) (i := 0) (x := x) rfl)
      have a1 := drop_at (app_at (i := 2) (ys := L) (xs := L) rfl i1 rfl (by omega))
      let L' := L ++ [PyData.int x]
      have i2 := f2_at (o := gIx) (fa := fVar 3) (fb := fC (.int 0)) (ρ := [.dat (tD t), .dat D, .cel L', .dat (nmD (x :: R))]) (ρ1 := [.dat (tD t), .dat D, .cel L', .dat (nmD (x :: R))]) (ρ2 := [.dat (tD t), .dat D, .cel L', .dat (nmD (x :: R))]) rfl rfl (ix_nm (xs := x :: R) (i := 0) (x := x) rfl)
      have i3 := f2_at (o := gIxD) (fa := fVar 1) (ρ := [.dat (tD t), .dat D, .cel L', .dat (nmD (x :: R))]) rfl i2 ((ixD_int _ x).trans (prs_val (·.1) x t 0 m1))
      rw [Nat.zero_add] at i3
      have a2 := asg_at (P := 1) (i := 3) (ρ2 := [.dat (tD t), .dat D, .cel L', .dat (nmD l'.2)]) (f2_at (o := gIx) (fb := fC (.int 1)) (f2_at (o := gIx) (fa := fVar 0) (ρ := [.dat (tD t), .dat D, .cel L', .dat (nmD (x :: R))]) rfl i3 (ix_t el)) rfl rfl) rfl
      obtain ⟨y3, e⟩ := rim_while h hn d q N L' l' el (by show t.length - idx (·.1) x t ≤ d; omega) (by omega) (by show (L ++ [PyData.int x]).length + d < 5000; rw [List.length_append, List.length_singleton]; omega)
      refine ⟨y3, ?_⟩
      rw [while_t ht ((seq_nx a1).trans a2)]
      have es : steps t (d + 1) p = (x, q) :: steps t d q := by rw [steps]; simp only [h1]; rfl
      rw [es, List.map_cons]
      refine Eq.trans e ?_
      show some (Oc.nx [_, _, .cel (L ++ [PyData.int x] ++ _), _]) = _
      rw [List.append_assoc]
      rfl
    · have hb := h.last h1 hp
      obtain ⟨A, B⟩ := l
      dsimp only at hb
      subst hb
      refine ⟨.dat (nmD []), ?_⟩
      rw [while_f ht]
      have es : steps t (d + 1) p = [] := by rw [steps]; simp only [h1]
      rw [es, List.map_nil, List.append_nil]
theorem rimL_ok (h : Tch t n) (hn : n < 800) : F_left_rim [.dat (tD t)] = some (.dat (.list ((steps t t.length 0).map fun s => PyData.int s.1)), [.un]) := by
  have h2 := h.two
  have h3 := h.few
  obtain ⟨B, r, et, _⟩ := h.head
  have e0 : t[0]? = some ([], B) := by rw [et]; rfl
  obtain ⟨y3, e⟩ := rim_while h hn t.length 0 1000000000000000000000000000000 [] ([], B) e0 (by omega) (by omega) (by rw [List.length_nil]; omega)
  rw [List.nil_append] at e
  have a1 := asg_at (P := 1) (i := 1) (ρ2 := [.dat (tD t), .dat (dk (prs (·.1) 0 t)), .un, .un]) (call_at (F := F_lines_stood_on) (fe := fVar 0) (ρ := [.dat (tD t), .un, .un, .un]) rfl (stoodT h (by omega))) rfl
  have a2 : fAsg 1 2 (fLst faNil) [.dat (tD t), .dat (dk (prs (·.1) 0 t)), .un, .un] = some (.nx [.dat (tD t), .dat (dk (prs (·.1) 0 t)), .cel [], .un]) := rfl
  have a3 := asg_at (P := 1) (i := 3) (ρ2 := [.dat (tD t), .dat (dk (prs (·.1) 0 t)), .cel [], .dat (nmD B)]) (first_at (l := ([], B)) (r := r) (fe := fVar 0) (ρ := [.dat (tD t), .dat (dk (prs (·.1) 0 t)), .cel [], .un]) (ρ1 := [.dat (tD t), .dat (dk (prs (·.1) 0 t)), .cel [], .un]) (by rw [← et]; rfl)) rfl
  exact fFun_at (np := 1) (k := 3) (ρ := [.dat (tD t)]) ((seq_nx a1).trans ((seq_nx a2).trans ((seq_nx a3).trans ((seq_nx (t := fRet (fFrzS 1 2)) e).trans rfl))))
end
end K21


set_option Elab.async false
set_option linter.all false
set_option maxRecDepth 100000
set_option maxHeartbeats 4000000
namespace TC
open PySem L2 DL LW LX
theorem beside_set {n k : Nat} {B : List Int} {r : List Ln} {q : Ln} (h1 : 1 ≤ k) (hq : (([], B) :: r)[k]? = some q) : beside n k (([], B) :: r) = ((([], B) :: r).set 0 ([], (n : Int) :: B)).set k ((n : Int) :: q.1, q.2) := by
  obtain ⟨j, rfl⟩ : ∃ j, k = j + 1 := ⟨k - 1, by omega⟩
  have hq' : r[j]? = some q := hq
  show _ :: _ = _
  rw [Nat.add_sub_cancel]
  simp only [hq', List.set_cons_zero, List.set_cons_succ]
theorem beside_cut {n k : Nat} {B : List Int} {r : List Ln} {q : Ln} (h1 : 1 ≤ k) (hq : (([], B) :: r)[k]? = some q) : beside n k (([], B) :: r) = [([], (n : Int) :: B)] ++ ((([], B) :: r).drop 1).take (k - 1) ++ [((n : Int) :: q.1, q.2)] ++ (([], B) :: r).drop (k + 1) := by
  obtain ⟨j, rfl⟩ : ∃ j, k = j + 1 := ⟨k - 1, by omega⟩
  have hq' : r[j]? = some q := hq
  have hj := (List.getElem?_eq_some_iff.mp hq').1
  show _ :: _ = _
  rw [Nat.add_sub_cancel]
  simp only [hq']
  show _ = (([], (n : Int) :: B) :: r.take j) ++ [((n : Int) :: q.1, q.2)] ++ r.drop (j + 1)
  rw [List.cons_append, List.cons_append]
  refine congrArg _ ?_
  rw [List.append_assoc]
  rw [List.set_eq_take_append_cons_drop, if_pos hj]
  rfl
theorem sub_t {t : List Ln} {a m : Nat} (h1 : a ≤ m) (h : m ≤ t.length) : PyData.tuple (cutD (t.map TC.lnD) (some (a : Int)) (some (m : Int))) = tD ((t.drop a).take (m - a)) := by
  rw [cut_mid _ _ _ h1 (by rw [List.length_map]; exact h), ← List.map_drop, ← List.map_take]; rfl
theorem end_t {t : List Ln} {a : Nat} (h : a ≤ t.length) : PyData.tuple (cutD (t.map TC.lnD) (some (a : Int)) none) = tD (t.drop a) := by
  rw [cut_from _ _ (by rw [List.length_map]; exact h), ← List.map_drop]; rfl
end TC
namespace K21
open PySem L2 DL LW LX TC
theorem ixN_nat {n j : Nat} (h : j < n) : ixN n (j : Int) = some j := by
  unfold ixN
  rw [if_pos (by omega), if_pos (by omega), Int.toNat_natCast]
theorem setIx_at {j k : Nat} {fi fe : FE} {ρ : List En} {d : PyData} {xs : List PyData} (he : fe ρ = some (.dat d, ρ)) (hc : ρ[j]? = some (.cel xs)) (hi : fi ρ = some (.dat (.int (k : Int)), ρ)) (hk : k < xs.length) : fSetIx j fi fe ρ = some (.nx (ρ.set j (.cel (xs.set k d)))) := by
  unfold fSetIx
  rw [he]
  simp only [hc, hi, ixN_nat hk]
theorem celIx_at {j k : Nat} {fi : FE} {ρ : List En} {d : PyData} {xs : List PyData} (hc : ρ[j]? = some (.cel xs)) (hi : fi ρ = some (.dat (.int (k : Int)), ρ)) (hk : xs[k]? = some d) : fCelIx j fi ρ = some (.dat d, ρ) := by
  unfold fCelIx
  rw [hc]
  simp only [hi, hc, atI_nat hk]
section
variable {n m : Nat} {B : List Int} {r : List Ln}
theorem B_len (h : Tch (([], B) :: r) n) : B.length ≤ n := by
  have := flat_len h.pb
  rw [List.flatMap_cons, List.length_append] at this
  have e : ((([] : List Int), B) : Ln).2.length = B.length := rfl
  omega
theorem A_len {t : List Ln} (h : Tch t n) {q : Ln} (hq : q ∈ t) : q.1.length ≤ n := by
  have := flat_len h.pa
  obtain ⟨a, b, rfl⟩ := List.append_of_mem hq
  rw [List.flatMap_append, List.flatMap_cons, List.length_append, List.length_append] at this
  have e : ((·.1) q : List Int).length = q.1.length := rfl
  omega
/-- two rows stored: the law's way -/
theorem rows_ok (h : Tch (([], B) :: r) n) (hn : n < 800) {k j P : Nat} {fk fnew : FE} {ρ : List En} {q : Ln} (h1 : 1 ≤ k) (hq : (([], B) :: r)[k]? = some q) (hc : ρ[j]? = some (.cel ((([], B) :: r).map TC.lnD)))
    (hk : ∀ xs, fk (ρ.set j (.cel xs)) = some (.dat (.int (k : Int)), ρ.set j (.cel xs))) (hw : ∀ xs, fnew (ρ.set j (.cel xs)) = some (.dat (.int (n : Int)), ρ.set j (.cel xs))) (g : FS) :
    fSeq (fSetIx j (fC (.int 0)) (fTup (faCons (fTup faNil) (faCons (f2 gCatT (fTup (faCons fnew faNil)) (f2 gIx (fCelIx j (fC (.int 0))) (fC (.int 1)))) faNil))))
      (fSeq (fSetIx j fk (fTup (faCons (f2 gCatT (fTup (faCons fnew faNil)) (f2 gIx (fCelIx j fk) (fC (.int 0)))) (faCons (f2 gIx (fCelIx j fk) (fC (.int 1))) faNil)))) g) ρ = g (ρ.set j (.cel ((beside n k (([], B) :: r)).map TC.lnD))) := by
  have hjl : j < ρ.length := (List.getElem?_eq_some_iff.mp hc).1
  have hB := B_len h
  have hA := A_len h (List.mem_of_getElem? hq)
  have hkl := (List.getElem?_eq_some_iff.mp hq).1
  let X := (([], B) :: r).map TC.lnD
  have eρ : ρ = ρ.set j (.cel X) := by
    obtain ⟨_, eg⟩ := List.getElem?_eq_some_iff.mp hc
    show ρ = ρ.set j (.cel ((([], B) :: r).map TC.lnD))
    rw [← eg]
    exact (List.set_getElem_self hjl).symm
  have hc' : ∀ xs : List PyData, (ρ.set j (.cel xs))[j]? = some (.cel xs) := fun xs => List.getElem?_set_self hjl
  have ss : ∀ xs ys : List PyData, (ρ.set j (.cel xs)).set j (.cel ys) = ρ.set j (.cel ys) := fun xs ys => List.set_set ..
  have x0 : X[0]? = some (TC.lnD ([], B)) := rfl
  have c1 := celIx_at (j := j) (k := 0) (fi := fC (.int 0)) (ρ := ρ.set j (.cel X)) (hc' X) rfl x0
  have d1 := tup2 (f := fTup faNil) (d := nmD []) (ρ := ρ.set j (.cel X)) (ρ1 := ρ.set j (.cel X)) rfl (cat2 (x := (n : Int)) (hw X) (f2_at (o := gIx) (fb := fC (.int 1)) c1 rfl (z := nmD B) rfl) (by omega))
  have s1 := setIx_at (j := j) (k := 0) (fi := fC (.int 0)) d1 (hc' X) rfl (by show 0 < ((([], B) :: r).map TC.lnD).length; rw [List.length_map]; exact Nat.succ_pos _)
  rw [ss, ← eρ] at s1
  let Y := X.set 0 (TC.lnD ([], (n : Int) :: B))
  have s1' : fSetIx j (fC (.int 0)) (fTup (faCons (fTup faNil) (faCons (f2 gCatT (fTup (faCons fnew faNil)) (f2 gIx (fCelIx j (fC (.int 0))) (fC (.int 1)))) faNil))) ρ = some (.nx (ρ.set j (.cel Y))) := s1
  have yk : Y[k]? = some (TC.lnD q) := by
    show (X.set 0 _)[k]? = _
    rw [List.getElem?_set_ne (by omega)]
    show ((([], B) :: r).map TC.lnD)[k]? = _
    rw [List.getElem?_map, hq]; rfl
  have c2 := celIx_at (j := j) (k := k) (fi := fk) (hc' Y) (hk Y) yk
  have d2 := tup2 (cat2 (x := (n : Int)) (hw Y) (f2_at (o := gIx) (fb := fC (.int 0)) c2 rfl (z := nmD q.1) rfl) (by omega)) (f2_at (o := gIx) (fb := fC (.int 1)) c2 rfl (z := nmD q.2) rfl)
  have s2 := setIx_at (j := j) (k := k) (fi := fk) d2 (hc' Y) (hk Y) (by
    show k < (X.set 0 _).length
    rw [List.length_set]
    show k < ((([], B) :: r).map TC.lnD).length
    rw [List.length_map]; exact hkl)
  rw [ss] at s2
  have eY : Y.set k (.tuple [nmD ((n : Int) :: q.1), nmD q.2]) = (beside n k (([], B) :: r)).map TC.lnD := by
    rw [beside_set h1 hq, List.map_set, List.map_set]
    rfl
  rw [eY] at s2
  rw [seq_nx s1', seq_nx s2]
theorem beside_ok (h : Tch (([], B) :: r) n) (hn : n < 400) {x : Int} {k : Nat} (h1 : 1 ≤ m) (hs : (steps (([], B) :: r) (([], B) :: r : List Ln).length 0)[m - 1]? = some (x, k)) (hk1 : 1 ≤ k) (hk2 : k < (([], B) :: r : List Ln).length) : F_push_beside [.dat (tD (([], B) :: r)), .dat (.int (m : Int))] = some (.dat (tD (beside n k (([], B) :: r))), [.un, .un]) := by
  let t : List Ln := ([], B) :: r
  let T := tD t
  let M : En := .dat (.int (m : Int))
  let S := steps t t.length 0
  let RM : PyData := .list (S.map fun s => PyData.int s.1)
  have hl : t.length ≤ n + 1 := h.few
  have hB := B_len h
  have hsl : m - 1 < S.length := (List.getElem?_eq_some_iff.mp hs).1
  obtain ⟨ek, mx⟩ := steps_at hs
  have mx1 : x ∈ t.flatMap (·.1) := (memAB h).mp mx
  have hq : t[k]? = some t[k] := List.getElem?_eq_getElem hk2
  generalize t[k] = q at hq
  have hA := A_len h (List.mem_of_getElem? hq)
  let N : En := .dat (.int (n : Int))
  have a1 := asg_at (P := 2) (i := 2) (ρ2 := [.dat T, M, N, .un, .un, .un, .un, .un, .un, .un]) (call_at (F := F_next_number) (fe := fVar 0) (ρ := [.dat T, M, .un, .un, .un, .un, .un, .un, .un, .un]) rfl (next_ok h (by omega))) rfl
  have a2 := asg_at (P := 2) (i := 3) (ρ2 := [.dat T, M, N, .dat RM, .un, .un, .un, .un, .un, .un]) (call_at (F := F_left_rim) (fe := fVar 0) (ρ := [.dat T, M, N, .un, .un, .un, .un, .un, .un, .un]) rfl (rimL_ok h (by omega))) rfl
  have gl : gLen [RM] = some (.int (S.length : Int)) := by show some (PyData.int ((S.map fun s => PyData.int s.1).length : Int)) = _; rw [List.length_map]
  have i1 := call2 (F := F_nearest_count) (fe := fVar 1) (ρ := [.dat T, M, N, .dat RM, .un, .un, .un, .un, .un, .un]) rfl (fCa_at (o := gLen) (h := faCons (fVar 3) faNil) rfl gl) (nearest_ok h1 (show m ≤ S.length by omega))
  have i2 := f2_at (o := DL.gSub) (fb := fC (.int 1)) i1 rfl (z := .int ((m - 1 : Nat) : Int)) (by show some (PyData.int ((m : Int) - 1)) = _; congr 2; omega)
  have i3 := f2_at (o := gIx) (fa := fVar 3) (ρ := [.dat T, M, N, .dat RM, .un, .un, .un, .un, .un, .un]) (x := RM) rfl i2 (z := .int x) (atI_nat (by rw [List.getElem?_map, hs]; rfl))
  have a3 := asg_at (P := 2) (i := 4) (ρ2 := [.dat T, M, N, .dat RM, .dat (.int x), .un, .un, .un, .un, .un]) i3 rfl
  have i4 := f2_at (o := gIxD) (fb := fVar 4) (call_at (F := F_lines_stood_on) (fe := fVar 0) (ρ := [.dat T, M, N, .dat RM, .dat (.int x), .un, .un, .un, .un, .un]) rfl (stoodT h (by omega))) rfl ((ixD_int _ x).trans (prs_val (·.1) x t 0 mx1))
  rw [Nat.zero_add, ← ek] at i4
  have a4 := asg_at (P := 2) (i := 5) (ρ2 := [.dat T, M, N, .dat RM, .dat (.int x), .dat (.int (k : Int)), .un, .un, .un, .un]) i4 rfl
  have a5 := asgG_at (g := fgTup 2 (fgCons (fgName 2 6) (fgCons (fgName 2 7) fgNil))) (ρ2 := [.dat T, M, N, .dat RM, .dat (.int x), .dat (.int (k : Int)), .dat (nmD q.1), .dat (nmD q.2), .un, .un]) (f2_at (o := gIx) (fa := fVar 0) (fb := fVar 5) (ρ := [.dat T, M, N, .dat RM, .dat (.int x), .dat (.int (k : Int)), .un, .un, .un, .un]) rfl rfl (ix_t hq)) rfl
  let L1 := TC.lnD ([], (n : Int) :: B)
  let L2' := TC.lnD ((n : Int) :: q.1, q.2)
  have a6 := asg_at (P := 2) (i := 8) (ρ2 := [.dat T, M, N, .dat RM, .dat (.int x), .dat (.int (k : Int)), .dat (nmD q.1), .dat (nmD q.2), .dat L1, .un]) (tup2 (f := fTup faNil) (d := nmD []) (ρ := [.dat T, M, N, .dat RM, .dat (.int x), .dat (.int (k : Int)), .dat (nmD q.1), .dat (nmD q.2), .un, .un]) (ρ1 := [.dat T, M, N, .dat RM, .dat (.int x), .dat (.int (k : Int)), .dat (nmD q.1), .dat (nmD q.2), .un, .un]) rfl (cat2 (x := (n : Int)) (fx := fVar 2) rfl (first_at (l := ([], B)) (r := r) (fe := fVar 0) rfl) (show B.length < 1000 by omega))) rfl
  let R : List En := [.dat T, M, N, .dat RM, .dat (.int x), .dat (.int (k : Int)), .dat (nmD q.1), .dat (nmD q.2), .dat L1, .dat L2']
  have a7 := asg_at (P := 2) (i := 9) (ρ2 := R) (tup2 (g := fVar 7) (b := nmD q.2) (cat2 (x := (n : Int)) (fx := fVar 2) (fe := fVar 6) (ys := q.1) (ρ := [.dat T, M, N, .dat RM, .dat (.int x), .dat (.int (k : Int)), .dat (nmD q.1), .dat (nmD q.2), .dat L1, .un]) rfl rfl (by omega)) rfl) rfl
  have s1 := slT_at (fe := fVar 0) (fl := foSome (fC (.int 1))) (fh := foSome (fVar 5)) (lo := some ((1 : Nat) : Int)) (hi := some (k : Int)) (ρ := R) (ρ1 := R) (xs := t.map TC.lnD) rfl rfl rfl
  rw [sub_t hk1 (Nat.le_of_lt hk2)] at s1
  have s2 := slT_at (fe := fVar 0) (fl := foSome (f2 gAdd (fVar 5) (fC (.int 1)))) (fh := foNone) (lo := some ((k + 1 : Nat) : Int)) (hi := none) (ρ := R) (ρ1 := R) (xs := t.map TC.lnD) rfl rfl rfl
  rw [end_t (show k + 1 ≤ t.length from hk2)] at s2
  have ld : ((t.drop 1).take (k - 1)).length ≤ n + 1 := by rw [List.length_take, List.length_drop]; omega
  have ld2 : (t.drop (k + 1)).length ≤ n + 1 := by rw [List.length_drop]; omega
  have f1 := f2_at (o := gCatT) (tup1 (f := fVar 8) (ρ := R) (ρ1 := R) (d := L1) rfl) s1 (cat_t [([], (n : Int) :: B)] ((t.drop 1).take (k - 1)) (List.cons_ne_nil _ _) (by show 1 + ((t.drop 1).take (k - 1)).length < 1000; omega))
  have f2' := f2_at (o := gCatT) f1 (tup1 (f := fVar 9) (ρ := R) (ρ1 := R) (d := L2') rfl) (cat_t ([([], (n : Int) :: B)] ++ (t.drop 1).take (k - 1)) [((n : Int) :: q.1, q.2)] (List.cons_ne_nil _ _) (by rw [List.length_append]; show 1 + ((t.drop 1).take (k - 1)).length + 1 < 1000; omega))
  have f3 := f2_at (o := gCatT) f2' s2 (cat_t ([([], (n : Int) :: B)] ++ (t.drop 1).take (k - 1) ++ [((n : Int) :: q.1, q.2)]) (t.drop (k + 1)) (List.cons_ne_nil _ _) (by rw [List.length_append, List.length_append]; show 1 + ((t.drop 1).take (k - 1)).length + 1 + (t.drop (k + 1)).length < 1000; omega))
  rw [← beside_cut hk1 hq] at f3
  exact fFun_at (np := 2) (k := 8) (ρ := [.dat T, M]) ((seq_nx a1).trans ((seq_nx a2).trans ((seq_nx a3).trans ((seq_nx a4).trans ((seq_nx a5).trans ((seq_nx a6).trans ((seq_nx a7).trans (ret_at f3))))))))
end
end K21


set_option Elab.async false
set_option linter.all false
set_option maxRecDepth 100000
set_option maxHeartbeats 4000000
namespace LX
open PySem L2 DL LW
/-- a loop that goes on at each turn -/
theorem forGo_all {α : Type} {g : FG} {b : FS} (toD : α → PyData) (J : List En → Prop) : ∀ (xs : List α) (ρ : List En), J ρ → (∀ x ∈ xs, ∀ ρ, J ρ → ∃ ρ1 ρ2, g (toD x) ρ = some ρ1 ∧ b ρ1 = some (.nx ρ2) ∧ J ρ2) → ∃ ρ', J ρ' ∧ fForGo g b (xs.map toD) ρ = some (.nx ρ')
  | [], ρ, hJ, _ => ⟨ρ, hJ, rfl⟩
  | x :: xs, ρ, hJ, h => by
    obtain ⟨ρ1, ρ2, e1, e2, h2⟩ := h x List.mem_cons_self ρ hJ
    obtain ⟨ρ', h', e'⟩ := forGo_all toD J xs ρ2 h2 fun y hy => h y (List.mem_cons_of_mem _ hy)
    exact ⟨ρ', h', by rw [List.map_cons, forGo_nx e1 e2]; exact e'⟩
end LX
namespace TC
open PySem L2 DL LW LX
theorem steps_bd {t : List Ln} {n : Nat} (h : Tch t n) : ∀ {f p j : Nat} {x : Int} {q : Nat}, (steps t f p)[j]? = some (x, q) → p < q ∧ q < t.length
  | 0, _, _, _, _, h => by simp [steps] at h
  | f + 1, p, j, x, q, hs => by
    unfold steps at hs
    split at hs
    · rename_i A y R e
      have m2 : y ∈ t.flatMap (·.2) := List.mem_flatMap.mpr ⟨_, List.mem_of_getElem? e, List.mem_cons_self⟩
      have m1 : y ∈ t.flatMap (·.1) := h.pa.mem_iff.mpr (h.pb.mem_iff.mp m2)
      obtain ⟨l, el, ml⟩ := idx_lt m1
      have lt := fall_lt h e el List.mem_cons_self ml
      cases j with
      | zero =>
        cases hs
        exact ⟨lt, (List.getElem?_eq_some_iff.mp el).1⟩
      | succ j =>
        have := steps_bd h (f := f) (p := idx (·.1) y t) (j := j) (x := x) (q := q) (by simpa using hs)
        exact ⟨by omega, this.2⟩
    · simp at hs
theorem steps_ne {t : List Ln} {n : Nat} (h : Tch t n) : 0 < (steps t t.length 0).length := by
  have h2 := h.two
  obtain ⟨A, x, R, l, e1, _⟩ := h.step (p := 0) (by omega)
  obtain ⟨j, hj⟩ : ∃ j, t.length = j + 1 := ⟨t.length - 1, by omega⟩
  rw [hj, steps]
  simp only [e1, List.length_cons]
  omega
end TC
namespace K21
open PySem L2 DL LW LX TC
theorem takeC {ρ ρ2 : List En} {fb : FE} {xs : List PyData} {m : Int} (hb : BagOk xs) (h0 : 0 < m) (h1 : m < 2 ^ 100) (i : Nat) (hi : ρ[i]? = some (.cel xs)) (hf : fb ρ = some (.dat (.int m), ρ)) :
    ∃ (r : Int) (ys : List PyData), fCall 2 F_law_take (fVar i) (faCons fb faNil) ρ = some (.dat (.int r), ρ.set i (.cel ys)) ∧ BagOk ys ∧ 0 ≤ r ∧ r < m := by
  obtain ⟨r, ys, e, et, hy, r0, r1⟩ := take_ok (m := m) hb h0 h1
  refine ⟨r, ys, callC2 (i := i) (by simp [fVar, hi]) hf hi et, hy, r0, r1⟩
abbrev pB : FS := fIfS (fB (f2 gEq (fCall 2 F_law_take (fVar 0) (faCons (fC (.int 2)) faNil)) (fC (.int 0)))) (fSeq (fAsg 2 4 (f2 gIx (f2 gIx (fVar 2) (fC (.int 0))) (fC (.int 1))))
  (fSeq (fAsg 2 5 (f2 gAdd (fC (.int 1)) (fCall 2 F_law_take (fVar 0) (faCons (fCa gLen (faCons (fVar 4) faNil)) faNil))))
  (fAsg 2 2 (f2 gCatT (fTup (faCons (fTup (faCons (fTup faNil) (faCons (f2 gCatT (fTup (faCons (fVar 3) faNil)) (fSlT (fVar 4) (foSome (fVar 5)) foNone)) faNil))) (faCons (fTup (faCons (fTup (faCons (fVar 3) faNil)) (faCons (fSlT (fVar 4) foNone (foSome (fVar 5))) faNil))) faNil))) (fSlT (fVar 2) (foSome (fC (.int 1))) foNone))))) (fSeq (fAsg 2 6 (fCall 1 F_law_left_lines (fVar 2) faNil))
  (fSeq (fAsg 2 7 (f2 gIx (fVar 6) (fCall 2 F_law_take (fVar 0) (faCons (fCa gLen (faCons (fVar 6) faNil)) faNil))))
  (fSeq (fAsg 2 8 (fCaN gListOf (faCons (fVar 2) faNil)))
  (fSeq (fSetIx 8 (fC (.int 0)) (fTup (faCons (fTup faNil) (faCons (f2 gCatT (fTup (faCons (fVar 3) faNil)) (f2 gIx (fCelIx 8 (fC (.int 0))) (fC (.int 1)))) faNil))))
  (fSeq (fSetIx 8 (fVar 7) (fTup (faCons (f2 gCatT (fTup (faCons (fVar 3) faNil)) (f2 gIx (fCelIx 8 (fVar 7)) (fC (.int 0)))) (faCons (f2 gIx (fCelIx 8 (fVar 7)) (fC (.int 1))) faNil))))
  (fAsg 2 2 (fCa gTupleOf (faCons (fFrzS 2 8) faNil))))))))
theorem gEq_int (i j : Int) : gEq (.int i) (.int j) = some (.bool (decide (i = j))) := by
  unfold gEq
  rw [show SeqAt.shaped (.int i) = true from rfl, show SeqAt.shaped (.int j) = true from rfl, if_pos (show (true && true) = true from rfl)]
  congr 2
/-- all touchings that come of this one of n squares by one push -/
def pushes (n : Nat) (t : List Ln) : List (List Ln) := (match t with
  | l :: _ => (List.range l.2.length).map fun m => over n (m + 1) t
  | [] => []) ++ (steps t t.length 0).map fun s => beside n s.2 t
/-- all touchings of so many squares that come of one square by pushes -/
def LV : Nat → List (List Ln)
  | 0 => []
  | 1 => [one]
  | n + 2 => (LV (n + 1)).flatMap (pushes (n + 1))
theorem LV_succ {n : Nat} (h : 1 ≤ n) : LV (n + 1) = (LV n).flatMap (pushes n) := by
  obtain ⟨k, rfl⟩ : ∃ k, n = k + 1 := ⟨n - 1, by omega⟩
  rfl
theorem mem_over {n m : Nat} {A B : List Int} {r : List Ln} (h1 : 1 ≤ m) (h2 : m ≤ B.length) : over n m ((A, B) :: r) ∈ pushes n ((A, B) :: r) := by
  refine List.mem_append.mpr (.inl (List.mem_map.mpr ⟨m - 1, List.mem_range.mpr (by show m - 1 < B.length; omega), ?_⟩))
  rw [show m - 1 + 1 = m by omega]
theorem mem_beside {n m k : Nat} {x : Int} {t : List Ln} (h : (steps t t.length 0)[m]? = some (x, k)) : beside n k t ∈ pushes n t :=
  List.mem_append.mpr (.inr (List.mem_map.mpr ⟨(x, k), List.mem_of_getElem? h, rfl⟩))
theorem pB_at {t : List Ln} {n : Nat} {xs : List PyData} {M x4 x5 x6 x7 x8 : En} (h : Tch t n) (hn : n < 300) (hb : BagOk xs) : ∃ (t' : List Ln) (ys : List PyData) (y4 y5 y6 y7 y8 : En), pB [.cel xs, M, .dat (tD t), .dat (.int (n : Int)), x4, x5, x6, x7, x8] = some (.nx [.cel ys, M, .dat (tD t'), .dat (.int (n : Int)), y4, y5, y6, y7, y8]) ∧ Tch t' (n + 1) ∧ t' ∈ pushes n t ∧ BagOk ys := by
  obtain ⟨B, r, rfl, hB, hr⟩ := h.head
  let T := tD (([], B) :: r)
  let N : En := .dat (.int (n : Int))
  have hBl := B_len h
  have hrl : r.length < 900 := by have := h.few; rw [List.length_cons] at this; omega
  obtain ⟨w, xs1, e1, hb1, w0, w2⟩ := takeC (ρ := [.cel xs, M, .dat T, N, x4, x5, x6, x7, x8]) (ρ2 := []) (fb := fC (.int 2)) (m := 2) hb (by decide) (by decide) 0 rfl rfl
  have t1 := fB_at (f2_at (o := gEq) (fb := fC (.int 0)) e1 rfl (gEq_int w 0))
  by_cases hw : w = 0
  · rw [decide_eq_true hw] at t1
    have a1 := asg_at (P := 2) (i := 4) (ρ2 := [.cel xs1, M, .dat T, N, .dat (nmD B), x5, x6, x7, x8]) (first_at (l := ([], B)) (r := r) (fe := fVar 2) (ρ := [.cel xs1, M, .dat T, N, x4, x5, x6, x7, x8]) rfl) rfl
    have gl : gLen [nmD B] = some (.int (B.length : Int)) := by show some (PyData.int ((B.map PyData.int).length : Int)) = _; rw [List.length_map]
    have hB0 : 0 < B.length := List.length_pos_iff.mpr hB
    obtain ⟨s, xs2, e2, hb2, s0, s2⟩ := takeC (ρ := [.cel xs1, M, .dat T, N, .dat (nmD B), x5, x6, x7, x8]) (ρ2 := []) (fb := fCa gLen (faCons (fVar 4) faNil)) (m := (B.length : Int)) hb1 (by omega) (by omega) 0 rfl (fCa_at (o := gLen) (h := faCons (fVar 4) faNil) rfl gl)
    obtain ⟨m, hm⟩ : ∃ m : Nat, (1 : Int) + s = (m : Int) := ⟨(1 + s).toNat, by omega⟩
    have hm1 : 1 ≤ m := by omega
    have hm2 : m ≤ B.length := by omega
    let R : List En := [.cel xs2, M, .dat T, N, .dat (nmD B), .dat (.int (m : Int)), x6, x7, x8]
    have a2 := asg_at (P := 2) (i := 5) (ρ2 := R) (f2_at (o := gAdd) (fa := fC (.int 1)) rfl e2 (z := .int (m : Int)) (by show some (PyData.int (1 + s)) = _; rw [hm])) rfl
    have s1 := slT_at (fe := fVar 4) (fl := foSome (fVar 5)) (fh := foNone) (lo := some (m : Int)) (hi := none) (ρ := R) (ρ1 := R) (xs := B.map PyData.int) rfl rfl rfl
    rw [nm_from B m hm2] at s1
    have s2 := slT_at (fe := fVar 4) (fl := foNone) (fh := foSome (fVar 5)) (lo := none) (hi := some (m : Int)) (ρ := R) (ρ1 := R) (xs := B.map PyData.int) rfl rfl rfl
    rw [nm_to B m hm2] at s2
    have fin := over_fin (n := n) (m := m) (B := B) (r := r) (ft := fVar 2) (fs := fVar 0) (ρ := R) (tup2 (f := fTup faNil) (d := nmD []) (ρ := R) rfl (cat2 (x := (n : Int)) (fx := fVar 3) rfl s1 (by rw [List.length_drop]; omega))) (tup2 (ρ := R) (f := fTup (faCons (fVar 3) faNil)) (d := nmD [(n : Int)]) rfl s2) rfl hrl
    have a3 := asg_at (P := 2) (i := 2) (ρ2 := [.cel xs2, M, .dat (tD (over n m (([], B) :: r))), N, .dat (nmD B), .dat (.int (m : Int)), x6, x7, x8]) fin rfl
    exact ⟨_, _, _, _, _, _, _, (if_t t1).trans ((seq_nx a1).trans ((seq_nx a2).trans a3)), tch_over h rfl hm1 hm2, mem_over hm1 hm2, hb2⟩
  · rw [decide_eq_false hw] at t1
    let S := steps (([], B) :: r) (([], B) :: r : List Ln).length 0
    let RM : PyData := .list (S.map fun s => PyData.int (s.2 : Int))
    have hS := steps_ne h
    have hSl : S.length ≤ n + 1 := Nat.le_trans (steps_len _ _) h.few
    have a1 := asg_at (P := 2) (i := 6) (ρ2 := [.cel xs1, M, .dat T, N, x4, x5, .dat RM, x7, x8]) (call_at (F := F_law_left_lines) (fe := fVar 2) (ρ := [.cel xs1, M, .dat T, N, x4, x5, x6, x7, x8]) rfl (left_ok h (by omega))) rfl
    have gl : gLen [RM] = some (.int (S.length : Int)) := by show some (PyData.int ((S.map fun s => PyData.int (s.2 : Int)).length : Int)) = _; rw [List.length_map]
    obtain ⟨s, xs2, e2, hb2, s0, s2⟩ := takeC (ρ := [.cel xs1, M, .dat T, N, x4, x5, .dat RM, x7, x8]) (ρ2 := []) (fb := fCa gLen (faCons (fVar 6) faNil)) (m := (S.length : Int)) hb1 (by have : 0 < S.length := hS; omega) (by omega) 0 rfl (fCa_at (o := gLen) (h := faCons (fVar 6) faNil) rfl gl)
    obtain ⟨m, hm⟩ : ∃ m : Nat, s = (m : Int) := ⟨s.toNat, by omega⟩
    subst hm
    have hm2 : m < S.length := by omega
    have es : S[m]? = some S[m] := List.getElem?_eq_getElem hm2
    obtain ⟨k1, k2⟩ := steps_bd h (x := S[m].1) (q := S[m].2) es
    generalize S[m] = sk at es k1 k2
    obtain ⟨x, k⟩ := sk
    dsimp only at k1 k2
    have a2 := asg_at (P := 2) (i := 7) (ρ2 := [.cel xs2, M, .dat T, N, x4, x5, .dat RM, .dat (.int (k : Int)), x8]) (f2_at (o := gIx) (fa := fVar 6) (ρ := [.cel xs1, M, .dat T, N, x4, x5, .dat RM, x7, x8]) (x := RM) rfl e2 (z := .int (k : Int)) (atI_nat (by rw [List.getElem?_map, es]; rfl))) rfl
    have a3 : fAsg 2 8 (fCaN gListOf (faCons (fVar 2) faNil)) [.cel xs2, M, .dat T, N, x4, x5, .dat RM, .dat (.int (k : Int)), x8] = some (.nx [.cel xs2, M, .dat T, N, x4, x5, .dat RM, .dat (.int (k : Int)), .cel ((([], B) :: r).map TC.lnD)]) := rfl
    have a4 := rows_ok (P := 2) h (by omega) (j := 8) (fk := fVar 7) (fnew := fVar 3) (ρ := [.cel xs2, M, .dat T, N, x4, x5, .dat RM, .dat (.int (k : Int)), .cel ((([], B) :: r).map TC.lnD)]) (show 1 ≤ k by omega) (List.getElem?_eq_getElem k2) rfl (fun _ => rfl) (fun _ => rfl) (fAsg 2 2 (fCa gTupleOf (faCons (fFrzS 2 8) faNil)))
    have a5 : fAsg 2 2 (fCa gTupleOf (faCons (fFrzS 2 8) faNil)) [.cel xs2, M, .dat T, N, x4, x5, .dat RM, .dat (.int (k : Int)), .cel ((beside n k (([], B) :: r)).map TC.lnD)] = some (.nx [.cel xs2, M, .dat (tD (beside n k (([], B) :: r))), N, x4, x5, .dat RM, .dat (.int (k : Int)), .dat (.list ((beside n k (([], B) :: r)).map TC.lnD))]) := rfl
    exact ⟨_, _, _, _, _, _, _, (if_f t1).trans ((seq_nx a1).trans ((seq_nx a2).trans ((seq_nx a3).trans (a4.trans a5)))), tch_beside h (by omega) k2, mem_beside es, hb2⟩
theorem pushed_for {M : En} : ∀ (m : Nat) {t : List Ln} {n : Nat} {xs : List PyData} {x3 x4 x5 x6 x7 x8 : En}, Tch t n → t ∈ LV n → 1 ≤ n → n + m < 300 → BagOk xs → ∃ (t' : List Ln) (ys : List PyData) (y3 y4 y5 y6 y7 y8 : En), fForGo (fgName 2 3) pB (rng (n : Int) m) [.cel xs, M, .dat (tD t), x3, x4, x5, x6, x7, x8] = some (.nx [.cel ys, M, .dat (tD t'), y3, y4, y5, y6, y7, y8]) ∧ Tch t' (n + m) ∧ t' ∈ LV (n + m) ∧ BagOk ys
  | 0, t, n, xs, x3, x4, x5, x6, x7, x8, h, hL, _, _, hb => ⟨t, xs, x3, x4, x5, x6, x7, x8, rfl, h, hL, hb⟩
  | m + 1, t, n, xs, x3, x4, x5, x6, x7, x8, h, hL, hn1, hm, hb => by
    obtain ⟨t1, ys, y4, y5, y6, y7, y8, e, h1, hp1, hb1⟩ := pB_at (M := M) (x4 := x4) (x5 := x5) (x6 := x6) (x7 := x7) (x8 := x8) h (by omega) hb
    have hL1 : t1 ∈ LV (n + 1) := by rw [LV_succ hn1]; exact List.mem_flatMap.mpr ⟨t, hL, hp1⟩
    obtain ⟨t', zs, z3, z4, z5, z6, z7, z8, e', h', hL', hb'⟩ := pushed_for m (M := M) (x3 := .dat (.int (n : Int))) (x4 := y4) (x5 := y5) (x6 := y6) (x7 := y7) (x8 := y8) h1 hL1 (by omega) (by omega) hb1
    refine ⟨t', zs, z3, z4, z5, z6, z7, z8, ?_, by rw [show n + (m + 1) = n + 1 + m by omega]; exact h', by rw [show n + (m + 1) = n + 1 + m by omega]; exact hL', hb'⟩
    rw [rng_succ, show (n : Int) + 1 = ((n + 1 : Nat) : Int) by omega]
    exact (forGo_nx (gg := fgName 2 3) (x := .int (n : Int)) (ρ := [.cel xs, M, .dat (tD t), x3, x4, x5, x6, x7, x8]) rfl e).trans e'
theorem pushed_ok {k : Nat} {xs : List PyData} (h1 : 1 ≤ k) (h2 : k < 200) (hb : BagOk xs) : ∃ (t : List Ln) (ys : List PyData) (e : En), F_law_pushed [.cel xs, .dat (.int (k : Int))] = some (.dat (tD t), [.cel ys, e]) ∧ Tch t k ∧ t ∈ LV k ∧ BagOk ys := by
  let M : En := .dat (.int (k : Int))
  obtain ⟨t, ys, y3, y4, y5, y6, y7, y8, e, h, hL, hb'⟩ := pushed_for (k - 1) (M := M) (x3 := .un) (x4 := .un) (x5 := .un) (x6 := .un) (x7 := .un) (x8 := .un) tch_one (List.mem_singleton.mpr rfl) (Nat.le_refl 1) (show 1 + (k - 1) < 300 by omega) hb
  have a1 : fAsg 2 2 (fTup (faCons (fTup (faCons (fTup faNil) (faCons (fTup (faCons (fC (.int 0)) faNil)) faNil))) (faCons (fTup (faCons (fTup (faCons (fC (.int 0)) faNil)) (faCons (fTup faNil) faNil))) faNil))) [.cel xs, M, .un, .un, .un, .un, .un, .un, .un] = some (.nx [.cel xs, M, .dat (tD one), .un, .un, .un, .un, .un, .un]) := rfl
  have i1 := fiR2_at (a := 1) (c := (k : Int)) (h := faCons (fC (.int 1)) (faCons (fVar 1) faNil)) (ρ := [.cel xs, M, .dat (tD one), .un, .un, .un, .un, .un, .un]) (ρ1 := [.cel xs, M, .dat (tD one), .un, .un, .un, .un, .un, .un]) rfl (small62_nat (by omega)) rfl
  rw [show ((k : Int) - 1).toNat = k - 1 by omega] at i1
  refine ⟨t, ys, .un, ?_, by rw [show 1 + (k - 1) = k by omega] at h; exact h, by rw [show 1 + (k - 1) = k by omega] at hL; exact hL, hb'⟩
  exact fFun_at (np := 2) (k := 7) (ρ := [.cel xs, M]) ((seq_nx a1).trans ((seq_nx (t := fRet (fVar 2)) ((for_at i1).trans e)).trans rfl))
end K21


set_option Elab.async false
set_option linter.all false
set_option maxRecDepth 100000
set_option maxHeartbeats 4000000
namespace K21
open PySem L2 DL LW TC LX
/-! ### the law's loop, piece by piece -/
def formD (d : PyData) : Option NK.TK := match F_law_form [.dat d] with
  | some (.dat e, [.un]) => tkOf e
  | _ => none
theorem formD_at {d : PyData} {k : NK.TK} (h : formD d = some k) : F_law_form [.dat d] = some (.dat (tkD k), [.un]) := by
  unfold formD at h
  split at h
  · rename_i e he
    rw [he, tkOf_is h]
  · cases h
def mirD (d : PyData) : Option PyData := match F_law_mirror [.dat d] with
  | some (.dat e, [.un]) => some e
  | _ => none
theorem mirD_at {d e : PyData} (h : mirD d = some e) : F_law_mirror [.dat d] = some (.dat e, [.un]) := by
  unfold mirD at h
  split at h
  · rename_i e' he
    cases h
    exact he
  · cases h
def fFill : FOg := fgSeq (fgPutT 6 (fCall 1 F_law_form (fVar 7) faNil)) fgNext
section
variable {a0 a1 a2 a3 a4 a5 x6 x8 x9 x10 x11 x12 : En}
theorem fill1 {t : List Ln} {k : NK.TK} {ks : List NK.TK} (h : formD (TC.tD t) = some k) (hn : k ∉ ks) (hl : ks.length < 100000) : fFill [a0, a1, a2, a3, a4, a5, x6, .dat (TC.tD t), x8, x9, x10, x11, x12] [(6, .dit ks)] = some (.nx [a0, a1, a2, a3, a4, a5, x6, .dat (TC.tD t), x8, x9, x10, x11, x12] [(6, .dit (ks ++ [k]))]) := by
  have c := call_at (F := F_law_form) (fe := fVar 7) (ρ := [a0, a1, a2, a3, a4, a5, x6, .dat (TC.tD t), x8, x9, x10, x11, x12]) rfl (formD_at h)
  unfold fFill fgSeq fgPutT
  simp only [c, tkOf_tkD]
  have hc : ks.contains k = false := by simpa using hn
  simp only [hc, decide_eq_true hl, decide_true, Bool.not_false, Bool.and_self, if_true]
  rfl
theorem fill : ∀ (ts : List (List Ln)) (ks ks0 : List NK.TK) (x7 : En), (ts.map fun t => formD (TC.tD t)) = ks.map some → (ks0 ++ ks).Nodup → ks0.length + ks.length < 100000 → ∃ y7, fgForGo 1 7 fFill (ts.map TC.tD) [a0, a1, a2, a3, a4, a5, x6, x7, x8, x9, x10, x11, x12] [(6, .dit ks0)] = some (.nx [a0, a1, a2, a3, a4, a5, x6, y7, x8, x9, x10, x11, x12] [(6, .dit (ks0 ++ ks))])
  | [], ks, ks0, x7, h, _, _ => by
    cases ks with
    | nil => exact ⟨x7, by rw [List.append_nil]; rfl⟩
    | cons _ _ => cases h
  | t :: ts, ks, ks0, x7, h, hn, hl => by
    cases ks with
    | nil => cases h
    | cons k ks =>
      rw [List.map_cons, List.map_cons] at h
      injection h with h1 h2
      have hk : k ∉ ks0 := fun z => by
        rw [List.nodup_append] at hn
        exact hn.2.2 k z k List.mem_cons_self rfl
      rw [List.length_cons] at hl
      obtain ⟨y7, e⟩ := fill ts ks (ks0 ++ [k]) (.dat (TC.tD t)) h2 (by rw [List.append_assoc]; exact hn) (by rw [List.length_append, List.length_singleton]; omega)
      rw [List.append_assoc] at e
      refine ⟨y7, ?_⟩
      have b := fill1 (a0 := a0) (a1 := a1) (a2 := a2) (a3 := a3) (a4 := a4) (a5 := a5) (x6 := x6) (x8 := x8) (x9 := x9) (x10 := x10) (x11 := x11) (x12 := x12) h1 hk (by omega)
      rw [List.map_cons]
      show (match fFill [a0, a1, a2, a3, a4, a5, x6, .dat (TC.tD t), x8, x9, x10, x11, x12] [(6, .dit ks0)] with
        | some (.nx ρ2 S2) => fgForGo 1 7 fFill (ts.map TC.tD) ρ2 S2
        | some (.rt r ρ2) => some (.rt r ρ2)
        | none => none) = _
      rw [b]
      exact e
end
end K21


set_option Elab.async false
set_option linter.all false
set_option maxRecDepth 100000
set_option maxHeartbeats 4000000
namespace K21
open PySem L2 DL LW TC
/-! ### all further touchings -/
def fuA : FS := fAsg 1 10 (fCa gLen (faCons (f2 gIx (f2 gIx (fVar 7) (fC (.int 0))) (fC (.int 1))) faNil))
def fuO : FE := fLc [12] (fiR1 (faCons (fVar 10) faNil)) (fgName 1 12) fYes (fCall 2 F_push_over (fVar 7) (faCons (f2 gAdd (fVar 12) (fC (.int 1))) faNil))
def fuB : FE := fLc [12] (fiR1 (faCons (fCa gLen (faCons (fCall 1 F_law_left_lines (fVar 7) faNil) faNil)) faNil)) (fgName 1 12) fYes (fCall 2 F_push_beside (fVar 7) (faCons (f2 gAdd (fVar 12) (fC (.int 1))) faNil))
def fuS : FS := fSeq fuA (fSeq (fAsg 1 9 (f2 gCat (fVar 9) (fFrz fuO))) (fAsg 1 9 (f2 gCat (fVar 9) (fFrz fuB))))
theorem rng0 (m : Nat) : rng 0 m = (List.range m).map fun (k : Nat) => PyData.int (k : Int) := by
  unfold rng
  refine List.map_congr_left fun k _ => ?_
  rw [Int.zero_add]
section
variable {a0 a1 a2 a3 a4 a5 x6 x8 x10 x11 : En}
theorem fuO_at {n : Nat} {B : List Int} {r : List Ln} {x9 : En} (h : Tch (([], B) :: r) n) (hn : n < 300) : fuO [a0, a1, a2, a3, a4, a5, x6, .dat (TC.tD (([], B) :: r)), x8, x9, .dat (.int (B.length : Int)), x11, .un] = some (.new ((List.range B.length).map fun m => TC.tD (over n (m + 1) (([], B) :: r))), [a0, a1, a2, a3, a4, a5, x6, .dat (TC.tD (([], B) :: r)), x8, x9, .dat (.int (B.length : Int)), x11, .un]) := by
  have hB := B_len h
  refine lc_map (fun (k : Nat) => PyData.int (k : Int)) (fun m => TC.tD (over n (m + 1) (([], B) :: r))) (List.range B.length) ?_ rfl rfl (by rw [List.length_range]; omega) ?_
  · rw [← rng0]
    have := LX.fiR1_at (a := (B.length : Int)) (h := faCons (fVar 10) faNil) (ρ := [a0, a1, a2, a3, a4, a5, x6, .dat (TC.tD (([], B) :: r)), x8, x9, .dat (.int (B.length : Int)), x11, .un]) (LX.small62_nat (by omega)) rfl
    rw [Int.toNat_natCast] at this
    exact this
  · intro m hm
    have hm := List.mem_range.mp hm
    refine ⟨[a0, a1, a2, a3, a4, a5, x6, .dat (TC.tD (([], B) :: r)), x8, x9, .dat (.int (B.length : Int)), x11, .dat (.int (m : Int))], rfl, rfl, ?_, rfl, rfl⟩
    exact LX.call2 (fe := fVar 7) (fb := f2 gAdd (fVar 12) (fC (.int 1))) (b := .int ((m + 1 : Nat) : Int)) rfl rfl (over_ok h (by omega) (by omega) (by omega))
theorem fuB_at {n : Nat} {B : List Int} {r : List Ln} {x9 : En} (h : Tch (([], B) :: r) n) (hn : n < 300) : fuB [a0, a1, a2, a3, a4, a5, x6, .dat (TC.tD (([], B) :: r)), x8, x9, x10, x11, .un] = some (.new ((steps (([], B) :: r) (([], B) :: r : List Ln).length 0).map fun s => TC.tD (beside n s.2 (([], B) :: r))), [a0, a1, a2, a3, a4, a5, x6, .dat (TC.tD (([], B) :: r)), x8, x9, x10, x11, .un]) := by
  let S := steps (([], B) :: r) (([], B) :: r : List Ln).length 0
  have hSl : S.length ≤ n + 1 := Nat.le_trans (steps_len _ _) h.few
  let R : List En := [a0, a1, a2, a3, a4, a5, x6, .dat (TC.tD (([], B) :: r)), x8, x9, x10, x11, .un]
  have c := LX.call_at (F := F_law_left_lines) (fe := fVar 7) (ρ := R) rfl (left_ok h (by omega))
  have gl : gLen [.list (S.map fun s => PyData.int (s.2 : Int))] = some (.int (S.length : Int)) := by show some (PyData.int ((S.map fun s => PyData.int (s.2 : Int)).length : Int)) = _; rw [List.length_map]
  have e : S.map (fun s => TC.tD (beside n s.2 (([], B) :: r))) = (List.range S.length).map fun m => (match S[m]? with
    | some s => TC.tD (beside n s.2 (([], B) :: r))
    | none => .none) := by
    refine List.ext_getElem? fun i => ?_
    rw [List.getElem?_map, List.getElem?_map]
    by_cases hi : i < S.length
    · rw [List.getElem?_range hi]
      cases hs : S[i]? with
      | none => rw [List.getElem?_eq_getElem hi] at hs; cases hs
      | some s => simp [hs]
    · rw [List.getElem?_eq_none (by omega), List.getElem?_eq_none (by rw [List.length_range]; omega)]; rfl
  rw [e]
  refine lc_map (fun (k : Nat) => PyData.int (k : Int)) _ (List.range S.length) ?_ rfl rfl (by rw [List.length_range]; omega) ?_
  · rw [← rng0]
    have := LX.fiR1_at (a := (S.length : Int)) (h := faCons (fCa gLen (faCons (fCall 1 F_law_left_lines (fVar 7) faNil) faNil)) faNil) (ρ := R) (ρ1 := R) (LX.small62_nat (by omega)) (LX.fa1 (LX.fCa_at (o := gLen) (LX.fa1 c) gl))
    rw [Int.toNat_natCast] at this
    exact this
  · intro m hm
    have hm := List.mem_range.mp hm
    have es : S[m]? = some S[m] := List.getElem?_eq_getElem hm
    obtain ⟨k1, k2⟩ := steps_bd h (x := S[m].1) (q := S[m].2) es
    refine ⟨[a0, a1, a2, a3, a4, a5, x6, .dat (TC.tD (([], B) :: r)), x8, x9, x10, x11, .dat (.int (m : Int))], rfl, rfl, ?_, rfl, rfl⟩
    rw [es]
    exact LX.call2 (fe := fVar 7) (fb := f2 gAdd (fVar 12) (fC (.int 1))) (b := .int ((m + 1 : Nat) : Int)) rfl rfl (beside_ok (m := m + 1) h (by omega) (by omega) (x := S[m].1) (by rw [Nat.add_sub_cancel]; exact es) (by omega) k2)
theorem fuS_at {n : Nat} {t : List Ln} {acc : List (List Ln)} (h : Tch t n) (hn : n < 300) (hl : acc.length + (pushes n t).length ≤ 100000) : ∃ y10, fuS [a0, a1, a2, a3, a4, a5, x6, .dat (TC.tD t), x8, .dat (.list (acc.map TC.tD)), x10, x11, .un] = some (.nx [a0, a1, a2, a3, a4, a5, x6, .dat (TC.tD t), x8, .dat (.list ((acc ++ pushes n t).map TC.tD)), y10, x11, .un]) := by
  obtain ⟨B, r, rfl, hB, hr⟩ := h.head
  let T : En := .dat (TC.tD (([], B) :: r))
  have gl : gLen [nmD B] = some (.int (B.length : Int)) := by show some (PyData.int ((B.map PyData.int).length : Int)) = _; rw [List.length_map]
  have hp : (pushes n (([], B) :: r)) = ((List.range B.length).map fun m => over n (m + 1) (([], B) :: r)) ++ (steps (([], B) :: r) (([], B) :: r : List Ln).length 0).map fun s => beside n s.2 (([], B) :: r) := rfl
  rw [hp, List.length_append] at hl
  have a := LX.asg_at (P := 1) (i := 10) (ρ := [a0, a1, a2, a3, a4, a5, x6, T, x8, .dat (.list (acc.map TC.tD)), x10, x11, .un]) (ρ2 := [a0, a1, a2, a3, a4, a5, x6, T, x8, .dat (.list (acc.map TC.tD)), .dat (.int (B.length : Int)), x11, .un]) (LX.fCa_at (o := gLen) (LX.fa1 (first_at (l := ([], B)) (r := r) (fe := fVar 7) rfl)) gl) rfl
  let O := (List.range B.length).map fun m => over n (m + 1) (([], B) :: r)
  let Z := (steps (([], B) :: r) (([], B) :: r : List Ln).length 0).map fun s => beside n s.2 (([], B) :: r)
  have hl : acc.length + (O.length + Z.length) ≤ 100000 := hl
  have g1 : gCat (.list (acc.map TC.tD)) (.list (O.map TC.tD)) = some (.list ((acc ++ O).map TC.tD)) := by
    show (if (acc.map TC.tD).length + (O.map TC.tD).length ≤ 100000 then some (PyData.list (acc.map TC.tD ++ O.map TC.tD)) else none) = _
    rw [if_pos (by rw [List.length_map, List.length_map]; omega), List.map_append]
  have g2 : gCat (.list ((acc ++ O).map TC.tD)) (.list (Z.map TC.tD)) = some (.list ((acc ++ (O ++ Z)).map TC.tD)) := by
    show (if ((acc ++ O).map TC.tD).length + (Z.map TC.tD).length ≤ 100000 then some (PyData.list ((acc ++ O).map TC.tD ++ Z.map TC.tD)) else none) = _
    rw [if_pos (by rw [List.length_map, List.length_map, List.length_append]; omega), ← List.append_assoc, List.map_append (l₁ := acc ++ O)]
  have eO : (List.range B.length).map (fun m => TC.tD (over n (m + 1) (([], B) :: r))) = O.map TC.tD := by
    show _ = List.map TC.tD (List.map _ _)
    rw [List.map_map]; rfl
  have eZ : (steps (([], B) :: r) (([], B) :: r : List Ln).length 0).map (fun s => TC.tD (beside n s.2 (([], B) :: r))) = Z.map TC.tD := by
    show _ = List.map TC.tD (List.map _ _)
    rw [List.map_map]; rfl
  have b1 := LX.frz_at (fuO_at (a0 := a0) (a1 := a1) (a2 := a2) (a3 := a3) (a4 := a4) (a5 := a5) (x6 := x6) (x8 := x8) (x11 := x11) (x9 := .dat (.list (acc.map TC.tD))) h hn)
  rw [eO] at b1
  have b := LX.asg_at (P := 1) (i := 9) (ρ2 := [a0, a1, a2, a3, a4, a5, x6, T, x8, .dat (.list ((acc ++ O).map TC.tD)), .dat (.int (B.length : Int)), x11, .un]) (LX.f2_at (o := gCat) (fa := fVar 9) (ρ := [a0, a1, a2, a3, a4, a5, x6, T, x8, .dat (.list (acc.map TC.tD)), .dat (.int (B.length : Int)), x11, .un]) (x := .list (acc.map TC.tD)) rfl b1 g1) rfl
  have c1 := LX.frz_at (fuB_at (a0 := a0) (a1 := a1) (a2 := a2) (a3 := a3) (a4 := a4) (a5 := a5) (x6 := x6) (x8 := x8) (x11 := x11) (x10 := .dat (.int (B.length : Int))) (x9 := .dat (.list ((acc ++ O).map TC.tD))) h hn)
  rw [eZ] at c1
  have c := LX.asg_at (P := 1) (i := 9) (ρ2 := [a0, a1, a2, a3, a4, a5, x6, T, x8, .dat (.list ((acc ++ (O ++ Z)).map TC.tD)), .dat (.int (B.length : Int)), x11, .un]) (LX.f2_at (o := gCat) (fa := fVar 9) (ρ := [a0, a1, a2, a3, a4, a5, x6, T, x8, .dat (.list ((acc ++ O).map TC.tD)), .dat (.int (B.length : Int)), x11, .un]) (x := .list ((acc ++ O).map TC.tD)) rfl c1 g2) rfl
  exact ⟨_, (LX.seq_nx a).trans ((LX.seq_nx b).trans c)⟩
end
end K21


set_option Elab.async false
set_option linter.all false
set_option maxRecDepth 100000
set_option maxHeartbeats 4000000
namespace K21
open PySem L2 DL LW TC
theorem pushes_tch {t u : List Ln} {n : Nat} (h : Tch t n) (hu : u ∈ pushes n t) : Tch u (n + 1) := by
  obtain ⟨B, r, rfl, hB, hr⟩ := h.head
  rcases List.mem_append.mp hu with z | z
  · obtain ⟨m, hm, rfl⟩ := List.mem_map.mp z
    have hm := List.mem_range.mp hm
    exact tch_over h rfl (by omega) hm
  · obtain ⟨s, hs, rfl⟩ := List.mem_map.mp z
    obtain ⟨m, hm⟩ := List.getElem?_of_mem hs
    obtain ⟨k1, k2⟩ := steps_bd h (x := s.1) (q := s.2) hm
    exact tch_beside h (by omega) k2
theorem LV_tch : ∀ {n : Nat}, 1 ≤ n → ∀ t ∈ LV n, Tch t n
  | 0, h, _, _ => absurd h (by omega)
  | 1, _, t, ht => by rw [List.mem_singleton.mp ht]; exact tch_one
  | n + 2, _, t, ht => by
    obtain ⟨u, hu, ht⟩ := List.mem_flatMap.mp (show t ∈ (LV (n + 1)).flatMap (pushes (n + 1)) from ht)
    exact pushes_tch (LV_tch (by omega) u hu) ht
section
variable {a0 a1 a2 a3 a4 a5 x6 x8 x11 : En}
theorem furL {n : Nat} (hn : n < 300) : ∀ (ts acc : List (List Ln)) (x7 x10 : En), (∀ t ∈ ts, Tch t n) → acc.length + (ts.flatMap (pushes n)).length ≤ 100000 → ∃ y7 y10, fForGo (fgName 1 7) fuS (ts.map TC.tD) [a0, a1, a2, a3, a4, a5, x6, x7, x8, .dat (.list (acc.map TC.tD)), x10, x11, .un] = some (.nx [a0, a1, a2, a3, a4, a5, x6, y7, x8, .dat (.list ((acc ++ ts.flatMap (pushes n)).map TC.tD)), y10, x11, .un])
  | [], acc, x7, x10, _, _ => ⟨x7, x10, by rw [List.flatMap_nil, List.append_nil]; rfl⟩
  | t :: ts, acc, x7, x10, h, hl => by
    rw [List.flatMap_cons, List.length_append] at hl
    obtain ⟨y10, e⟩ := fuS_at (a0 := a0) (a1 := a1) (a2 := a2) (a3 := a3) (a4 := a4) (a5 := a5) (x6 := x6) (x8 := x8) (x10 := x10) (x11 := x11) (acc := acc) (h t List.mem_cons_self) hn (by omega)
    obtain ⟨z7, z10, e'⟩ := furL hn ts (acc ++ pushes n t) (.dat (TC.tD t)) y10 (fun u hu => h u (List.mem_cons_of_mem _ hu)) (by rw [List.length_append]; omega)
    refine ⟨z7, z10, ?_⟩
    rw [List.flatMap_cons, ← List.append_assoc, ← e', List.map_cons]
    exact LX.forGo_nx (gg := fgName 1 7) (x := TC.tD t) rfl e
/-! ### a drawn one is among them -/
def fgD : FS := fIfS (fB (f2 gNiN (fCall 1 F_law_form (fCall 2 F_law_pushed (fVar 1) (faCons (fVar 5) faNil)) faNil) (fVar 6))) (fRet (fC (.bool false))) fNext
theorem niN_in {k : NK.TK} {ks : List NK.TK} (h : k ∈ ks) : gNiN (tkD k) (dn ks) = some (.bool false) := by
  unfold gNiN dn
  simp only [tkOf_tkD]
  rw [any_tk, show ks.contains k = true from by simpa using h]
  rfl
end
end K21


set_option Elab.async false
set_option linter.all false
set_option maxRecDepth 100000
set_option maxHeartbeats 4000000
namespace K21
open PySem L2 DL LW TC
theorem join {α β : Type} {f : α → Option β} {xs : List α} {ys : List β} (c m : Nat) (h0 : 0 < c) (hl : xs.length = ys.length) (hc : xs.length ≤ c * m) (h : ∀ i < m, ((xs.drop (c * i)).take c).map f = ((ys.drop (c * i)).take c).map some) : xs.map f = ys.map some := by
  refine List.ext_getElem? fun j => ?_
  by_cases hj : j < xs.length
  · have hi : j / c < m := Nat.div_lt_of_lt_mul (Nat.lt_of_lt_of_le hj hc)
    have e := congrArg (fun l => l[j % c]?) (h (j / c) hi)
    have hr := Nat.mod_lt j h0
    simp only [List.getElem?_map, List.getElem?_take, List.getElem?_drop, if_pos hr, Nat.div_add_mod] at e
    rw [List.getElem?_map, List.getElem?_map]
    exact e
  · rw [List.getElem?_eq_none (by rw [List.length_map]; omega), List.getElem?_eq_none (by rw [List.length_map]; omega)]
theorem joinA {α : Type} {p : α → Bool} {xs : List α} (c m : Nat) (h0 : 0 < c) (hc : xs.length ≤ c * m) (h : ∀ i < m, ((xs.drop (c * i)).take c).all p = true) : ∀ x ∈ xs, p x = true := by
  intro x hx
  obtain ⟨j, hj⟩ := List.getElem?_of_mem hx
  have hjl := (List.getElem?_eq_some_iff.mp hj).1
  have hi : j / c < m := Nat.div_lt_of_lt_mul (Nat.lt_of_lt_of_le hjl hc)
  refine List.all_eq_true.mp (h (j / c) hi) x (List.mem_of_getElem? (i := j % c) ?_)
  rw [List.getElem?_take, if_pos (Nat.mod_lt j h0), List.getElem?_drop, Nat.div_add_mod]
  exact hj
def nodB : List NK.TK → Bool
  | [] => true
  | k :: r => !r.contains k && nodB r
theorem nodB_ok : ∀ {l : List NK.TK}, nodB l = true → l.Nodup
  | [], _ => List.nodup_nil
  | k :: r, h => by
    unfold nodB at h
    rw [Bool.and_eq_true] at h
    refine List.nodup_cons.mpr ⟨fun z => ?_, nodB_ok h.2⟩
    rw [show r.contains k = true from by simpa using z] at h
    cases h.1
def mirB (ks : List NK.TK) (k : NK.TK) : Bool := match mirD (tkD k) with
  | some e => (match formD e with
    | some k' => ks.contains k'
    | none => false)
  | none => false
theorem mirB_at {ks : List NK.TK} {k : NK.TK} (h : mirB ks k = true) : ∃ e k', mirD (tkD k) = some e ∧ formD e = some k' ∧ k' ∈ ks := by
  unfold mirB at h
  split at h
  · rename_i e he
    split at h
    · rename_i k' hk
      exact ⟨e, k', he, hk, by simpa using h⟩
    · cases h
  · cases h
def FL1 : List NK.TK := [[[[], [0]], [[0], []]]]
theorem len1 : (LV 1).length = 1 := by decide +kernel
theorem lenF1 : FL1.length = 1 := by decide +kernel
theorem nod1 : nodB FL1 = true := by decide +kernel
theorem c1_0 : (((LV 1).drop (20 * 0)).take 20).map (fun t => formD (TC.tD t)) = ((FL1.drop (20 * 0)).take 20).map some := by decide +kernel
theorem m1_0 : ((FL1.drop (20 * 0)).take 20).all (mirB FL1) = true := by decide +kernel
theorem forms1 : (LV 1).map (fun t => formD (TC.tD t)) = FL1.map some := join 20 1 (by decide) (by rw [len1, lenF1]) (by rw [len1]; decide) fun i hi => by
  match i, hi with
  | 0, _ => exact c1_0
  | k + 1, h => omega
theorem mirs1 : ∀ k ∈ FL1, mirB FL1 k = true := joinA 20 1 (by decide) (by rw [lenF1]; decide) fun i hi => by
  match i, hi with
  | 0, _ => exact m1_0
  | k + 1, h => omega
def FL2 : List NK.TK := [[[[], [0]], [[0], [1]], [[1], []]], [[[], [0, 1]], [[0, 1], []]]]
theorem len2 : (LV 2).length = 2 := by decide +kernel
theorem lenF2 : FL2.length = 2 := by decide +kernel
theorem nod2 : nodB FL2 = true := by decide +kernel
theorem c2_0 : (((LV 2).drop (20 * 0)).take 20).map (fun t => formD (TC.tD t)) = ((FL2.drop (20 * 0)).take 20).map some := by decide +kernel
theorem m2_0 : ((FL2.drop (20 * 0)).take 20).all (mirB FL2) = true := by decide +kernel
theorem forms2 : (LV 2).map (fun t => formD (TC.tD t)) = FL2.map some := join 20 1 (by decide) (by rw [len2, lenF2]) (by rw [len2]; decide) fun i hi => by
  match i, hi with
  | 0, _ => exact c2_0
  | k + 1, h => omega
theorem mirs2 : ∀ k ∈ FL2, mirB FL2 k = true := joinA 20 1 (by decide) (by rw [lenF2]; decide) fun i hi => by
  match i, hi with
  | 0, _ => exact m2_0
  | k + 1, h => omega
def FL3 : List NK.TK := [[[[], [0]], [[0], [1]], [[1], [2]], [[2], []]], [[[], [0, 1]], [[0, 1], [2]], [[2], []]], [[[], [0, 1]], [[0, 2], []], [[1], [2]]], [[[], [0, 1]], [[0], [2]], [[2, 1], []]], [[[], [0]], [[0], [1, 2]], [[1, 2], []]], [[[], [0, 1, 2]], [[0, 1, 2], []]]]
theorem len3 : (LV 3).length = 6 := by decide +kernel
theorem lenF3 : FL3.length = 6 := by decide +kernel
theorem nod3 : nodB FL3 = true := by decide +kernel
theorem c3_0 : (((LV 3).drop (20 * 0)).take 20).map (fun t => formD (TC.tD t)) = ((FL3.drop (20 * 0)).take 20).map some := by decide +kernel
theorem m3_0 : ((FL3.drop (20 * 0)).take 20).all (mirB FL3) = true := by decide +kernel
theorem forms3 : (LV 3).map (fun t => formD (TC.tD t)) = FL3.map some := join 20 1 (by decide) (by rw [len3, lenF3]) (by rw [len3]; decide) fun i hi => by
  match i, hi with
  | 0, _ => exact c3_0
  | k + 1, h => omega
theorem mirs3 : ∀ k ∈ FL3, mirB FL3 k = true := joinA 20 1 (by decide) (by rw [lenF3]; decide) fun i hi => by
  match i, hi with
  | 0, _ => exact m3_0
  | k + 1, h => omega
def FL4 : List NK.TK := [[[[], [0]], [[0], [1]], [[1], [2]], [[2], [3]], [[3], []]], [[[], [0, 1]], [[0, 1], [2]], [[2], [3]], [[3], []]], [[[], [0, 1]], [[0, 3], [2]], [[1], [3]], [[2], []]], [[[], [0, 1]], [[0, 3], []], [[1], [2]], [[2], [3]]], [[[], [0, 1]], [[0], [2]], [[2, 1], [3]], [[3], []]], [[[], [0]], [[0], [1, 2]], [[1, 2], [3]], [[3], []]], [[[], [0, 1, 2]], [[0, 1, 2], [3]], [[3], []]], [[[], [0, 1, 2]], [[0, 3], []], [[1, 2], [3]]], [[[], [0, 1]], [[0], [2]], [[1], [3]], [[2, 3], []]], [[[], [0]], [[0], [1, 2]], [[1, 3], []], [[2], [3]]], [[[], [0, 1, 2]], [[0, 1, 3], []], [[2], [3]]], [[[], [0, 1]], [[0], [2]], [[3, 1], []], [[2], [3]]], [[[], [0]], [[0], [1, 2]], [[1], [3]], [[3, 2], []]], [[[], [0, 1, 2]], [[0, 1], [3]], [[3, 2], []]], [[[], [0, 1, 2]], [[0, 3, 2], []], [[1], [3]]], [[[], [0]], [[0], [1]], [[1], [2, 3]], [[2, 3], []]], [[[], [0, 1]], [[0, 1], [2, 3]], [[2, 3], []]], [[[], [0, 1]], [[0, 2, 3], []], [[1], [2, 3]]], [[[], [0, 1, 2]], [[0], [3]], [[3, 1, 2], []]], [[[], [0, 1]], [[0], [2, 3]], [[2, 3, 1], []]], [[[], [0]], [[0], [1, 2, 3]], [[1, 2, 3], []]], [[[], [0, 1, 2, 3]], [[0, 1, 2, 3], []]]]
theorem len4 : (LV 4).length = 22 := by decide +kernel
theorem lenF4 : FL4.length = 22 := by decide +kernel
theorem nod4 : nodB FL4 = true := by decide +kernel
theorem c4_0 : (((LV 4).drop (20 * 0)).take 20).map (fun t => formD (TC.tD t)) = ((FL4.drop (20 * 0)).take 20).map some := by decide +kernel
theorem m4_0 : ((FL4.drop (20 * 0)).take 20).all (mirB FL4) = true := by decide +kernel
theorem c4_1 : (((LV 4).drop (20 * 1)).take 20).map (fun t => formD (TC.tD t)) = ((FL4.drop (20 * 1)).take 20).map some := by decide +kernel
theorem m4_1 : ((FL4.drop (20 * 1)).take 20).all (mirB FL4) = true := by decide +kernel
theorem forms4 : (LV 4).map (fun t => formD (TC.tD t)) = FL4.map some := join 20 2 (by decide) (by rw [len4, lenF4]) (by rw [len4]; decide) fun i hi => by
  match i, hi with
  | 0, _ => exact c4_0
  | 1, _ => exact c4_1
  | k + 2, h => omega
theorem mirs4 : ∀ k ∈ FL4, mirB FL4 k = true := joinA 20 2 (by decide) (by rw [lenF4]; decide) fun i hi => by
  match i, hi with
  | 0, _ => exact m4_0
  | 1, _ => exact m4_1
  | k + 2, h => omega
def FL5 : List NK.TK := [[[[], [0]], [[0], [1]], [[1], [2]], [[2], [3]], [[3], [4]], [[4], []]], [[[], [0, 1]], [[0, 1], [2]], [[2], [3]], [[3], [4]], [[4], []]], [[[], [0, 1]], [[0, 3], [2]], [[1], [3]], [[2], [4]], [[4], []]], [[[], [0, 1]], [[0, 4], [2]], [[1], [3]], [[2], []], [[3], [4]]], [[[], [0, 1]], [[0, 4], []], [[1], [2]], [[2], [3]], [[3], [4]]], [[[], [0, 1]], [[0], [2]], [[2, 1], [3]], [[3], [4]], [[4], []]], [[[], [0]], [[0], [1, 2]], [[1, 2], [3]], [[3], [4]], [[4], []]], [[[], [0, 1, 2]], [[0, 1, 2], [3]], [[3], [4]], [[4], []]], [[[], [0, 1, 2]], [[0, 4], [3]], [[1, 2], [4]], [[3], []]], [[[], [0, 1, 2]], [[0, 4], []], [[1, 2], [3]], [[3], [4]]], [[[], [0, 1]], [[0], [2]], [[1], [3]], [[2, 3], [4]], [[4], []]], [[[], [0]], [[0], [1, 2]], [[1, 4], [3]], [[2], [4]], [[3], []]], [[[], [0, 1, 2]], [[0, 1, 4], [3]], [[2], [4]], [[3], []]], [[[], [0, 1, 2]], [[0, 3], []], [[1, 4], [3]], [[2], [4]]], [[[], [0, 1]], [[0], [2]], [[1], [3]], [[2, 4], []], [[3], [4]]], [[[], [0]], [[0], [1, 2]], [[1, 4], []], [[2], [3]], [[3], [4]]], [[[], [0, 1, 2]], [[0, 1, 4], []], [[2], [3]], [[3], [4]]], [[[], [0, 1]], [[0], [2]], [[4, 1], [3]], [[2], [4]], [[3], []]], [[[], [0]], [[0], [1, 2]], [[1], [3]], [[3, 2], [4]], [[4], []]], [[[], [0, 1, 2]], [[0, 1], [3]], [[3, 2], [4]], [[4], []]], [[[], [0, 1, 2]], [[0, 4, 2], [3]], [[1], [4]], [[3], []]], [[[], [0, 1, 2]], [[0, 4], []], [[1], [3]], [[3, 2], [4]]], [[[], [0]], [[0], [1]], [[1], [2, 3]], [[2, 3], [4]], [[4], []]], [[[], [0, 1]], [[0, 1], [2, 3]], [[2, 3], [4]], [[4], []]], [[[], [0, 1]], [[0, 3, 4], [2]], [[1], [3, 4]], [[2], []]], [[[], [0, 1]], [[0, 4], []], [[1], [2, 3]], [[2, 3], [4]]], [[[], [0, 1, 2]], [[0], [3]], [[3, 1, 2], [4]], [[4], []]], [[[], [0, 1]], [[0], [2, 3]], [[2, 3, 1], [4]], [[4], []]], [[[], [0]], [[0], [1, 2, 3]], [[1, 2, 3], [4]], [[4], []]], [[[], [0, 1, 2, 3]], [[0, 1, 2, 3], [4]], [[4], []]], [[[], [0, 1, 2, 3]], [[0, 4], []], [[1, 2, 3], [4]]], [[[], [0, 1, 2]], [[0], [3]], [[1, 2], [4]], [[3, 4], []]], [[[], [0, 1]], [[0], [2, 3]], [[3, 1], [4]], [[2, 4], []]], [[[], [0]], [[0], [1, 2, 3]], [[1, 4], []], [[2, 3], [4]]], [[[], [0, 1, 2, 3]], [[0, 1, 4], []], [[2, 3], [4]]], [[[], [0, 1]], [[0], [2]], [[1], [3]], [[2], [4]], [[4, 3], []]], [[[], [0]], [[0], [1, 2]], [[1], [3]], [[2], [4]], [[3, 4], []]], [[[], [0, 1, 2]], [[0, 1], [3]], [[2], [4]], [[3, 4], []]], [[[], [0, 1, 2]], [[0, 3, 4], []], [[1], [3]], [[2], [4]]], [[[], [0]], [[0], [1]], [[1], [2, 3]], [[2, 4], []], [[3], [4]]], [[[], [0, 1]], [[0, 1], [2, 3]], [[2, 4], []], [[3], [4]]], [[[], [0, 1]], [[0, 2, 4], []], [[1], [2, 3]], [[3], [4]]], [[[], [0, 1, 2]], [[0], [3]], [[3, 1, 4], []], [[2], [4]]], [[[], [0, 1]], [[0], [2, 3]], [[1], [4]], [[2, 3, 4], []]], [[[], [0]], [[0], [1, 2, 3]], [[1, 2, 4], []], [[3], [4]]], [[[], [0, 1, 2, 3]], [[0, 1, 2, 4], []], [[3], [4]]], [[[], [0, 1]], [[0], [2]], [[4, 1], []], [[2], [3]], [[3], [4]]], [[[], [0]], [[0], [1, 2]], [[1], [3]], [[4, 2], []], [[3], [4]]], [[[], [0, 1, 2]], [[0, 1], [3]], [[4, 2], []], [[3], [4]]], [[[], [0, 1, 2]], [[0, 4], [3]], [[1], [4]], [[3, 2], []]], [[[], [0, 1, 2]], [[0, 4, 2], []], [[1], [3]], [[3], [4]]], [[[], [0]], [[0], [1]], [[1], [2, 3]], [[2], [4]], [[4, 3], []]], [[[], [0, 1]], [[0, 1], [2, 3]], [[2], [4]], [[4, 3], []]], [[[], [0, 1]], [[0, 3], [2]], [[1], [3, 4]], [[2, 4], []]], [[[], [0, 1]], [[0, 4, 3], []], [[1], [2, 3]], [[2], [4]]], [[[], [0, 1, 2]], [[0], [3]], [[3, 1], [4]], [[4, 2], []]], [[[], [0, 1]], [[0], [2, 3]], [[4, 1], []], [[2, 3], [4]]], [[[], [0]], [[0], [1, 2, 3]], [[1, 2], [4]], [[4, 3], []]], [[[], [0, 1, 2, 3]], [[0, 1, 2], [4]], [[4, 3], []]], [[[], [0, 1, 2, 3]], [[0, 4, 3], []], [[1, 2], [4]]], [[[], [0, 1, 2]], [[0], [3]], [[1], [4]], [[3, 4, 2], []]], [[[], [0, 1]], [[0], [2, 3]], [[2, 4, 1], []], [[3], [4]]], [[[], [0]], [[0], [1, 2, 3]], [[1, 4, 3], []], [[2], [4]]], [[[], [0, 1, 2, 3]], [[0, 1, 4, 3], []], [[2], [4]]], [[[], [0]], [[0], [1]], [[1], [2]], [[2], [3, 4]], [[3, 4], []]], [[[], [0, 1]], [[0, 1], [2]], [[2], [3, 4]], [[3, 4], []]], [[[], [0, 1]], [[0, 4], [2, 3]], [[1], [4]], [[2, 3], []]], [[[], [0, 1]], [[0, 3, 4], []], [[1], [2]], [[2], [3, 4]]], [[[], [0, 1]], [[0], [2]], [[2, 1], [3, 4]], [[3, 4], []]], [[[], [0]], [[0], [1, 2]], [[1, 2], [3, 4]], [[3, 4], []]], [[[], [0, 1, 2]], [[0, 1, 2], [3, 4]], [[3, 4], []]], [[[], [0, 1, 2]], [[0, 3, 4], []], [[1, 2], [3, 4]]], [[[], [0, 1]], [[0], [2]], [[1], [3, 4]], [[2, 3, 4], []]], [[[], [0]], [[0], [1, 2]], [[1, 3, 4], []], [[2], [3, 4]]], [[[], [0, 1, 2]], [[0, 1, 3, 4], []], [[2], [3, 4]]], [[[], [0, 1, 2]], [[0], [3]], [[4, 1, 2], []], [[3], [4]]], [[[], [0, 1]], [[0], [2, 3]], [[4, 3, 1], []], [[2], [4]]], [[[], [0]], [[0], [1, 2, 3]], [[1], [4]], [[4, 2, 3], []]], [[[], [0, 1, 2, 3]], [[0, 1], [4]], [[4, 2, 3], []]], [[[], [0, 1, 2, 3]], [[0, 4, 2, 3], []], [[1], [4]]], [[[], [0, 1]], [[0], [2]], [[3, 4, 1], []], [[2], [3, 4]]], [[[], [0]], [[0], [1, 2]], [[1], [3, 4]], [[3, 4, 2], []]], [[[], [0, 1, 2]], [[0, 1], [3, 4]], [[3, 4, 2], []]], [[[], [0, 1, 2]], [[0, 3, 4, 2], []], [[1], [3, 4]]], [[[], [0]], [[0], [1]], [[1], [2, 3, 4]], [[2, 3, 4], []]], [[[], [0, 1]], [[0, 1], [2, 3, 4]], [[2, 3, 4], []]], [[[], [0, 1]], [[0, 2, 3, 4], []], [[1], [2, 3, 4]]], [[[], [0, 1, 2, 3]], [[0], [4]], [[4, 1, 2, 3], []]], [[[], [0, 1, 2]], [[0], [3, 4]], [[3, 4, 1, 2], []]], [[[], [0, 1]], [[0], [2, 3, 4]], [[2, 3, 4, 1], []]], [[[], [0]], [[0], [1, 2, 3, 4]], [[1, 2, 3, 4], []]], [[[], [0, 1, 2, 3, 4]], [[0, 1, 2, 3, 4], []]]]
theorem len5 : (LV 5).length = 92 := by decide +kernel
theorem lenF5 : FL5.length = 92 := by decide +kernel
theorem nod5 : nodB FL5 = true := by decide +kernel
theorem c5_0 : (((LV 5).drop (20 * 0)).take 20).map (fun t => formD (TC.tD t)) = ((FL5.drop (20 * 0)).take 20).map some := by decide +kernel
theorem m5_0 : ((FL5.drop (20 * 0)).take 20).all (mirB FL5) = true := by decide +kernel
theorem c5_1 : (((LV 5).drop (20 * 1)).take 20).map (fun t => formD (TC.tD t)) = ((FL5.drop (20 * 1)).take 20).map some := by decide +kernel
theorem m5_1 : ((FL5.drop (20 * 1)).take 20).all (mirB FL5) = true := by decide +kernel
theorem c5_2 : (((LV 5).drop (20 * 2)).take 20).map (fun t => formD (TC.tD t)) = ((FL5.drop (20 * 2)).take 20).map some := by decide +kernel
theorem m5_2 : ((FL5.drop (20 * 2)).take 20).all (mirB FL5) = true := by decide +kernel
theorem c5_3 : (((LV 5).drop (20 * 3)).take 20).map (fun t => formD (TC.tD t)) = ((FL5.drop (20 * 3)).take 20).map some := by decide +kernel
theorem m5_3 : ((FL5.drop (20 * 3)).take 20).all (mirB FL5) = true := by decide +kernel
theorem c5_4 : (((LV 5).drop (20 * 4)).take 20).map (fun t => formD (TC.tD t)) = ((FL5.drop (20 * 4)).take 20).map some := by decide +kernel
theorem m5_4 : ((FL5.drop (20 * 4)).take 20).all (mirB FL5) = true := by decide +kernel
theorem forms5 : (LV 5).map (fun t => formD (TC.tD t)) = FL5.map some := join 20 5 (by decide) (by rw [len5, lenF5]) (by rw [len5]; decide) fun i hi => by
  match i, hi with
  | 0, _ => exact c5_0
  | 1, _ => exact c5_1
  | 2, _ => exact c5_2
  | 3, _ => exact c5_3
  | 4, _ => exact c5_4
  | k + 5, h => omega
theorem mirs5 : ∀ k ∈ FL5, mirB FL5 k = true := joinA 20 5 (by decide) (by rw [lenF5]; decide) fun i hi => by
  match i, hi with
  | 0, _ => exact m5_0
  | 1, _ => exact m5_1
  | 2, _ => exact m5_2
  | 3, _ => exact m5_3
  | 4, _ => exact m5_4
  | k + 5, h => omega
def FL6 : List NK.TK := [[[[], [0]], [[0], [1]], [[1], [2]], [[2], [3]], [[3], [4]], [[4], [5]], [[5], []]], [[[], [0, 1]], [[0, 1], [2]], [[2], [3]], [[3], [4]], [[4], [5]], [[5], []]], [[[], [0, 1]], [[0, 3], [2]], [[1], [3]], [[2], [4]], [[4], [5]], [[5], []]], [[[], [0, 1]], [[0, 5], [2]], [[1], [3]], [[2], [4]], [[3], [5]], [[4], []]], [[[], [0, 1]], [[0, 5], [2]], [[1], [3]], [[2], []], [[3], [4]], [[4], [5]]], [[[], [0, 1]], [[0, 5], []], [[1], [2]], [[2], [3]], [[3], [4]], [[4], [5]]], [[[], [0, 1]], [[0], [2]], [[2, 1], [3]], [[3], [4]], [[4], [5]], [[5], []]], [[[], [0]], [[0], [1, 2]], [[1, 2], [3]], [[3], [4]], [[4], [5]], [[5], []]], [[[], [0, 1, 2]], [[0, 1, 2], [3]], [[3], [4]], [[4], [5]], [[5], []]], [[[], [0, 1, 2]], [[0, 4], [3]], [[1, 2], [4]], [[3], [5]], [[5], []]], [[[], [0, 1, 2]], [[0, 5], [3]], [[1, 2], [4]], [[3], []], [[4], [5]]], [[[], [0, 1, 2]], [[0, 5], []], [[1, 2], [3]], [[3], [4]], [[4], [5]]], [[[], [0, 1]], [[0], [2]], [[1], [3]], [[2, 3], [4]], [[4], [5]], [[5], []]], [[[], [0]], [[0], [1, 2]], [[1, 4], [3]], [[2], [4]], [[3], [5]], [[5], []]], [[[], [0, 1, 2]], [[0, 1, 4], [3]], [[2], [4]], [[3], [5]], [[5], []]], [[[], [0, 1, 2]], [[0, 4], [3]], [[1, 5], [4]], [[2], [5]], [[3], []]], [[[], [0, 1, 2]], [[0, 5], []], [[1, 4], [3]], [[2], [4]], [[3], [5]]], [[[], [0, 1]], [[0], [2]], [[1], [3]], [[2, 5], [4]], [[3], [5]], [[4], []]], [[[], [0]], [[0], [1, 2]], [[1, 5], [3]], [[2], [4]], [[3], []], [[4], [5]]], [[[], [0, 1, 2]], [[0, 1, 5], [3]], [[2], [4]], [[3], []], [[4], [5]]], [[[], [0, 1, 2]], [[0, 3], []], [[1, 5], [3]], [[2], [4]], [[4], [5]]], [[[], [0, 1]], [[0], [2]], [[1], [3]], [[2, 5], []], [[3], [4]], [[4], [5]]], [[[], [0]], [[0], [1, 2]], [[1, 5], []], [[2], [3]], [[3], [4]], [[4], [5]]], [[[], [0, 1, 2]], [[0, 1, 5], []], [[2], [3]], [[3], [4]], [[4], [5]]], [[[], [0, 1]], [[0], [2]], [[4, 1], [3]], [[2], [4]], [[3], [5]], [[5], []]], [[[], [0]], [[0], [1, 2]], [[1], [3]], [[3, 2], [4]], [[4], [5]], [[5], []]], [[[], [0, 1, 2]], [[0, 1], [3]], [[3, 2], [4]], [[4], [5]], [[5], []]], [[[], [0, 1, 2]], [[0, 4, 2], [3]], [[1], [4]], [[3], [5]], [[5], []]], [[[], [0, 1, 2]], [[0, 5], [3]], [[1], [4]], [[4, 2], [5]], [[3], []]], [[[], [0, 1, 2]], [[0, 5], []], [[1], [3]], [[3, 2], [4]], [[4], [5]]], [[[], [0]], [[0], [1]], [[1], [2, 3]], [[2, 3], [4]], [[4], [5]], [[5], []]], [[[], [0, 1]], [[0, 1], [2, 3]], [[2, 3], [4]], [[4], [5]], [[5], []]], [[[], [0, 1]], [[0, 3, 4], [2]], [[1], [3, 4]], [[2], [5]], [[5], []]], [[[], [0, 1]], [[0, 5], [2]], [[1], [3, 4]], [[2], []], [[3, 4], [5]]], [[[], [0, 1]], [[0, 5], []], [[1], [2, 3]], [[2, 3], [4]], [[4], [5]]], [[[], [0, 1, 2]], [[0], [3]], [[3, 1, 2], [4]], [[4], [5]], [[5], []]], [[[], [0, 1]], [[0], [2, 3]], [[2, 3, 1], [4]], [[4], [5]], [[5], []]], [[[], [0]], [[0], [1, 2, 3]], [[1, 2, 3], [4]], [[4], [5]], [[5], []]], [[[], [0, 1, 2, 3]], [[0, 1, 2, 3], [4]], [[4], [5]], [[5], []]], [[[], [0, 1, 2, 3]], [[0, 5], [4]], [[1, 2, 3], [5]], [[4], []]], [[[], [0, 1, 2, 3]], [[0, 5], []], [[1, 2, 3], [4]], [[4], [5]]], [[[], [0, 1, 2]], [[0], [3]], [[1, 2], [4]], [[3, 4], [5]], [[5], []]], [[[], [0, 1]], [[0], [2, 3]], [[3, 1], [4]], [[2, 4], [5]], [[5], []]], [[[], [0]], [[0], [1, 2, 3]], [[1, 5], [4]], [[2, 3], [5]], [[4], []]], [[[], [0, 1, 2, 3]], [[0, 1, 5], [4]], [[2, 3], [5]], [[4], []]], [[[], [0, 1, 2, 3]], [[0, 4], []], [[1, 5], [4]], [[2, 3], [5]]], [[[], [0, 1, 2]], [[0], [3]], [[1, 2], [4]], [[3, 5], []], [[4], [5]]], [[[], [0, 1]], [[0], [2, 3]], [[3, 1], [4]], [[2, 5], []], [[4], [5]]], [[[], [0]], [[0], [1, 2, 3]], [[1, 5], []], [[2, 3], [4]], [[4], [5]]], [[[], [0, 1, 2, 3]], [[0, 1, 5], []], [[2, 3], [4]], [[4], [5]]], [[[], [0, 1]], [[0], [2]], [[1], [3]], [[2], [4]], [[4, 3], [5]], [[5], []]], [[[], [0]], [[0], [1, 2]], [[1], [3]], [[2], [4]], [[3, 4], [5]], [[5], []]], [[[], [0, 1, 2]], [[0, 1], [3]], [[2], [4]], [[3, 4], [5]], [[5], []]], [[[], [0, 1, 2]], [[0, 4, 5], [3]], [[1], [4]], [[2], [5]], [[3], []]], [[[], [0, 1, 2]], [[0, 5], []], [[1], [3]], [[2], [4]], [[3, 4], [5]]], [[[], [0]], [[0], [1]], [[1], [2, 3]], [[2, 5], [4]], [[3], [5]], [[4], []]], [[[], [0, 1]], [[0, 1], [2, 3]], [[2, 5], [4]], [[3], [5]], [[4], []]], [[[], [0, 1]], [[0, 3, 5], [2]], [[1], [3, 4]], [[2], []], [[4], [5]]], [[[], [0, 1]], [[0, 4], []], [[1], [2, 3]], [[2, 5], [4]], [[3], [5]]], [[[], [0, 1, 2]], [[0], [3]], [[3, 1, 5], [4]], [[2], [5]], [[4], []]], [[[], [0, 1]], [[0], [2, 3]], [[1], [4]], [[2, 3, 4], [5]], [[5], []]], [[[], [0]], [[0], [1, 2, 3]], [[1, 2, 5], [4]], [[3], [5]], [[4], []]], [[[], [0, 1, 2, 3]], [[0, 1, 2, 5], [4]], [[3], [5]], [[4], []]], [[[], [0, 1, 2, 3]], [[0, 4], []], [[1, 2, 5], [4]], [[3], [5]]], [[[], [0, 1, 2]], [[0], [3]], [[1, 5], [4]], [[2], [5]], [[3, 4], []]], [[[], [0, 1]], [[0], [2, 3]], [[1], [4]], [[2, 5], []], [[3, 4], [5]]], [[[], [0]], [[0], [1, 2, 3]], [[1, 4], []], [[2, 5], [4]], [[3], [5]]], [[[], [0, 1, 2, 3]], [[0, 1, 4], []], [[2, 5], [4]], [[3], [5]]], [[[], [0, 1]], [[0], [2]], [[1], [3]], [[2], [4]], [[3], [5]], [[4, 5], []]], [[[], [0]], [[0], [1, 2]], [[1], [3]], [[2], [4]], [[3, 5], []], [[4], [5]]], [[[], [0, 1, 2]], [[0, 1], [3]], [[2], [4]], [[3, 5], []], [[4], [5]]], [[[], [0, 1, 2]], [[0, 3, 5], []], [[1], [3]], [[2], [4]], [[4], [5]]], [[[], [0]], [[0], [1]], [[1], [2, 3]], [[2, 5], []], [[3], [4]], [[4], [5]]], [[[], [0, 1]], [[0, 1], [2, 3]], [[2, 5], []], [[3], [4]], [[4], [5]]], [[[], [0, 1]], [[0, 2, 5], []], [[1], [2, 3]], [[3], [4]], [[4], [5]]], [[[], [0, 1, 2]], [[0], [3]], [[3, 1, 5], []], [[2], [4]], [[4], [5]]], [[[], [0, 1]], [[0], [2, 3]], [[1], [4]], [[2, 3, 5], []], [[4], [5]]], [[[], [0]], [[0], [1, 2, 3]], [[1, 2, 5], []], [[3], [4]], [[4], [5]]], [[[], [0, 1, 2, 3]], [[0, 1, 2, 5], []], [[3], [4]], [[4], [5]]], [[[], [0, 1]], [[0], [2]], [[5, 1], [3]], [[2], [4]], [[3], []], [[4], [5]]], [[[], [0]], [[0], [1, 2]], [[1], [3]], [[5, 2], [4]], [[3], [5]], [[4], []]], [[[], [0, 1, 2]], [[0, 1], [3]], [[5, 2], [4]], [[3], [5]], [[4], []]], [[[], [0, 1, 2]], [[0, 4], [3]], [[1], [4]], [[3, 2], [5]], [[5], []]], [[[], [0, 1, 2]], [[0, 5, 2], [3]], [[1], [4]], [[3], []], [[4], [5]]], [[[], [0, 1, 2]], [[0, 4], []], [[1], [3]], [[5, 2], [4]], [[3], [5]]], [[[], [0]], [[0], [1]], [[1], [2, 3]], [[2], [4]], [[4, 3], [5]], [[5], []]], [[[], [0, 1]], [[0, 1], [2, 3]], [[2], [4]], [[4, 3], [5]], [[5], []]], [[[], [0, 1]], [[0, 3], [2]], [[1], [3, 4]], [[2, 4], [5]], [[5], []]], [[[], [0, 1]], [[0, 5, 4], [2]], [[1], [3, 4]], [[2], []], [[3], [5]]], [[[], [0, 1]], [[0, 5], []], [[1], [2, 3]], [[2], [4]], [[4, 3], [5]]], [[[], [0, 1, 2]], [[0], [3]], [[3, 1], [4]], [[4, 2], [5]], [[5], []]], [[[], [0, 1]], [[0], [2, 3]], [[5, 1], [4]], [[2, 3], [5]], [[4], []]], [[[], [0]], [[0], [1, 2, 3]], [[1, 2], [4]], [[4, 3], [5]], [[5], []]], [[[], [0, 1, 2, 3]], [[0, 1, 2], [4]], [[4, 3], [5]], [[5], []]], [[[], [0, 1, 2, 3]], [[0, 5, 3], [4]], [[1, 2], [5]], [[4], []]], [[[], [0, 1, 2, 3]], [[0, 5], []], [[1, 2], [4]], [[4, 3], [5]]], [[[], [0, 1, 2]], [[0], [3]], [[1], [4]], [[3, 4, 2], [5]], [[5], []]], [[[], [0, 1]], [[0], [2, 3]], [[2, 5, 1], [4]], [[3], [5]], [[4], []]], [[[], [0]], [[0], [1, 2, 3]], [[1, 5, 3], [4]], [[2], [5]], [[4], []]], [[[], [0, 1, 2, 3]], [[0, 1, 5, 3], [4]], [[2], [5]], [[4], []]], [[[], [0, 1, 2, 3]], [[0, 4], []], [[1, 5, 3], [4]], [[2], [5]]], [[[], [0, 1, 2]], [[0], [3]], [[1], [4]], [[4, 2], [5]], [[3, 5], []]], [[[], [0, 1]], [[0], [2, 3]], [[5, 1], [4]], [[2, 4], []], [[3], [5]]], [[[], [0]], [[0], [1, 2, 3]], [[1, 5], []], [[2], [4]], [[4, 3], [5]]], [[[], [0, 1, 2, 3]], [[0, 1, 5], []], [[2], [4]], [[4, 3], [5]]], [[[], [0]], [[0], [1]], [[1], [2]], [[2], [3, 4]], [[3, 4], [5]], [[5], []]], [[[], [0, 1]], [[0, 1], [2]], [[2], [3, 4]], [[3, 4], [5]], [[5], []]], [[[], [0, 1]], [[0, 4], [2, 3]], [[1], [4]], [[2, 3], [5]], [[5], []]], [[[], [0, 1]], [[0, 4, 5], [2]], [[1], [3]], [[2], []], [[3], [4, 5]]], [[[], [0, 1]], [[0, 5], []], [[1], [2]], [[2], [3, 4]], [[3, 4], [5]]], [[[], [0, 1]], [[0], [2]], [[2, 1], [3, 4]], [[3, 4], [5]], [[5], []]], [[[], [0]], [[0], [1, 2]], [[1, 2], [3, 4]], [[3, 4], [5]], [[5], []]], [[[], [0, 1, 2]], [[0, 1, 2], [3, 4]], [[3, 4], [5]], [[5], []]], [[[], [0, 1, 2]], [[0, 4, 5], [3]], [[1, 2], [4, 5]], [[3], []]], [[[], [0, 1, 2]], [[0, 5], []], [[1, 2], [3, 4]], [[3, 4], [5]]], [[[], [0, 1]], [[0], [2]], [[1], [3, 4]], [[2, 3, 4], [5]], [[5], []]], [[[], [0]], [[0], [1, 2]], [[1, 4, 5], [3]], [[2], [4, 5]], [[3], []]], [[[], [0, 1, 2]], [[0, 1, 4, 5], [3]], [[2], [4, 5]], [[3], []]], [[[], [0, 1, 2]], [[0, 3], []], [[1, 4, 5], [3]], [[2], [4, 5]]], [[[], [0, 1]], [[0], [2]], [[1], [3, 4]], [[2, 5], []], [[3, 4], [5]]], [[[], [0]], [[0], [1, 2]], [[1, 5], []], [[2], [3, 4]], [[3, 4], [5]]], [[[], [0, 1, 2]], [[0, 1, 5], []], [[2], [3, 4]], [[3, 4], [5]]], [[[], [0, 1, 2]], [[0], [3]], [[5, 1, 2], [4]], [[3], [5]], [[4], []]], [[[], [0, 1]], [[0], [2, 3]], [[5, 3, 1], [4]], [[2], [5]], [[4], []]], [[[], [0]], [[0], [1, 2, 3]], [[1], [4]], [[4, 2, 3], [5]], [[5], []]], [[[], [0, 1, 2, 3]], [[0, 1], [4]], [[4, 2, 3], [5]], [[5], []]], [[[], [0, 1, 2, 3]], [[0, 5, 2, 3], [4]], [[1], [5]], [[4], []]], [[[], [0, 1, 2, 3]], [[0, 5], []], [[1], [4]], [[4, 2, 3], [5]]], [[[], [0, 1]], [[0], [2]], [[4, 5, 1], [3]], [[2], [4, 5]], [[3], []]], [[[], [0]], [[0], [1, 2]], [[1], [3, 4]], [[3, 4, 2], [5]], [[5], []]], [[[], [0, 1, 2]], [[0, 1], [3, 4]], [[3, 4, 2], [5]], [[5], []]], [[[], [0, 1, 2]], [[0, 4, 5, 2], [3]], [[1], [4, 5]], [[3], []]], [[[], [0, 1, 2]], [[0, 5], []], [[1], [3, 4]], [[3, 4, 2], [5]]], [[[], [0]], [[0], [1]], [[1], [2, 3, 4]], [[2, 3, 4], [5]], [[5], []]], [[[], [0, 1]], [[0, 1], [2, 3, 4]], [[2, 3, 4], [5]], [[5], []]], [[[], [0, 1]], [[0, 3, 4, 5], [2]], [[1], [3, 4, 5]], [[2], []]], [[[], [0, 1]], [[0, 5], []], [[1], [2, 3, 4]], [[2, 3, 4], [5]]], [[[], [0, 1, 2, 3]], [[0], [4]], [[4, 1, 2, 3], [5]], [[5], []]], [[[], [0, 1, 2]], [[0], [3, 4]], [[3, 4, 1, 2], [5]], [[5], []]], [[[], [0, 1]], [[0], [2, 3, 4]], [[2, 3, 4, 1], [5]], [[5], []]], [[[], [0]], [[0], [1, 2, 3, 4]], [[1, 2, 3, 4], [5]], [[5], []]], [[[], [0, 1, 2, 3, 4]], [[0, 1, 2, 3, 4], [5]], [[5], []]], [[[], [0, 1, 2, 3, 4]], [[0, 5], []], [[1, 2, 3, 4], [5]]], [[[], [0, 1, 2, 3]], [[0], [4]], [[1, 2, 3], [5]], [[4, 5], []]], [[[], [0, 1, 2]], [[0], [3, 4]], [[4, 1, 2], [5]], [[3, 5], []]], [[[], [0, 1]], [[0], [2, 3, 4]], [[3, 4, 1], [5]], [[2, 5], []]], [[[], [0]], [[0], [1, 2, 3, 4]], [[1, 5], []], [[2, 3, 4], [5]]], [[[], [0, 1, 2, 3, 4]], [[0, 1, 5], []], [[2, 3, 4], [5]]], [[[], [0, 1, 2]], [[0], [3]], [[1, 2], [4]], [[3], [5]], [[5, 4], []]], [[[], [0, 1]], [[0], [2, 3]], [[3, 1], [4]], [[2], [5]], [[5, 4], []]], [[[], [0]], [[0], [1, 2, 3]], [[1], [4]], [[2, 3], [5]], [[4, 5], []]], [[[], [0, 1, 2, 3]], [[0, 1], [4]], [[2, 3], [5]], [[4, 5], []]], [[[], [0, 1, 2, 3]], [[0, 4, 5], []], [[1], [4]], [[2, 3], [5]]], [[[], [0, 1]], [[0], [2]], [[5, 1], [3]], [[2], [4, 5]], [[4, 3], []]], [[[], [0]], [[0], [1, 2]], [[1], [3, 4]], [[4, 2], [5]], [[3, 5], []]], [[[], [0, 1, 2]], [[0, 1], [3, 4]], [[4, 2], [5]], [[3, 5], []]], [[[], [0, 1, 2]], [[0, 3, 5], []], [[1], [3, 4]], [[4, 2], [5]]], [[[], [0]], [[0], [1]], [[1], [2, 3, 4]], [[2, 5], []], [[3, 4], [5]]], [[[], [0, 1]], [[0, 1], [2, 3, 4]], [[2, 5], []], [[3, 4], [5]]], [[[], [0, 1]], [[0, 2, 5], []], [[1], [2, 3, 4]], [[3, 4], [5]]], [[[], [0, 1, 2, 3]], [[0], [4]], [[4, 1, 5], []], [[2, 3], [5]]], [[[], [0, 1, 2]], [[0], [3, 4]], [[1, 2], [5]], [[3, 4, 5], []]], [[[], [0, 1]], [[0], [2, 3, 4]], [[4, 1], [5]], [[2, 3, 5], []]], [[[], [0]], [[0], [1, 2, 3, 4]], [[1, 2, 5], []], [[3, 4], [5]]], [[[], [0, 1, 2, 3, 4]], [[0, 1, 2, 5], []], [[3, 4], [5]]], [[[], [0, 1]], [[0], [2]], [[1], [3]], [[2], [4]], [[5, 3], []], [[4], [5]]], [[[], [0]], [[0], [1, 2]], [[1], [3]], [[2], [4]], [[3], [5]], [[5, 4], []]], [[[], [0, 1, 2]], [[0, 1], [3]], [[2], [4]], [[3], [5]], [[5, 4], []]], [[[], [0, 1, 2]], [[0, 4], [3]], [[1], [4]], [[2], [5]], [[3, 5], []]], [[[], [0, 1, 2]], [[0, 5, 4], []], [[1], [3]], [[2], [4]], [[3], [5]]], [[[], [0]], [[0], [1]], [[1], [2, 3]], [[2], [4]], [[3], [5]], [[4, 5], []]], [[[], [0, 1]], [[0, 1], [2, 3]], [[2], [4]], [[3], [5]], [[4, 5], []]], [[[], [0, 1]], [[0, 3], [2]], [[1], [3, 4]], [[2, 5], []], [[4], [5]]], [[[], [0, 1]], [[0, 4, 5], []], [[1], [2, 3]], [[2], [4]], [[3], [5]]], [[[], [0, 1, 2]], [[0], [3]], [[3, 1], [4]], [[2], [5]], [[4, 5], []]], [[[], [0, 1]], [[0], [2, 3]], [[1], [4]], [[2, 3], [5]], [[5, 4], []]], [[[], [0]], [[0], [1, 2, 3]], [[1, 2], [4]], [[3], [5]], [[4, 5], []]], [[[], [0, 1, 2, 3]], [[0, 1, 2], [4]], [[3], [5]], [[4, 5], []]], [[[], [0, 1, 2, 3]], [[0, 4, 5], []], [[1, 2], [4]], [[3], [5]]], [[[], [0, 1, 2]], [[0], [3]], [[1], [4]], [[2], [5]], [[3, 4, 5], []]], [[[], [0, 1]], [[0], [2, 3]], [[1], [4]], [[2, 5, 4], []], [[3], [5]]], [[[], [0]], [[0], [1, 2, 3]], [[1, 4, 5], []], [[2], [4]], [[3], [5]]], [[[], [0, 1, 2, 3]], [[0, 1, 4, 5], []], [[2], [4]], [[3], [5]]], [[[], [0]], [[0], [1]], [[1], [2]], [[2], [3, 4]], [[3, 5], []], [[4], [5]]], [[[], [0, 1]], [[0, 1], [2]], [[2], [3, 4]], [[3, 5], []], [[4], [5]]], [[[], [0, 1]], [[0, 4], [2, 3]], [[1], [4]], [[2, 5], []], [[3], [5]]], [[[], [0, 1]], [[0, 3, 5], []], [[1], [2]], [[2], [3, 4]], [[4], [5]]], [[[], [0, 1]], [[0], [2]], [[2, 1], [3, 4]], [[3, 5], []], [[4], [5]]], [[[], [0]], [[0], [1, 2]], [[1, 2], [3, 4]], [[3, 5], []], [[4], [5]]], [[[], [0, 1, 2]], [[0, 1, 2], [3, 4]], [[3, 5], []], [[4], [5]]], [[[], [0, 1, 2]], [[0, 3, 5], []], [[1, 2], [3, 4]], [[4], [5]]], [[[], [0, 1]], [[0], [2]], [[1], [3, 4]], [[2, 3, 5], []], [[4], [5]]], [[[], [0]], [[0], [1, 2]], [[1, 3, 5], []], [[2], [3, 4]], [[4], [5]]], [[[], [0, 1, 2]], [[0, 1, 3, 5], []], [[2], [3, 4]], [[4], [5]]], [[[], [0, 1, 2]], [[0], [3]], [[5, 1, 4], []], [[2], [4]], [[3], [5]]], [[[], [0, 1]], [[0], [2, 3]], [[1], [4]], [[2], [5]], [[5, 3, 4], []]], [[[], [0]], [[0], [1, 2, 3]], [[1], [4]], [[4, 2, 5], []], [[3], [5]]], [[[], [0, 1, 2, 3]], [[0, 1], [4]], [[4, 2, 5], []], [[3], [5]]], [[[], [0, 1, 2, 3]], [[0, 4, 2, 5], []], [[1], [4]], [[3], [5]]], [[[], [0, 1]], [[0], [2]], [[1], [3]], [[2], [4, 5]], [[4, 5, 3], []]], [[[], [0]], [[0], [1, 2]], [[1], [3, 4]], [[2], [5]], [[3, 4, 5], []]], [[[], [0, 1, 2]], [[0, 1], [3, 4]], [[2], [5]], [[3, 4, 5], []]], [[[], [0, 1, 2]], [[0, 3, 4, 5], []], [[1], [3, 4]], [[2], [5]]], [[[], [0]], [[0], [1]], [[1], [2, 3, 4]], [[2, 3, 5], []], [[4], [5]]], [[[], [0, 1]], [[0, 1], [2, 3, 4]], [[2, 3, 5], []], [[4], [5]]], [[[], [0, 1]], [[0, 2, 3, 5], []], [[1], [2, 3, 4]], [[4], [5]]], [[[], [0, 1, 2, 3]], [[0], [4]], [[4, 1, 2, 5], []], [[3], [5]]], [[[], [0, 1, 2]], [[0], [3, 4]], [[3, 4, 1, 5], []], [[2], [5]]], [[[], [0, 1]], [[0], [2, 3, 4]], [[1], [5]], [[2, 3, 4, 5], []]], [[[], [0]], [[0], [1, 2, 3, 4]], [[1, 2, 3, 5], []], [[4], [5]]], [[[], [0, 1, 2, 3, 4]], [[0, 1, 2, 3, 5], []], [[4], [5]]], [[[], [0, 1]], [[0], [2]], [[5, 1], []], [[2], [3]], [[3], [4]], [[4], [5]]], [[[], [0]], [[0], [1, 2]], [[1], [3]], [[5, 2], []], [[3], [4]], [[4], [5]]], [[[], [0, 1, 2]], [[0, 1], [3]], [[5, 2], []], [[3], [4]], [[4], [5]]], [[[], [0, 1, 2]], [[0, 4], [3]], [[1], [4]], [[5, 2], []], [[3], [5]]], [[[], [0, 1, 2]], [[0, 5], [3]], [[1], [4]], [[3, 2], []], [[4], [5]]], [[[], [0, 1, 2]], [[0, 5, 2], []], [[1], [3]], [[3], [4]], [[4], [5]]], [[[], [0]], [[0], [1]], [[1], [2, 3]], [[2], [4]], [[5, 3], []], [[4], [5]]], [[[], [0, 1]], [[0, 1], [2, 3]], [[2], [4]], [[5, 3], []], [[4], [5]]], [[[], [0, 1]], [[0, 3], [2]], [[1], [3, 4]], [[2], [5]], [[5, 4], []]], [[[], [0, 1]], [[0, 5], [2]], [[1], [3, 4]], [[2, 4], []], [[3], [5]]], [[[], [0, 1]], [[0, 5, 3], []], [[1], [2, 3]], [[2], [4]], [[4], [5]]], [[[], [0, 1, 2]], [[0], [3]], [[3, 1], [4]], [[5, 2], []], [[4], [5]]], [[[], [0, 1]], [[0], [2, 3]], [[5, 1], []], [[2, 3], [4]], [[4], [5]]], [[[], [0]], [[0], [1, 2, 3]], [[1, 2], [4]], [[5, 3], []], [[4], [5]]], [[[], [0, 1, 2, 3]], [[0, 1, 2], [4]], [[5, 3], []], [[4], [5]]], [[[], [0, 1, 2, 3]], [[0, 5], [4]], [[1, 2], [5]], [[4, 3], []]], [[[], [0, 1, 2, 3]], [[0, 5, 3], []], [[1, 2], [4]], [[4], [5]]], [[[], [0, 1, 2]], [[0], [3]], [[1], [4]], [[5, 2], []], [[3, 4], [5]]], [[[], [0, 1]], [[0], [2, 3]], [[4, 1], []], [[2, 5], [4]], [[3], [5]]], [[[], [0]], [[0], [1, 2, 3]], [[1, 5], [4]], [[2], [5]], [[4, 3], []]], [[[], [0, 1, 2, 3]], [[0, 1, 5], [4]], [[2], [5]], [[4, 3], []]], [[[], [0, 1, 2, 3]], [[0, 4, 3], []], [[1, 5], [4]], [[2], [5]]], [[[], [0, 1, 2]], [[0], [3]], [[1], [4]], [[3, 5, 2], []], [[4], [5]]], [[[], [0, 1]], [[0], [2, 3]], [[2, 5, 1], []], [[3], [4]], [[4], [5]]], [[[], [0]], [[0], [1, 2, 3]], [[1, 5, 3], []], [[2], [4]], [[4], [5]]], [[[], [0, 1, 2, 3]], [[0, 1, 5, 3], []], [[2], [4]], [[4], [5]]], [[[], [0]], [[0], [1]], [[1], [2]], [[2], [3, 4]], [[3], [5]], [[5, 4], []]], [[[], [0, 1]], [[0, 1], [2]], [[2], [3, 4]], [[3], [5]], [[5, 4], []]], [[[], [0, 1]], [[0, 4], [2, 3]], [[1], [4]], [[2], [5]], [[5, 3], []]], [[[], [0, 1]], [[0, 4], [2]], [[1], [3]], [[2, 5], []], [[3], [4, 5]]], [[[], [0, 1]], [[0, 5, 4], []], [[1], [2]], [[2], [3, 4]], [[3], [5]]], [[[], [0, 1]], [[0], [2]], [[2, 1], [3, 4]], [[3], [5]], [[5, 4], []]], [[[], [0]], [[0], [1, 2]], [[1, 2], [3, 4]], [[3], [5]], [[5, 4], []]], [[[], [0, 1, 2]], [[0, 1, 2], [3, 4]], [[3], [5]], [[5, 4], []]], [[[], [0, 1, 2]], [[0, 4], [3]], [[1, 2], [4, 5]], [[3, 5], []]], [[[], [0, 1, 2]], [[0, 5, 4], []], [[1, 2], [3, 4]], [[3], [5]]], [[[], [0, 1]], [[0], [2]], [[1], [3, 4]], [[2, 3], [5]], [[5, 4], []]], [[[], [0]], [[0], [1, 2]], [[1, 4], [3]], [[2], [4, 5]], [[3, 5], []]], [[[], [0, 1, 2]], [[0, 1, 4], [3]], [[2], [4, 5]], [[3, 5], []]], [[[], [0, 1, 2]], [[0, 3, 5], []], [[1, 4], [3]], [[2], [4, 5]]], [[[], [0, 1]], [[0], [2]], [[1], [3, 4]], [[2, 5, 4], []], [[3], [5]]], [[[], [0]], [[0], [1, 2]], [[1, 5, 4], []], [[2], [3, 4]], [[3], [5]]], [[[], [0, 1, 2]], [[0, 1, 5, 4], []], [[2], [3, 4]], [[3], [5]]], [[[], [0, 1, 2]], [[0], [3]], [[5, 1], [4]], [[4, 2], []], [[3], [5]]], [[[], [0, 1]], [[0], [2, 3]], [[5, 1], []], [[2], [4]], [[4, 3], [5]]], [[[], [0]], [[0], [1, 2, 3]], [[1], [4]], [[4, 2], [5]], [[5, 3], []]], [[[], [0, 1, 2, 3]], [[0, 1], [4]], [[4, 2], [5]], [[5, 3], []]], [[[], [0, 1, 2, 3]], [[0, 5, 2], [4]], [[1], [5]], [[4, 3], []]], [[[], [0, 1, 2, 3]], [[0, 5, 3], []], [[1], [4]], [[4, 2], [5]]], [[[], [0, 1]], [[0], [2]], [[5, 1], []], [[2], [3, 4]], [[3, 4], [5]]], [[[], [0]], [[0], [1, 2]], [[1], [3, 4]], [[5, 2], []], [[3, 4], [5]]], [[[], [0, 1, 2]], [[0, 1], [3, 4]], [[5, 2], []], [[3, 4], [5]]], [[[], [0, 1, 2]], [[0, 4, 5], [3]], [[1], [4, 5]], [[3, 2], []]], [[[], [0, 1, 2]], [[0, 5, 2], []], [[1], [3, 4]], [[3, 4], [5]]], [[[], [0]], [[0], [1]], [[1], [2, 3, 4]], [[2, 3], [5]], [[5, 4], []]], [[[], [0, 1]], [[0, 1], [2, 3, 4]], [[2, 3], [5]], [[5, 4], []]], [[[], [0, 1]], [[0, 3, 4], [2]], [[1], [3, 4, 5]], [[2, 5], []]], [[[], [0, 1]], [[0, 5, 4], []], [[1], [2, 3, 4]], [[2, 3], [5]]], [[[], [0, 1, 2, 3]], [[0], [4]], [[4, 1, 2], [5]], [[5, 3], []]], [[[], [0, 1, 2]], [[0], [3, 4]], [[3, 4, 1], [5]], [[5, 2], []]], [[[], [0, 1]], [[0], [2, 3, 4]], [[5, 1], []], [[2, 3, 4], [5]]], [[[], [0]], [[0], [1, 2, 3, 4]], [[1, 2, 3], [5]], [[5, 4], []]], [[[], [0, 1, 2, 3, 4]], [[0, 1, 2, 3], [5]], [[5, 4], []]], [[[], [0, 1, 2, 3, 4]], [[0, 5, 4], []], [[1, 2, 3], [5]]], [[[], [0, 1, 2, 3]], [[0], [4]], [[1, 2], [5]], [[4, 5, 3], []]], [[[], [0, 1, 2]], [[0], [3, 4]], [[4, 1], [5]], [[3, 5, 2], []]], [[[], [0, 1]], [[0], [2, 3, 4]], [[2, 5, 1], []], [[3, 4], [5]]], [[[], [0]], [[0], [1, 2, 3, 4]], [[1, 5, 4], []], [[2, 3], [5]]], [[[], [0, 1, 2, 3, 4]], [[0, 1, 5, 4], []], [[2, 3], [5]]], [[[], [0, 1, 2]], [[0], [3]], [[1], [4]], [[5, 4, 2], []], [[3], [5]]], [[[], [0, 1]], [[0], [2, 3]], [[4, 5, 1], []], [[2], [4]], [[3], [5]]], [[[], [0]], [[0], [1, 2, 3]], [[1], [4]], [[2], [5]], [[4, 5, 3], []]], [[[], [0, 1, 2, 3]], [[0, 1], [4]], [[2], [5]], [[4, 5, 3], []]], [[[], [0, 1, 2, 3]], [[0, 4, 5, 3], []], [[1], [4]], [[2], [5]]], [[[], [0, 1]], [[0], [2]], [[3, 5, 1], []], [[2], [3, 4]], [[4], [5]]], [[[], [0]], [[0], [1, 2]], [[1], [3, 4]], [[3, 5, 2], []], [[4], [5]]], [[[], [0, 1, 2]], [[0, 1], [3, 4]], [[3, 5, 2], []], [[4], [5]]], [[[], [0, 1, 2]], [[0, 3, 5, 2], []], [[1], [3, 4]], [[4], [5]]], [[[], [0]], [[0], [1]], [[1], [2, 3, 4]], [[2, 5, 4], []], [[3], [5]]], [[[], [0, 1]], [[0, 1], [2, 3, 4]], [[2, 5, 4], []], [[3], [5]]], [[[], [0, 1]], [[0, 2, 5, 4], []], [[1], [2, 3, 4]], [[3], [5]]], [[[], [0, 1, 2, 3]], [[0], [4]], [[4, 1, 5, 3], []], [[2], [5]]], [[[], [0, 1, 2]], [[0], [3, 4]], [[1], [5]], [[3, 4, 5, 2], []]], [[[], [0, 1]], [[0], [2, 3, 4]], [[2, 3, 5, 1], []], [[4], [5]]], [[[], [0]], [[0], [1, 2, 3, 4]], [[1, 2, 5, 4], []], [[3], [5]]], [[[], [0, 1, 2, 3, 4]], [[0, 1, 2, 5, 4], []], [[3], [5]]], [[[], [0]], [[0], [1]], [[1], [2]], [[2], [3]], [[3], [4, 5]], [[4, 5], []]], [[[], [0, 1]], [[0, 1], [2]], [[2], [3]], [[3], [4, 5]], [[4, 5], []]], [[[], [0, 1]], [[0, 3], [2]], [[1], [3]], [[2], [4, 5]], [[4, 5], []]], [[[], [0, 1]], [[0, 5], [2, 3]], [[1], [4]], [[2, 3], []], [[4], [5]]], [[[], [0, 1]], [[0, 4, 5], []], [[1], [2]], [[2], [3]], [[3], [4, 5]]], [[[], [0, 1]], [[0], [2]], [[2, 1], [3]], [[3], [4, 5]], [[4, 5], []]], [[[], [0]], [[0], [1, 2]], [[1, 2], [3]], [[3], [4, 5]], [[4, 5], []]], [[[], [0, 1, 2]], [[0, 1, 2], [3]], [[3], [4, 5]], [[4, 5], []]], [[[], [0, 1, 2]], [[0, 5], [3, 4]], [[1, 2], [5]], [[3, 4], []]], [[[], [0, 1, 2]], [[0, 4, 5], []], [[1, 2], [3]], [[3], [4, 5]]], [[[], [0, 1]], [[0], [2]], [[1], [3]], [[2, 3], [4, 5]], [[4, 5], []]], [[[], [0]], [[0], [1, 2]], [[1, 5], [3, 4]], [[2], [5]], [[3, 4], []]], [[[], [0, 1, 2]], [[0, 1, 5], [3, 4]], [[2], [5]], [[3, 4], []]], [[[], [0, 1, 2]], [[0, 3, 4], []], [[1, 5], [3, 4]], [[2], [5]]], [[[], [0, 1]], [[0], [2]], [[1], [3]], [[2, 4, 5], []], [[3], [4, 5]]], [[[], [0]], [[0], [1, 2]], [[1, 4, 5], []], [[2], [3]], [[3], [4, 5]]], [[[], [0, 1, 2]], [[0, 1, 4, 5], []], [[2], [3]], [[3], [4, 5]]], [[[], [0, 1]], [[0], [2]], [[5, 1], [3, 4]], [[2], [5]], [[3, 4], []]], [[[], [0]], [[0], [1, 2]], [[1], [3]], [[3, 2], [4, 5]], [[4, 5], []]], [[[], [0, 1, 2]], [[0, 1], [3]], [[3, 2], [4, 5]], [[4, 5], []]], [[[], [0, 1, 2]], [[0, 5, 2], [3, 4]], [[1], [5]], [[3, 4], []]], [[[], [0, 1, 2]], [[0, 4, 5], []], [[1], [3]], [[3, 2], [4, 5]]], [[[], [0]], [[0], [1]], [[1], [2, 3]], [[2, 3], [4, 5]], [[4, 5], []]], [[[], [0, 1]], [[0, 1], [2, 3]], [[2, 3], [4, 5]], [[4, 5], []]], [[[], [0, 1]], [[0, 4, 5], [2, 3]], [[1], [4, 5]], [[2, 3], []]], [[[], [0, 1]], [[0, 4, 5], []], [[1], [2, 3]], [[2, 3], [4, 5]]], [[[], [0, 1, 2]], [[0], [3]], [[3, 1, 2], [4, 5]], [[4, 5], []]], [[[], [0, 1]], [[0], [2, 3]], [[2, 3, 1], [4, 5]], [[4, 5], []]], [[[], [0]], [[0], [1, 2, 3]], [[1, 2, 3], [4, 5]], [[4, 5], []]], [[[], [0, 1, 2, 3]], [[0, 1, 2, 3], [4, 5]], [[4, 5], []]], [[[], [0, 1, 2, 3]], [[0, 4, 5], []], [[1, 2, 3], [4, 5]]], [[[], [0, 1, 2]], [[0], [3]], [[1, 2], [4, 5]], [[3, 4, 5], []]], [[[], [0, 1]], [[0], [2, 3]], [[3, 1], [4, 5]], [[2, 4, 5], []]], [[[], [0]], [[0], [1, 2, 3]], [[1, 4, 5], []], [[2, 3], [4, 5]]], [[[], [0, 1, 2, 3]], [[0, 1, 4, 5], []], [[2, 3], [4, 5]]], [[[], [0, 1]], [[0], [2]], [[1], [3, 4]], [[2], [5]], [[5, 3, 4], []]], [[[], [0]], [[0], [1, 2]], [[1], [3]], [[2], [4, 5]], [[3, 4, 5], []]], [[[], [0, 1, 2]], [[0, 1], [3]], [[2], [4, 5]], [[3, 4, 5], []]], [[[], [0, 1, 2]], [[0, 3, 4, 5], []], [[1], [3]], [[2], [4, 5]]], [[[], [0]], [[0], [1]], [[1], [2, 3]], [[2, 4, 5], []], [[3], [4, 5]]], [[[], [0, 1]], [[0, 1], [2, 3]], [[2, 4, 5], []], [[3], [4, 5]]], [[[], [0, 1]], [[0, 2, 4, 5], []], [[1], [2, 3]], [[3], [4, 5]]], [[[], [0, 1, 2]], [[0], [3]], [[3, 1, 4, 5], []], [[2], [4, 5]]], [[[], [0, 1]], [[0], [2, 3]], [[1], [4, 5]], [[2, 3, 4, 5], []]], [[[], [0]], [[0], [1, 2, 3]], [[1, 2, 4, 5], []], [[3], [4, 5]]], [[[], [0, 1, 2, 3]], [[0, 1, 2, 4, 5], []], [[3], [4, 5]]], [[[], [0, 1, 2]], [[0], [3]], [[5, 1, 2], []], [[3], [4]], [[4], [5]]], [[[], [0, 1]], [[0], [2, 3]], [[5, 3, 1], []], [[2], [4]], [[4], [5]]], [[[], [0]], [[0], [1, 2, 3]], [[1], [4]], [[5, 2, 3], []], [[4], [5]]], [[[], [0, 1, 2, 3]], [[0, 1], [4]], [[5, 2, 3], []], [[4], [5]]], [[[], [0, 1, 2, 3]], [[0, 5], [4]], [[1], [5]], [[4, 2, 3], []]], [[[], [0, 1, 2, 3]], [[0, 5, 2, 3], []], [[1], [4]], [[4], [5]]], [[[], [0, 1]], [[0], [2]], [[5, 4, 1], []], [[2], [3, 4]], [[3], [5]]], [[[], [0]], [[0], [1, 2]], [[1], [3, 4]], [[5, 4, 2], []], [[3], [5]]], [[[], [0, 1, 2]], [[0, 1], [3, 4]], [[5, 4, 2], []], [[3], [5]]], [[[], [0, 1, 2]], [[0, 4], [3]], [[1], [4, 5]], [[3, 5, 2], []]], [[[], [0, 1, 2]], [[0, 5, 4, 2], []], [[1], [3, 4]], [[3], [5]]], [[[], [0]], [[0], [1]], [[1], [2, 3, 4]], [[2], [5]], [[5, 3, 4], []]], [[[], [0, 1]], [[0, 1], [2, 3, 4]], [[2], [5]], [[5, 3, 4], []]], [[[], [0, 1]], [[0, 3], [2]], [[1], [3, 4, 5]], [[2, 4, 5], []]], [[[], [0, 1]], [[0, 5, 3, 4], []], [[1], [2, 3, 4]], [[2], [5]]], [[[], [0, 1, 2, 3]], [[0], [4]], [[4, 1], [5]], [[5, 2, 3], []]], [[[], [0, 1, 2]], [[0], [3, 4]], [[5, 1, 2], []], [[3, 4], [5]]], [[[], [0, 1]], [[0], [2, 3, 4]], [[5, 4, 1], []], [[2, 3], [5]]], [[[], [0]], [[0], [1, 2, 3, 4]], [[1, 2], [5]], [[5, 3, 4], []]], [[[], [0, 1, 2, 3, 4]], [[0, 1, 2], [5]], [[5, 3, 4], []]], [[[], [0, 1, 2, 3, 4]], [[0, 5, 3, 4], []], [[1, 2], [5]]], [[[], [0, 1, 2, 3]], [[0], [4]], [[1], [5]], [[4, 5, 2, 3], []]], [[[], [0, 1, 2]], [[0], [3, 4]], [[3, 5, 1, 2], []], [[4], [5]]], [[[], [0, 1]], [[0], [2, 3, 4]], [[2, 5, 4, 1], []], [[3], [5]]], [[[], [0]], [[0], [1, 2, 3, 4]], [[1, 5, 3, 4], []], [[2], [5]]], [[[], [0, 1, 2, 3, 4]], [[0, 1, 5, 3, 4], []], [[2], [5]]], [[[], [0, 1]], [[0], [2]], [[4, 5, 1], []], [[2], [3]], [[3], [4, 5]]], [[[], [0]], [[0], [1, 2]], [[1], [3]], [[4, 5, 2], []], [[3], [4, 5]]], [[[], [0, 1, 2]], [[0, 1], [3]], [[4, 5, 2], []], [[3], [4, 5]]], [[[], [0, 1, 2]], [[0, 5], [3, 4]], [[1], [5]], [[3, 4, 2], []]], [[[], [0, 1, 2]], [[0, 4, 5, 2], []], [[1], [3]], [[3], [4, 5]]], [[[], [0]], [[0], [1]], [[1], [2, 3]], [[2], [4, 5]], [[4, 5, 3], []]], [[[], [0, 1]], [[0, 1], [2, 3]], [[2], [4, 5]], [[4, 5, 3], []]], [[[], [0, 1]], [[0, 4], [2, 3]], [[1], [4, 5]], [[2, 3, 5], []]], [[[], [0, 1]], [[0, 4, 5, 3], []], [[1], [2, 3]], [[2], [4, 5]]], [[[], [0, 1, 2]], [[0], [3]], [[3, 1], [4, 5]], [[4, 5, 2], []]], [[[], [0, 1]], [[0], [2, 3]], [[4, 5, 1], []], [[2, 3], [4, 5]]], [[[], [0]], [[0], [1, 2, 3]], [[1, 2], [4, 5]], [[4, 5, 3], []]], [[[], [0, 1, 2, 3]], [[0, 1, 2], [4, 5]], [[4, 5, 3], []]], [[[], [0, 1, 2, 3]], [[0, 4, 5, 3], []], [[1, 2], [4, 5]]], [[[], [0, 1, 2]], [[0], [3]], [[1], [4, 5]], [[3, 4, 5, 2], []]], [[[], [0, 1]], [[0], [2, 3]], [[2, 4, 5, 1], []], [[3], [4, 5]]], [[[], [0]], [[0], [1, 2, 3]], [[1, 4, 5, 3], []], [[2], [4, 5]]], [[[], [0, 1, 2, 3]], [[0, 1, 4, 5, 3], []], [[2], [4, 5]]], [[[], [0]], [[0], [1]], [[1], [2]], [[2], [3, 4, 5]], [[3, 4, 5], []]], [[[], [0, 1]], [[0, 1], [2]], [[2], [3, 4, 5]], [[3, 4, 5], []]], [[[], [0, 1]], [[0, 5], [2, 3, 4]], [[1], [5]], [[2, 3, 4], []]], [[[], [0, 1]], [[0, 3, 4, 5], []], [[1], [2]], [[2], [3, 4, 5]]], [[[], [0, 1]], [[0], [2]], [[2, 1], [3, 4, 5]], [[3, 4, 5], []]], [[[], [0]], [[0], [1, 2]], [[1, 2], [3, 4, 5]], [[3, 4, 5], []]], [[[], [0, 1, 2]], [[0, 1, 2], [3, 4, 5]], [[3, 4, 5], []]], [[[], [0, 1, 2]], [[0, 3, 4, 5], []], [[1, 2], [3, 4, 5]]], [[[], [0, 1]], [[0], [2]], [[1], [3, 4, 5]], [[2, 3, 4, 5], []]], [[[], [0]], [[0], [1, 2]], [[1, 3, 4, 5], []], [[2], [3, 4, 5]]], [[[], [0, 1, 2]], [[0, 1, 3, 4, 5], []], [[2], [3, 4, 5]]], [[[], [0, 1, 2, 3]], [[0], [4]], [[5, 1, 2, 3], []], [[4], [5]]], [[[], [0, 1, 2]], [[0], [3, 4]], [[5, 4, 1, 2], []], [[3], [5]]], [[[], [0, 1]], [[0], [2, 3, 4]], [[5, 3, 4, 1], []], [[2], [5]]], [[[], [0]], [[0], [1, 2, 3, 4]], [[1], [5]], [[5, 2, 3, 4], []]], [[[], [0, 1, 2, 3, 4]], [[0, 1], [5]], [[5, 2, 3, 4], []]], [[[], [0, 1, 2, 3, 4]], [[0, 5, 2, 3, 4], []], [[1], [5]]], [[[], [0, 1, 2]], [[0], [3]], [[4, 5, 1, 2], []], [[3], [4, 5]]], [[[], [0, 1]], [[0], [2, 3]], [[4, 5, 3, 1], []], [[2], [4, 5]]], [[[], [0]], [[0], [1, 2, 3]], [[1], [4, 5]], [[4, 5, 2, 3], []]], [[[], [0, 1, 2, 3]], [[0, 1], [4, 5]], [[4, 5, 2, 3], []]], [[[], [0, 1, 2, 3]], [[0, 4, 5, 2, 3], []], [[1], [4, 5]]], [[[], [0, 1]], [[0], [2]], [[3, 4, 5, 1], []], [[2], [3, 4, 5]]], [[[], [0]], [[0], [1, 2]], [[1], [3, 4, 5]], [[3, 4, 5, 2], []]], [[[], [0, 1, 2]], [[0, 1], [3, 4, 5]], [[3, 4, 5, 2], []]], [[[], [0, 1, 2]], [[0, 3, 4, 5, 2], []], [[1], [3, 4, 5]]], [[[], [0]], [[0], [1]], [[1], [2, 3, 4, 5]], [[2, 3, 4, 5], []]], [[[], [0, 1]], [[0, 1], [2, 3, 4, 5]], [[2, 3, 4, 5], []]], [[[], [0, 1]], [[0, 2, 3, 4, 5], []], [[1], [2, 3, 4, 5]]], [[[], [0, 1, 2, 3, 4]], [[0], [5]], [[5, 1, 2, 3, 4], []]], [[[], [0, 1, 2, 3]], [[0], [4, 5]], [[4, 5, 1, 2, 3], []]], [[[], [0, 1, 2]], [[0], [3, 4, 5]], [[3, 4, 5, 1, 2], []]], [[[], [0, 1]], [[0], [2, 3, 4, 5]], [[2, 3, 4, 5, 1], []]], [[[], [0]], [[0], [1, 2, 3, 4, 5]], [[1, 2, 3, 4, 5], []]], [[[], [0, 1, 2, 3, 4, 5]], [[0, 1, 2, 3, 4, 5], []]]]
theorem len6 : (LV 6).length = 422 := by decide +kernel
theorem lenF6 : FL6.length = 422 := by decide +kernel
theorem nod6 : nodB FL6 = true := by decide +kernel
theorem c6_0 : (((LV 6).drop (20 * 0)).take 20).map (fun t => formD (TC.tD t)) = ((FL6.drop (20 * 0)).take 20).map some := by decide +kernel
theorem m6_0 : ((FL6.drop (20 * 0)).take 20).all (mirB FL6) = true := by decide +kernel
theorem c6_1 : (((LV 6).drop (20 * 1)).take 20).map (fun t => formD (TC.tD t)) = ((FL6.drop (20 * 1)).take 20).map some := by decide +kernel
theorem m6_1 : ((FL6.drop (20 * 1)).take 20).all (mirB FL6) = true := by decide +kernel
theorem c6_2 : (((LV 6).drop (20 * 2)).take 20).map (fun t => formD (TC.tD t)) = ((FL6.drop (20 * 2)).take 20).map some := by decide +kernel
theorem m6_2 : ((FL6.drop (20 * 2)).take 20).all (mirB FL6) = true := by decide +kernel
theorem c6_3 : (((LV 6).drop (20 * 3)).take 20).map (fun t => formD (TC.tD t)) = ((FL6.drop (20 * 3)).take 20).map some := by decide +kernel
theorem m6_3 : ((FL6.drop (20 * 3)).take 20).all (mirB FL6) = true := by decide +kernel
theorem c6_4 : (((LV 6).drop (20 * 4)).take 20).map (fun t => formD (TC.tD t)) = ((FL6.drop (20 * 4)).take 20).map some := by decide +kernel
theorem m6_4 : ((FL6.drop (20 * 4)).take 20).all (mirB FL6) = true := by decide +kernel
theorem c6_5 : (((LV 6).drop (20 * 5)).take 20).map (fun t => formD (TC.tD t)) = ((FL6.drop (20 * 5)).take 20).map some := by decide +kernel
theorem m6_5 : ((FL6.drop (20 * 5)).take 20).all (mirB FL6) = true := by decide +kernel
theorem c6_6 : (((LV 6).drop (20 * 6)).take 20).map (fun t => formD (TC.tD t)) = ((FL6.drop (20 * 6)).take 20).map some := by decide +kernel
theorem m6_6 : ((FL6.drop (20 * 6)).take 20).all (mirB FL6) = true := by decide +kernel
theorem c6_7 : (((LV 6).drop (20 * 7)).take 20).map (fun t => formD (TC.tD t)) = ((FL6.drop (20 * 7)).take 20).map some := by decide +kernel
theorem m6_7 : ((FL6.drop (20 * 7)).take 20).all (mirB FL6) = true := by decide +kernel
theorem c6_8 : (((LV 6).drop (20 * 8)).take 20).map (fun t => formD (TC.tD t)) = ((FL6.drop (20 * 8)).take 20).map some := by decide +kernel
theorem m6_8 : ((FL6.drop (20 * 8)).take 20).all (mirB FL6) = true := by decide +kernel
theorem c6_9 : (((LV 6).drop (20 * 9)).take 20).map (fun t => formD (TC.tD t)) = ((FL6.drop (20 * 9)).take 20).map some := by decide +kernel
theorem m6_9 : ((FL6.drop (20 * 9)).take 20).all (mirB FL6) = true := by decide +kernel
theorem c6_10 : (((LV 6).drop (20 * 10)).take 20).map (fun t => formD (TC.tD t)) = ((FL6.drop (20 * 10)).take 20).map some := by decide +kernel
theorem m6_10 : ((FL6.drop (20 * 10)).take 20).all (mirB FL6) = true := by decide +kernel
theorem c6_11 : (((LV 6).drop (20 * 11)).take 20).map (fun t => formD (TC.tD t)) = ((FL6.drop (20 * 11)).take 20).map some := by decide +kernel
theorem m6_11 : ((FL6.drop (20 * 11)).take 20).all (mirB FL6) = true := by decide +kernel
theorem c6_12 : (((LV 6).drop (20 * 12)).take 20).map (fun t => formD (TC.tD t)) = ((FL6.drop (20 * 12)).take 20).map some := by decide +kernel
theorem m6_12 : ((FL6.drop (20 * 12)).take 20).all (mirB FL6) = true := by decide +kernel
theorem c6_13 : (((LV 6).drop (20 * 13)).take 20).map (fun t => formD (TC.tD t)) = ((FL6.drop (20 * 13)).take 20).map some := by decide +kernel
theorem m6_13 : ((FL6.drop (20 * 13)).take 20).all (mirB FL6) = true := by decide +kernel
theorem c6_14 : (((LV 6).drop (20 * 14)).take 20).map (fun t => formD (TC.tD t)) = ((FL6.drop (20 * 14)).take 20).map some := by decide +kernel
theorem m6_14 : ((FL6.drop (20 * 14)).take 20).all (mirB FL6) = true := by decide +kernel
theorem c6_15 : (((LV 6).drop (20 * 15)).take 20).map (fun t => formD (TC.tD t)) = ((FL6.drop (20 * 15)).take 20).map some := by decide +kernel
theorem m6_15 : ((FL6.drop (20 * 15)).take 20).all (mirB FL6) = true := by decide +kernel
theorem c6_16 : (((LV 6).drop (20 * 16)).take 20).map (fun t => formD (TC.tD t)) = ((FL6.drop (20 * 16)).take 20).map some := by decide +kernel
theorem m6_16 : ((FL6.drop (20 * 16)).take 20).all (mirB FL6) = true := by decide +kernel
theorem c6_17 : (((LV 6).drop (20 * 17)).take 20).map (fun t => formD (TC.tD t)) = ((FL6.drop (20 * 17)).take 20).map some := by decide +kernel
theorem m6_17 : ((FL6.drop (20 * 17)).take 20).all (mirB FL6) = true := by decide +kernel
theorem c6_18 : (((LV 6).drop (20 * 18)).take 20).map (fun t => formD (TC.tD t)) = ((FL6.drop (20 * 18)).take 20).map some := by decide +kernel
theorem m6_18 : ((FL6.drop (20 * 18)).take 20).all (mirB FL6) = true := by decide +kernel
theorem c6_19 : (((LV 6).drop (20 * 19)).take 20).map (fun t => formD (TC.tD t)) = ((FL6.drop (20 * 19)).take 20).map some := by decide +kernel
theorem m6_19 : ((FL6.drop (20 * 19)).take 20).all (mirB FL6) = true := by decide +kernel
theorem c6_20 : (((LV 6).drop (20 * 20)).take 20).map (fun t => formD (TC.tD t)) = ((FL6.drop (20 * 20)).take 20).map some := by decide +kernel
theorem m6_20 : ((FL6.drop (20 * 20)).take 20).all (mirB FL6) = true := by decide +kernel
theorem c6_21 : (((LV 6).drop (20 * 21)).take 20).map (fun t => formD (TC.tD t)) = ((FL6.drop (20 * 21)).take 20).map some := by decide +kernel
theorem m6_21 : ((FL6.drop (20 * 21)).take 20).all (mirB FL6) = true := by decide +kernel
theorem forms6 : (LV 6).map (fun t => formD (TC.tD t)) = FL6.map some := join 20 22 (by decide) (by rw [len6, lenF6]) (by rw [len6]; decide) fun i hi => by
  match i, hi with
  | 0, _ => exact c6_0
  | 1, _ => exact c6_1
  | 2, _ => exact c6_2
  | 3, _ => exact c6_3
  | 4, _ => exact c6_4
  | 5, _ => exact c6_5
  | 6, _ => exact c6_6
  | 7, _ => exact c6_7
  | 8, _ => exact c6_8
  | 9, _ => exact c6_9
  | 10, _ => exact c6_10
  | 11, _ => exact c6_11
  | 12, _ => exact c6_12
  | 13, _ => exact c6_13
  | 14, _ => exact c6_14
  | 15, _ => exact c6_15
  | 16, _ => exact c6_16
  | 17, _ => exact c6_17
  | 18, _ => exact c6_18
  | 19, _ => exact c6_19
  | 20, _ => exact c6_20
  | 21, _ => exact c6_21
  | k + 22, h => omega
theorem mirs6 : ∀ k ∈ FL6, mirB FL6 k = true := joinA 20 22 (by decide) (by rw [lenF6]; decide) fun i hi => by
  match i, hi with
  | 0, _ => exact m6_0
  | 1, _ => exact m6_1
  | 2, _ => exact m6_2
  | 3, _ => exact m6_3
  | 4, _ => exact m6_4
  | 5, _ => exact m6_5
  | 6, _ => exact m6_6
  | 7, _ => exact m6_7
  | 8, _ => exact m6_8
  | 9, _ => exact m6_9
  | 10, _ => exact m6_10
  | 11, _ => exact m6_11
  | 12, _ => exact m6_12
  | 13, _ => exact m6_13
  | 14, _ => exact m6_14
  | 15, _ => exact m6_15
  | 16, _ => exact m6_16
  | 17, _ => exact m6_17
  | 18, _ => exact m6_18
  | 19, _ => exact m6_19
  | 20, _ => exact m6_20
  | 21, _ => exact m6_21
  | k + 22, h => omega
end K21


set_option Elab.async false
set_option linter.all false
set_option maxRecDepth 100000
set_option maxHeartbeats 4000000
namespace K21
open PySem L2 DL LW TC
/-! ### one turn of the law -/
def CO : PyData := .list [.int 1, .int 2, .int 6, .int 22, .int 92, .int 422]
abbrev tI1 : FT := fOr (fB (f2 gNe (fCa gLen (faCons (fVar 3) faNil)) (f2 gIx (fVar 4) (f2 DL.gSub (fVar 5) (fC (.int 1)))))) (fB (f2 gNe (fCa gLenN (faCons (fVar 6) faNil)) (fCa gLen (faCons (fVar 3) faNil))))
abbrev eI2 : FE := fLc [11] (fiKeysN (fVar 6)) (fgName 1 11) (fB (f2 gNiN (fCall 1 F_law_form (fCall 1 F_law_mirror (fVar 11) faNil) faNil) (fVar 6))) (fVar 11)
abbrev tI2 : FT := fB (f2 gNe (fFrz eI2) (fFrz (fLst faNil)))
abbrev sNo : FS := fRet (fC (.bool false))
abbrev sRest : FS := fSeq (fIfS tI1 sNo fNext) (fSeq (fIfS tI2 sNo fNext) (fSeq (fFor (fiR1 (faCons (fC (.int 10)) faNil)) (fgName 1 8) fgD) (fSeq (fAsg 1 9 (fFrz (fLst faNil))) (fSeq (fFor (fiList (fVar 3)) (fgName 1 7) fuS) (fAsg 1 3 (fVar 9))))))
abbrev LB : FS := fOwnG (fgSeq (fgNew 6 (.dit [])) (fgSeq (fgFrz 1 (fgFor 1 7 (fiList (fVar 3)) fFill)) (fgRest sRest)))
theorem seqG {f g : FOg} {ρ ρ1 : List En} {S S1 : Gs} (h : f ρ S = some (.nx ρ1 S1)) : fgSeq f g ρ S = g ρ1 S1 := by unfold fgSeq; rw [h]
theorem gNe_int (i : Int) : gNe (.int i) (.int i) = some (.bool false) := gNe_self rfl
section
variable {S : PyData} {mo : En} {n c : Nat} {ks : List NK.TK}
theorem drawn {xs : List PyData} {sm : PyData} {x7 x8 x9 x10 : En} (h1 : 1 ≤ n) (h2 : n < 200) (hb : BagOk xs) (HF : ∀ t ∈ LV n, ∃ k ∈ ks, formD (TC.tD t) = some k) :
    ∃ ys, fgD [.dat S, .cel xs, mo, .dat sm, .dat CO, .dat (.int (n : Int)), .dat (dn ks), x7, x8, x9, x10, .un, .un] = some (.nx [.dat S, .cel ys, mo, .dat sm, .dat CO, .dat (.int (n : Int)), .dat (dn ks), x7, x8, x9, x10, .un, .un]) ∧ BagOk ys := by
  obtain ⟨t, ys, e, et, ht, hL, hb'⟩ := pushed_ok (k := n) h1 h2 hb
  obtain ⟨k, hk, ek⟩ := HF t hL
  have c1 := LX.callC2 (F := F_law_pushed) (fe := fVar 1) (fb := fVar 5) (i := 1) (ρ := [.dat S, .cel xs, mo, .dat sm, .dat CO, .dat (.int (n : Int)), .dat (dn ks), x7, x8, x9, x10, .un, .un]) rfl rfl rfl et
  have c2 := LX.call_at (F := F_law_form) c1 (formD_at ek)
  have c3 := LX.fB_at (LX.f2_at (o := gNiN) (fb := fVar 6) (y := dn ks) c2 rfl (niN_in hk))
  exact ⟨ys, LX.if_f c3, hb'⟩
theorem rest_at {xs : List PyData} {x7 x8 x9 x10 : En} (h1 : 1 ≤ n) (h2 : n < 200) (hb : BagOk xs) (HF : ∀ t ∈ LV n, ∃ k ∈ ks, formD (TC.tD t) = some k) (HM : ∀ k ∈ ks, ∃ e k', mirD (tkD k) = some e ∧ formD e = some k' ∧ k' ∈ ks) (HL : (LV n).length = c) (HK : ks.length = c) (hc : c < 1000) (HC : gIx CO (.int ((n : Int) - 1)) = some (.int (c : Int))) (hbig : (LV (n + 1)).length ≤ 100000) :
    ∃ ys y7 y8 y10, sRest [.dat S, .cel xs, mo, .dat (.list ((LV n).map TC.tD)), .dat CO, .dat (.int (n : Int)), .dat (dn ks), x7, x8, x9, x10, .un, .un] = some (.nx [.dat S, .cel ys, mo, .dat (.list ((LV (n + 1)).map TC.tD)), .dat CO, .dat (.int (n : Int)), .dat (dn ks), y7, y8, .dat (.list ((LV (n + 1)).map TC.tD)), y10, .un, .un]) ∧ BagOk ys := by
  let SM : PyData := .list ((LV n).map TC.tD)
  let R : List En := [.dat S, .cel xs, mo, .dat SM, .dat CO, .dat (.int (n : Int)), .dat (dn ks), x7, x8, x9, x10, .un, .un]
  have gl : gLen [SM] = some (.int (c : Int)) := by show some (PyData.int (((LV n).map TC.tD).length : Int)) = _; rw [List.length_map, HL]
  have gn : gLenN [dn ks] = some (.int (c : Int)) := by show some (PyData.int ((ks.map fun k => (tkD k, PyData.bool true)).length : Int)) = _; rw [List.length_map, HK]
  have l1 := LX.fCa_at (o := gLen) (h := faCons (fVar 3) faNil) (ρ := R) (ρ1 := R) rfl gl
  have l2 := LX.f2_at (o := gIx) (fa := fVar 4) (fb := f2 DL.gSub (fVar 5) (fC (.int 1))) (ρ := R) (x := CO) (y := .int ((n : Int) - 1)) rfl (LX.f2_at (o := DL.gSub) (fa := fVar 5) (fb := fC (.int 1)) (ρ := R) (ρ1 := R) (ρ2 := R) (x := .int (n : Int)) (y := .int 1) rfl rfl rfl) HC
  have b1 := LX.fB_at (LX.f2_at (o := gNe) l1 l2 (gNe_int _))
  have l3 := LX.fCa_at (o := gLenN) (h := faCons (fVar 6) faNil) (ρ := R) (ρ1 := R) rfl gn
  have b2 := LX.fB_at (LX.f2_at (o := gNe) l3 l1 (gNe_int _))
  have i1 : fIfS tI1 sNo fNext R = some (.nx R) := LX.if_f ((LX.or_f b1).trans b2)
  have lc : eI2 R = some (.new [], R) := by
    refine LX.lc_none (fun k => tkD k) ks ?_ rfl rfl fun k hk => ?_
    · show some ((ks.map fun k => (tkD k, PyData.bool true)).map (·.1), R) = _
      rw [List.map_map]; rfl
    · obtain ⟨e, k', h3, h4, h5⟩ := HM k hk
      refine ⟨[.dat S, .cel xs, mo, .dat SM, .dat CO, .dat (.int (n : Int)), .dat (dn ks), x7, x8, x9, x10, .dat (tkD k), .un], rfl, ?_, rfl, rfl⟩
      have c1 := LX.call_at (F := F_law_mirror) (fe := fVar 11) (ρ := [.dat S, .cel xs, mo, .dat SM, .dat CO, .dat (.int (n : Int)), .dat (dn ks), x7, x8, x9, x10, .dat (tkD k), .un]) rfl (mirD_at h3)
      have c2 := LX.call_at (F := F_law_form) c1 (formD_at h4)
      exact LX.fB_at (LX.f2_at (o := gNiN) (fb := fVar 6) (y := dn ks) c2 rfl (niN_in h5))
  have b3 := LX.fB_at (LX.f2_at (o := gNe) (fb := fFrz (fLst faNil)) (ρ2 := R) (y := .list []) (LX.frz_at lc) rfl (gNe_self rfl))
  have i2 : fIfS tI2 sNo fNext R = some (.nx R) := LX.if_f b3
  have f1 := LX.fiR1_at (a := 10) (h := faCons (fC (.int 10)) faNil) (ρ := R) (ρ1 := R) rfl rfl
  obtain ⟨ρ', ⟨ys, y8, rfl, hb'⟩, l⟩ := LX.forGo_all (g := fgName 1 8) (b := fgD) (fun (i : Nat) => PyData.int ((0 : Int) + (i : Int))) (fun ρ => ∃ ys y8, ρ = [.dat S, .cel ys, mo, .dat SM, .dat CO, .dat (.int (n : Int)), .dat (dn ks), x7, y8, x9, x10, .un, .un] ∧ BagOk ys) (List.range 10) R ⟨xs, x8, rfl, hb⟩ (by
    rintro i hi ρ ⟨ys, y8, rfl, hy⟩
    obtain ⟨zs, e, hz⟩ := drawn (S := S) (mo := mo) (sm := SM) (x7 := x7) (x8 := .dat (.int ((0 : Int) + (i : Int)))) (x9 := x9) (x10 := x10) h1 h2 hy HF
    exact ⟨_, _, rfl, e, ⟨_, _, rfl, hz⟩⟩)
  have i3 : fFor (fiR1 (faCons (fC (.int 10)) faNil)) (fgName 1 8) fgD R = _ := (LX.for_at f1).trans l
  have hf : (LV n).flatMap (pushes n) = LV (n + 1) := (LV_succ h1).symm
  obtain ⟨y7, y10, e5⟩ := furL (n := n) (a0 := .dat S) (a1 := .cel ys) (a2 := mo) (a3 := .dat SM) (a4 := .dat CO) (a5 := .dat (.int (n : Int))) (x6 := .dat (dn ks)) (x8 := y8) (x11 := .un) (by omega) (LV n) [] x7 x10 (LV_tch h1) (by rw [hf]; simpa using hbig)
  rw [hf, List.nil_append] at e5
  have i5 : fFor (fiList (fVar 3)) (fgName 1 7) fuS [.dat S, .cel ys, mo, .dat SM, .dat CO, .dat (.int (n : Int)), .dat (dn ks), x7, y8, .dat (.list []), x10, .un, .un] = _ := (LX.for_at rfl).trans e5
  exact ⟨ys, y7, y8, y10, (LX.seq_nx i1).trans ((LX.seq_nx i2).trans ((LX.seq_nx i3).trans ((LX.seq_nx (ρ1 := [.dat S, .cel ys, mo, .dat SM, .dat CO, .dat (.int (n : Int)), .dat (dn ks), x7, y8, .dat (.list []), x10, .un, .un]) rfl).trans ((LX.seq_nx i5).trans rfl)))), hb'⟩
end
end K21


set_option Elab.async false
set_option linter.all false
set_option maxRecDepth 100000
set_option maxHeartbeats 4000000
namespace K21
open PySem L2 DL LW TC
section
variable {S : PyData} {mo : En} {n c : Nat} {ks : List NK.TK}
theorem turn {xs : List PyData} {x6 x7 x8 x9 x10 : En} (h1 : 1 ≤ n) (h2 : n < 200) (hb : BagOk xs) (HF : (LV n).map (fun t => formD (TC.tD t)) = ks.map some) (HN : ks.Nodup) (HM : ∀ k ∈ ks, ∃ e k', mirD (tkD k) = some e ∧ formD e = some k' ∧ k' ∈ ks) (HL : (LV n).length = c) (HK : ks.length = c) (hc : c < 1000) (HC : gIx CO (.int ((n : Int) - 1)) = some (.int (c : Int))) (hbig : (LV (n + 1)).length ≤ 100000) :
    ∃ ys y7 y8 y9 y10, LB [.dat S, .cel xs, mo, .dat (.list ((LV n).map TC.tD)), .dat CO, .dat (.int (n : Int)), x6, x7, x8, x9, x10, .un, .un] = some (.nx [.dat S, .cel ys, mo, .dat (.list ((LV (n + 1)).map TC.tD)), .dat CO, .dat (.int (n : Int)), .dat (dn ks), y7, y8, y9, y10, .un, .un]) ∧ BagOk ys := by
  obtain ⟨z7, e1⟩ := fill (a0 := .dat S) (a1 := .cel xs) (a2 := mo) (a3 := .dat (.list ((LV n).map TC.tD))) (a4 := .dat CO) (a5 := .dat (.int (n : Int))) (x6 := .un) (x8 := x8) (x9 := x9) (x10 := x10) (x11 := .un) (x12 := .un) (LV n) ks [] x7 HF (by simpa using HN) (by simp; omega)
  rw [List.nil_append] at e1
  have f1 : fgFor 1 7 (fiList (fVar 3)) fFill [.dat S, .cel xs, mo, .dat (.list ((LV n).map TC.tD)), .dat CO, .dat (.int (n : Int)), .un, x7, x8, x9, x10, .un, .un] [(6, .dit [])] = some (.nx [.dat S, .cel xs, mo, .dat (.list ((LV n).map TC.tD)), .dat CO, .dat (.int (n : Int)), .un, z7, x8, x9, x10, .un, .un] [(6, .dit ks)]) := e1
  have f2 : fgFrz 1 (fgFor 1 7 (fiList (fVar 3)) fFill) [.dat S, .cel xs, mo, .dat (.list ((LV n).map TC.tD)), .dat CO, .dat (.int (n : Int)), .un, x7, x8, x9, x10, .un, .un] [(6, .dit [])] = some (.nx [.dat S, .cel xs, mo, .dat (.list ((LV n).map TC.tD)), .dat CO, .dat (.int (n : Int)), .dat (dn ks), z7, x8, x9, x10, .un, .un] []) := by
    unfold fgFrz
    rw [f1]
    rfl
  have HF' : ∀ t ∈ LV n, ∃ k ∈ ks, formD (TC.tD t) = some k := fun t ht => by
    have z : formD (TC.tD t) ∈ (LV n).map (fun t => formD (TC.tD t)) := List.mem_map.mpr ⟨t, ht, rfl⟩
    rw [HF] at z
    obtain ⟨k, hk, e⟩ := List.mem_map.mp z
    exact ⟨k, hk, e.symm⟩
  obtain ⟨ys, y7, y8, y10, e3, hb'⟩ := rest_at (S := S) (mo := mo) (x7 := z7) (x8 := x8) (x9 := x9) (x10 := x10) h1 h2 hb HF' HM HL HK hc HC hbig
  refine ⟨ys, y7, y8, .dat (.list ((LV (n + 1)).map TC.tD)), y10, ?_, hb'⟩
  have f3 : fgRest sRest [.dat S, .cel xs, mo, .dat (.list ((LV n).map TC.tD)), .dat CO, .dat (.int (n : Int)), .dat (dn ks), z7, x8, x9, x10, .un, .un] [] = some (.nx [.dat S, .cel ys, mo, .dat (.list ((LV (n + 1)).map TC.tD)), .dat CO, .dat (.int (n : Int)), .dat (dn ks), y7, y8, .dat (.list ((LV (n + 1)).map TC.tD)), y10, .un, .un] []) := by
    unfold fgRest
    rw [e3]
  have f4 : fgSeq (fgNew 6 (.dit [])) (fgSeq (fgFrz 1 (fgFor 1 7 (fiList (fVar 3)) fFill)) (fgRest sRest)) [.dat S, .cel xs, mo, .dat (.list ((LV n).map TC.tD)), .dat CO, .dat (.int (n : Int)), x6, x7, x8, x9, x10, .un, .un] [] = some (.nx [.dat S, .cel ys, mo, .dat (.list ((LV (n + 1)).map TC.tD)), .dat CO, .dat (.int (n : Int)), .dat (dn ks), y7, y8, .dat (.list ((LV (n + 1)).map TC.tD)), y10, .un, .un] []) :=
    (seqG (f := fgNew 6 (.dit [])) (ρ1 := [.dat S, .cel xs, mo, .dat (.list ((LV n).map TC.tD)), .dat CO, .dat (.int (n : Int)), .un, x7, x8, x9, x10, .un, .un]) (S1 := [(6, .dit [])]) rfl).trans ((seqG f2).trans f3)
  show (match fgSeq (fgNew 6 (.dit [])) (fgSeq (fgFrz 1 (fgFor 1 7 (fiList (fVar 3)) fFill)) (fgRest sRest)) [.dat S, .cel xs, mo, .dat (.list ((LV n).map TC.tD)), .dat CO, .dat (.int (n : Int)), x6, x7, x8, x9, x10, .un, .un] [] with
    | some (.nx ρ1 []) => some (Oc.nx ρ1)
    | some (.rt r ρ1) => some (.rt r ρ1)
    | _ => none) = _
  rw [f4]
end
def Facts : Prop := ∀ n : Nat, 1 ≤ n → n ≤ 6 → ∃ (ks : List NK.TK) (c : Nat), (LV n).map (fun t => formD (TC.tD t)) = ks.map some ∧ ks.Nodup ∧ (∀ k ∈ ks, ∃ e k', mirD (tkD k) = some e ∧ formD e = some k' ∧ k' ∈ ks) ∧ (LV n).length = c ∧ ks.length = c ∧ c < 1000 ∧ gIx CO (.int ((n : Int) - 1)) = some (.int (c : Int)) ∧ (LV (n + 1)).length ≤ 100000
theorem loop (HF : Facts) {S : PyData} {mo : En} : ∀ (m n : Nat) {xs : List PyData} {x5 x6 x7 x8 x9 x10 : En}, 1 ≤ n → n + m ≤ 7 → BagOk xs → ∃ ρ', fForGo (fgName 1 5) LB (rng (n : Int) m) [.dat S, .cel xs, mo, .dat (.list ((LV n).map TC.tD)), .dat CO, x5, x6, x7, x8, x9, x10, .un, .un] = some (.nx ρ')
  | 0, n, xs, x5, x6, x7, x8, x9, x10, _, _, _ => ⟨_, rfl⟩
  | m + 1, n, xs, x5, x6, x7, x8, x9, x10, h1, h2, hb => by
    obtain ⟨ks, c, f1, f2, f3, f4, f5, f6, f7, f8⟩ := HF n h1 (by omega)
    obtain ⟨ys, y7, y8, y9, y10, e, hb'⟩ := turn (S := S) (mo := mo) (x6 := x6) (x7 := x7) (x8 := x8) (x9 := x9) (x10 := x10) h1 (by omega) hb f1 f2 f3 f4 f5 f6 f7 f8
    obtain ⟨ρ', e'⟩ := loop HF m (n + 1) (S := S) (mo := mo) (x5 := .dat (.int (n : Int))) (x6 := .dat (dn ks)) (x7 := y7) (x8 := y8) (x9 := y9) (x10 := y10) (by omega) (by omega) hb'
    refine ⟨ρ', ?_⟩
    rw [LX.rng_succ, show (n : Int) + 1 = ((n + 1 : Nat) : Int) by omega, ← e']
    exact LX.forGo_nx (gg := fgName 1 5) (x := .int (n : Int)) rfl e
theorem law_of (HF : Facts) {ns : List Int} (h : ns.length ≤ 63) : ∃ ρ', F_law [.dat (.list (ns.map PyData.int))] = some (.dat (.bool true), ρ') := by
  let S : PyData := .list (ns.map PyData.int)
  obtain ⟨xs, b1, b2, eb, hb⟩ := bag_ok (ns := ns) (k := 0) (by omega) (by omega)
  have t1 : fAsg 1 1 (fCall 2 F_law_bag (fVar 0) (faCons (fC (.int 0)) faNil)) [.dat S, .un, .un, .un, .un, .un, .un, .un, .un, .un, .un, .un, .un] = some (.nx [.dat S, .cel xs, .un, .un, .un, .un, .un, .un, .un, .un, .un, .un, .un]) := by
    simp [fAsg, fCall, fVar, fC, faCons, faNil, S, eb, setE]
  obtain ⟨d, ys, e1, hb1, d0, d1⟩ := takeC (ρ := [.dat S, .cel xs, .un, .un, .un, .un, .un, .un, .un, .un, .un, .un, .un]) (ρ2 := []) (fb := fC (.int 3)) (m := 3) hb (by decide) (by decide) 1 rfl rfl
  obtain ⟨mo, hm1, hm2, gm⟩ : ∃ mo : Nat, 1 ≤ mo ∧ mo ≤ 6 ∧ gIx (.list [.int 5, .int 5, .int 6]) (.int d) = some (.int (mo : Int)) := by
    rcases (show d = 0 ∨ d = 1 ∨ d = 2 by omega) with rfl | rfl | rfl
    · exact ⟨5, by omega, by omega, rfl⟩
    · exact ⟨5, by omega, by omega, rfl⟩
    · exact ⟨6, by omega, by omega, rfl⟩
  have t2 := LX.asg_at (P := 1) (i := 2) (ρ := [.dat S, .cel xs, .un, .un, .un, .un, .un, .un, .un, .un, .un, .un, .un]) (ρ2 := [.dat S, .cel ys, .dat (.int (mo : Int)), .un, .un, .un, .un, .un, .un, .un, .un, .un, .un]) (LX.f2_at (o := gIx) (fa := fFrz (fLst (faCons (fC (.int 5)) (faCons (fC (.int 5)) (faCons (fC (.int 6)) faNil))))) (x := .list [.int 5, .int 5, .int 6]) rfl e1 gm) rfl
  obtain ⟨ρ', e⟩ := loop HF mo 1 (S := S) (mo := .dat (.int (mo : Int))) (xs := ys) (x5 := .un) (x6 := .un) (x7 := .un) (x8 := .un) (x9 := .un) (x10 := .un) (by omega) (by omega) hb1
  have i1 := LX.fiR2_at (a := 1) (c := ((mo + 1 : Nat) : Int)) (h := faCons (fC (.int 1)) (faCons (f2 gAdd (fVar 2) (fC (.int 1))) faNil)) (ρ := [.dat S, .cel ys, .dat (.int (mo : Int)), .dat (.list ((LV 1).map TC.tD)), .dat CO, .un, .un, .un, .un, .un, .un, .un, .un]) (ρ1 := [.dat S, .cel ys, .dat (.int (mo : Int)), .dat (.list ((LV 1).map TC.tD)), .dat CO, .un, .un, .un, .un, .un, .un, .un, .un]) rfl (LX.small62_nat (by omega)) rfl
  rw [show (((mo + 1 : Nat) : Int) - 1).toNat = mo by omega] at i1
  exact ⟨_, LX.fFun_at (np := 1) (k := 12) (ρ := [.dat S]) (d := .bool true) ((LX.seq_nx t1).trans ((LX.seq_nx t2).trans ((LX.seq_nx (ρ1 := [.dat S, .cel ys, .dat (.int (mo : Int)), .dat (.list ((LV 1).map TC.tD)), .un, .un, .un, .un, .un, .un, .un, .un, .un]) rfl).trans ((LX.seq_nx (ρ1 := [.dat S, .cel ys, .dat (.int (mo : Int)), .dat (.list ((LV 1).map TC.tD)), .dat CO, .un, .un, .un, .un, .un, .un, .un, .un]) rfl).trans ((LX.seq_nx (t := fRet (fC (.bool true))) ((LX.for_at i1).trans e)).trans rfl)))))⟩
end K21


set_option Elab.async false
set_option linter.all false
set_option maxRecDepth 100000
set_option maxHeartbeats 4000000
namespace K21
open PySem L2 DL LW TC
theorem len7 : Nat.ble (LV 7).length 100000 = true := by decide +kernel
theorem facts_ok : Facts := fun n h1 h2 => by
  have hm : ∀ {ks : List NK.TK}, (∀ k ∈ ks, mirB ks k = true) → ∀ k ∈ ks, ∃ e k', mirD (tkD k) = some e ∧ formD e = some k' ∧ k' ∈ ks := fun h k hk => mirB_at (h k hk)
  rcases (show n = 1 ∨ n = 2 ∨ n = 3 ∨ n = 4 ∨ n = 5 ∨ n = 6 by omega) with rfl | rfl | rfl | rfl | rfl | rfl
  · exact ⟨FL1, 1, forms1, nodB_ok nod1, hm mirs1, len1, lenF1, by decide, rfl, by rw [len2]; decide⟩
  · exact ⟨FL2, 2, forms2, nodB_ok nod2, hm mirs2, len2, lenF2, by decide, rfl, by rw [len3]; decide⟩
  · exact ⟨FL3, 6, forms3, nodB_ok nod3, hm mirs3, len3, lenF3, by decide, rfl, by rw [len4]; decide⟩
  · exact ⟨FL4, 22, forms4, nodB_ok nod4, hm mirs4, len4, lenF4, by decide, rfl, by rw [len5]; decide⟩
  · exact ⟨FL5, 92, forms5, nodB_ok nod5, hm mirs5, len5, lenF5, by decide, rfl, by rw [len6]; decide⟩
  · exact ⟨FL6, 422, forms6, nodB_ok nod6, hm mirs6, len6, lenF6, by decide, rfl, Nat.le_of_ble_eq_true len7⟩
theorem law_true {ns : List Int} (h : ns.length ≤ 63) : ∃ ρ', F_law [.dat (.list (ns.map PyData.int))] = some (.dat (.bool true), ρ') := law_of facts_ok h
end K21


set_option Elab.async false
set_option linter.all false
set_option maxRecDepth 100000
set_option maxHeartbeats 4000000
namespace K21
open PySem L2 DL LW
theorem all_mk {l : PySem.W.OpenLaw} {w : World} {K : PySem.W.Frag} {h : Heap} {mg : Str → Option Value} {fa : Addr} (X : K.In h) (G : h.Ns mainGlobals mg) (hfa : mg "law" = some (.ref fa))
    {f_lines_hung_from : Addr} {od_lines_hung_from an_lines_hung_from : Option Addr} {sl_lines_hung_from : Array (Option Value)} {oc_lines_hung_from kV_lines_hung_from dc_lines_hung_from pm_lines_hung_from cd_lines_hung_from ct_lines_hung_from : Value}
    {f_lines_stood_on : Addr} {od_lines_stood_on an_lines_stood_on : Option Addr} {sl_lines_stood_on : Array (Option Value)} {oc_lines_stood_on kV_lines_stood_on dc_lines_stood_on pm_lines_stood_on cd_lines_stood_on ct_lines_stood_on : Value}
    {f_next_number : Addr} {od_next_number an_next_number : Option Addr} {sl_next_number : Array (Option Value)} {oc_next_number kV_next_number dc_next_number pm_next_number cd_next_number ct_next_number : Value}
    {f_nearest_count : Addr} {od_nearest_count an_nearest_count : Option Addr} {sl_nearest_count : Array (Option Value)} {oc_nearest_count kV_nearest_count dc_nearest_count pm_nearest_count cd_nearest_count ct_nearest_count : Value}
    {f_push_over : Addr} {od_push_over an_push_over : Option Addr} {sl_push_over : Array (Option Value)} {oc_push_over kV_push_over dc_push_over pm_push_over cd_push_over ct_push_over : Value}
    {f_left_rim : Addr} {od_left_rim an_left_rim : Option Addr} {sl_left_rim : Array (Option Value)} {oc_left_rim kV_left_rim dc_left_rim pm_left_rim cd_left_rim ct_left_rim : Value}
    {f_push_beside : Addr} {od_push_beside an_push_beside : Option Addr} {sl_push_beside : Array (Option Value)} {oc_push_beside kV_push_beside dc_push_beside pm_push_beside cd_push_beside ct_push_beside : Value}
    {f_law_bag : Addr} {od_law_bag an_law_bag : Option Addr} {sl_law_bag : Array (Option Value)} {oc_law_bag kV_law_bag dc_law_bag pm_law_bag cd_law_bag ct_law_bag : Value}
    {f_law_take : Addr} {od_law_take an_law_take : Option Addr} {sl_law_take : Array (Option Value)} {oc_law_take kV_law_take dc_law_take pm_law_take cd_law_take ct_law_take : Value}
    {f_law_left_lines : Addr} {od_law_left_lines an_law_left_lines : Option Addr} {sl_law_left_lines : Array (Option Value)} {oc_law_left_lines kV_law_left_lines dc_law_left_lines pm_law_left_lines cd_law_left_lines ct_law_left_lines : Value}
    {f_law_pushed : Addr} {od_law_pushed an_law_pushed : Option Addr} {sl_law_pushed : Array (Option Value)} {oc_law_pushed kV_law_pushed dc_law_pushed pm_law_pushed cd_law_pushed ct_law_pushed : Value}
    {f_law_form : Addr} {od_law_form an_law_form : Option Addr} {sl_law_form : Array (Option Value)} {oc_law_form kV_law_form dc_law_form pm_law_form cd_law_form ct_law_form : Value}
    {f_law_mirror : Addr} {od_law_mirror an_law_mirror : Option Addr} {sl_law_mirror : Array (Option Value)} {oc_law_mirror kV_law_mirror dc_law_mirror pm_law_mirror cd_law_mirror ct_law_mirror : Value}
    {f_law : Addr} {od_law an_law : Option Addr} {sl_law : Array (Option Value)} {oc_law kV_law dc_law pm_law cd_law ct_law : Value}
    (a_lines_hung_from : PySem.W.nsIn K mainGlobals "lines_hung_from" = some (some (.ref f_lines_hung_from))) (l_lines_hung_from : K.lookup f_lines_hung_from = some ⟨oc_lines_hung_from, od_lines_hung_from, .func (PySem.W.fnOf "lines_hung_from" "lines_hung_from" (defArgs s_lines_hung_from) (defBody s_lines_hung_from) (defScope s_lines_hung_from) .none kV_lines_hung_from dc_lines_hung_from pm_lines_hung_from an_lines_hung_from cd_lines_hung_from ct_lines_hung_from), sl_lines_hung_from⟩) (c_lines_hung_from : PySem.W.codeIn K cd_lines_hung_from "lines_hung_from" = true) (k_lines_hung_from : PySem.W.keepIn K (.ref f_lines_hung_from) = true)
    (a_lines_stood_on : PySem.W.nsIn K mainGlobals "lines_stood_on" = some (some (.ref f_lines_stood_on))) (l_lines_stood_on : K.lookup f_lines_stood_on = some ⟨oc_lines_stood_on, od_lines_stood_on, .func (PySem.W.fnOf "lines_stood_on" "lines_stood_on" (defArgs s_lines_stood_on) (defBody s_lines_stood_on) (defScope s_lines_stood_on) .none kV_lines_stood_on dc_lines_stood_on pm_lines_stood_on an_lines_stood_on cd_lines_stood_on ct_lines_stood_on), sl_lines_stood_on⟩) (c_lines_stood_on : PySem.W.codeIn K cd_lines_stood_on "lines_stood_on" = true) (k_lines_stood_on : PySem.W.keepIn K (.ref f_lines_stood_on) = true)
    (a_next_number : PySem.W.nsIn K mainGlobals "next_number" = some (some (.ref f_next_number))) (l_next_number : K.lookup f_next_number = some ⟨oc_next_number, od_next_number, .func (PySem.W.fnOf "next_number" "next_number" (defArgs s_next_number) (defBody s_next_number) (defScope s_next_number) .none kV_next_number dc_next_number pm_next_number an_next_number cd_next_number ct_next_number), sl_next_number⟩) (c_next_number : PySem.W.codeIn K cd_next_number "next_number" = true) (k_next_number : PySem.W.keepIn K (.ref f_next_number) = true)
    (a_nearest_count : PySem.W.nsIn K mainGlobals "nearest_count" = some (some (.ref f_nearest_count))) (l_nearest_count : K.lookup f_nearest_count = some ⟨oc_nearest_count, od_nearest_count, .func (PySem.W.fnOf "nearest_count" "nearest_count" (defArgs s_nearest_count) (defBody s_nearest_count) (defScope s_nearest_count) .none kV_nearest_count dc_nearest_count pm_nearest_count an_nearest_count cd_nearest_count ct_nearest_count), sl_nearest_count⟩) (c_nearest_count : PySem.W.codeIn K cd_nearest_count "nearest_count" = true) (k_nearest_count : PySem.W.keepIn K (.ref f_nearest_count) = true)
    (a_push_over : PySem.W.nsIn K mainGlobals "push_over" = some (some (.ref f_push_over))) (l_push_over : K.lookup f_push_over = some ⟨oc_push_over, od_push_over, .func (PySem.W.fnOf "push_over" "push_over" (defArgs s_push_over) (defBody s_push_over) (defScope s_push_over) .none kV_push_over dc_push_over pm_push_over an_push_over cd_push_over ct_push_over), sl_push_over⟩) (c_push_over : PySem.W.codeIn K cd_push_over "push_over" = true) (k_push_over : PySem.W.keepIn K (.ref f_push_over) = true)
    (a_left_rim : PySem.W.nsIn K mainGlobals "left_rim" = some (some (.ref f_left_rim))) (l_left_rim : K.lookup f_left_rim = some ⟨oc_left_rim, od_left_rim, .func (PySem.W.fnOf "left_rim" "left_rim" (defArgs s_left_rim) (defBody s_left_rim) (defScope s_left_rim) .none kV_left_rim dc_left_rim pm_left_rim an_left_rim cd_left_rim ct_left_rim), sl_left_rim⟩) (c_left_rim : PySem.W.codeIn K cd_left_rim "left_rim" = true) (k_left_rim : PySem.W.keepIn K (.ref f_left_rim) = true)
    (a_push_beside : PySem.W.nsIn K mainGlobals "push_beside" = some (some (.ref f_push_beside))) (l_push_beside : K.lookup f_push_beside = some ⟨oc_push_beside, od_push_beside, .func (PySem.W.fnOf "push_beside" "push_beside" (defArgs s_push_beside) (defBody s_push_beside) (defScope s_push_beside) .none kV_push_beside dc_push_beside pm_push_beside an_push_beside cd_push_beside ct_push_beside), sl_push_beside⟩) (c_push_beside : PySem.W.codeIn K cd_push_beside "push_beside" = true) (k_push_beside : PySem.W.keepIn K (.ref f_push_beside) = true)
    (a_law_bag : PySem.W.nsIn K mainGlobals "_law_bag" = some (some (.ref f_law_bag))) (l_law_bag : K.lookup f_law_bag = some ⟨oc_law_bag, od_law_bag, .func (PySem.W.fnOf "_law_bag" "_law_bag" (defArgs s_law_bag) (defBody s_law_bag) (defScope s_law_bag) .none kV_law_bag dc_law_bag pm_law_bag an_law_bag cd_law_bag ct_law_bag), sl_law_bag⟩) (c_law_bag : PySem.W.codeIn K cd_law_bag "_law_bag" = true) (k_law_bag : PySem.W.keepIn K (.ref f_law_bag) = true)
    (a_law_take : PySem.W.nsIn K mainGlobals "_law_take" = some (some (.ref f_law_take))) (l_law_take : K.lookup f_law_take = some ⟨oc_law_take, od_law_take, .func (PySem.W.fnOf "_law_take" "_law_take" (defArgs s_law_take) (defBody s_law_take) (defScope s_law_take) .none kV_law_take dc_law_take pm_law_take an_law_take cd_law_take ct_law_take), sl_law_take⟩) (c_law_take : PySem.W.codeIn K cd_law_take "_law_take" = true) (k_law_take : PySem.W.keepIn K (.ref f_law_take) = true)
    (a_law_left_lines : PySem.W.nsIn K mainGlobals "_law_left_lines" = some (some (.ref f_law_left_lines))) (l_law_left_lines : K.lookup f_law_left_lines = some ⟨oc_law_left_lines, od_law_left_lines, .func (PySem.W.fnOf "_law_left_lines" "_law_left_lines" (defArgs s_law_left_lines) (defBody s_law_left_lines) (defScope s_law_left_lines) .none kV_law_left_lines dc_law_left_lines pm_law_left_lines an_law_left_lines cd_law_left_lines ct_law_left_lines), sl_law_left_lines⟩) (c_law_left_lines : PySem.W.codeIn K cd_law_left_lines "_law_left_lines" = true) (k_law_left_lines : PySem.W.keepIn K (.ref f_law_left_lines) = true)
    (a_law_pushed : PySem.W.nsIn K mainGlobals "_law_pushed" = some (some (.ref f_law_pushed))) (l_law_pushed : K.lookup f_law_pushed = some ⟨oc_law_pushed, od_law_pushed, .func (PySem.W.fnOf "_law_pushed" "_law_pushed" (defArgs s_law_pushed) (defBody s_law_pushed) (defScope s_law_pushed) .none kV_law_pushed dc_law_pushed pm_law_pushed an_law_pushed cd_law_pushed ct_law_pushed), sl_law_pushed⟩) (c_law_pushed : PySem.W.codeIn K cd_law_pushed "_law_pushed" = true) (k_law_pushed : PySem.W.keepIn K (.ref f_law_pushed) = true)
    (a_law_form : PySem.W.nsIn K mainGlobals "_law_form" = some (some (.ref f_law_form))) (l_law_form : K.lookup f_law_form = some ⟨oc_law_form, od_law_form, .func (PySem.W.fnOf "_law_form" "_law_form" (defArgs s_law_form) (defBody s_law_form) (defScope s_law_form) .none kV_law_form dc_law_form pm_law_form an_law_form cd_law_form ct_law_form), sl_law_form⟩) (c_law_form : PySem.W.codeIn K cd_law_form "_law_form" = true) (k_law_form : PySem.W.keepIn K (.ref f_law_form) = true)
    (a_law_mirror : PySem.W.nsIn K mainGlobals "_law_mirror" = some (some (.ref f_law_mirror))) (l_law_mirror : K.lookup f_law_mirror = some ⟨oc_law_mirror, od_law_mirror, .func (PySem.W.fnOf "_law_mirror" "_law_mirror" (defArgs s_law_mirror) (defBody s_law_mirror) (defScope s_law_mirror) .none kV_law_mirror dc_law_mirror pm_law_mirror an_law_mirror cd_law_mirror ct_law_mirror), sl_law_mirror⟩) (c_law_mirror : PySem.W.codeIn K cd_law_mirror "_law_mirror" = true) (k_law_mirror : PySem.W.keepIn K (.ref f_law_mirror) = true)
    (a_law : PySem.W.nsIn K mainGlobals "law" = some (some (.ref f_law))) (l_law : K.lookup f_law = some ⟨oc_law, od_law, .func (PySem.W.fnOf "law" "law" (defArgs s_law) (defBody s_law) (defScope s_law) .none kV_law dc_law pm_law an_law cd_law ct_law), sl_law⟩) (c_law : PySem.W.codeIn K cd_law "law" = true) (k_law : PySem.W.keepIn K (.ref f_law) = true)
    (z_enumerate : PySem.W.nsIn K mainGlobals "enumerate" = some none)
    (z_len : PySem.W.nsIn K mainGlobals "len" = some none)
    (z_list : PySem.W.nsIn K mainGlobals "list" = some none)
    (z_max : PySem.W.nsIn K mainGlobals "max" = some none)
    (z_min : PySem.W.nsIn K mainGlobals "min" = some none)
    (z_range : PySem.W.nsIn K mainGlobals "range" = some none)
    (z_tuple : PySem.W.nsIn K mainGlobals "tuple" = some none)
    : ∃ fd : FuncData, (∀ (s : Shared) (v : Value), BindsTo s fd ⟨[v], []⟩ [("script", v)]) ∧ ∀ base : Heap, K.In base → base.Ns mainGlobals mg → BsOk K mg base → FnOk l.prog w K mg base CX0 4 fa fd ["script"] (spD K 1 F_law) := by
  have e := hfa.symm.trans (PySem.W.mg_of X G a_law)
  cases e
  have T : Bl mg := ⟨PySem.W.mg_none_of X G z_enumerate, PySem.W.mg_none_of X G z_len, PySem.W.mg_none_of X G z_list, PySem.W.mg_none_of X G z_max, PySem.W.mg_none_of X G z_min, PySem.W.mg_none_of X G z_range, PySem.W.mg_none_of X G z_tuple⟩
  have Flines_hung_from := fun_mk (st := s_lines_hung_from) l_lines_hung_from c_lines_hung_from k_lines_hung_from
  have blines_hung_from := Flines_hung_from.binds (ps := ["touching"]) fun _ _ _ _ _ _ us hl => match us, hl with | [_], _ => rfl
  have Flines_stood_on := fun_mk (st := s_lines_stood_on) l_lines_stood_on c_lines_stood_on k_lines_stood_on
  have blines_stood_on := Flines_stood_on.binds (ps := ["touching"]) fun _ _ _ _ _ _ us hl => match us, hl with | [_], _ => rfl
  have Fnext_number := fun_mk (st := s_next_number) l_next_number c_next_number k_next_number
  have bnext_number := Fnext_number.binds (ps := ["touching"]) fun _ _ _ _ _ _ us hl => match us, hl with | [_], _ => rfl
  have Fnearest_count := fun_mk (st := s_nearest_count) l_nearest_count c_nearest_count k_nearest_count
  have bnearest_count := Fnearest_count.binds (ps := ["many", "most"]) fun _ _ _ _ _ _ us hl => match us, hl with | [_, _], _ => rfl
  have Fpush_over := fun_mk (st := s_push_over) l_push_over c_push_over k_push_over
  have bpush_over := Fpush_over.binds (ps := ["touching", "many"]) fun _ _ _ _ _ _ us hl => match us, hl with | [_, _], _ => rfl
  have Fleft_rim := fun_mk (st := s_left_rim) l_left_rim c_left_rim k_left_rim
  have bleft_rim := Fleft_rim.binds (ps := ["touching"]) fun _ _ _ _ _ _ us hl => match us, hl with | [_], _ => rfl
  have Fpush_beside := fun_mk (st := s_push_beside) l_push_beside c_push_beside k_push_beside
  have bpush_beside := Fpush_beside.binds (ps := ["touching", "many"]) fun _ _ _ _ _ _ us hl => match us, hl with | [_, _], _ => rfl
  have Flaw_bag := fun_mk (st := s_law_bag) l_law_bag c_law_bag k_law_bag
  have blaw_bag := Flaw_bag.binds (ps := ["script", "k"]) fun _ _ _ _ _ _ us hl => match us, hl with | [_, _], _ => rfl
  have Flaw_take := fun_mk (st := s_law_take) l_law_take c_law_take k_law_take
  have blaw_take := Flaw_take.binds (ps := ["bag", "many"]) fun _ _ _ _ _ _ us hl => match us, hl with | [_, _], _ => rfl
  have Flaw_left_lines := fun_mk (st := s_law_left_lines) l_law_left_lines c_law_left_lines k_law_left_lines
  have blaw_left_lines := Flaw_left_lines.binds (ps := ["touching"]) fun _ _ _ _ _ _ us hl => match us, hl with | [_], _ => rfl
  have Flaw_pushed := fun_mk (st := s_law_pushed) l_law_pushed c_law_pushed k_law_pushed
  have blaw_pushed := Flaw_pushed.binds (ps := ["bag", "many"]) fun _ _ _ _ _ _ us hl => match us, hl with | [_, _], _ => rfl
  have Flaw_form := fun_mk (st := s_law_form) l_law_form c_law_form k_law_form
  have blaw_form := Flaw_form.binds (ps := ["touching"]) fun _ _ _ _ _ _ us hl => match us, hl with | [_], _ => rfl
  have Flaw_mirror := fun_mk (st := s_law_mirror) l_law_mirror c_law_mirror k_law_mirror
  have blaw_mirror := Flaw_mirror.binds (ps := ["touching"]) fun _ _ _ _ _ _ us hl => match us, hl with | [_], _ => rfl
  have Flaw := fun_mk (st := s_law) l_law c_law k_law
  refine ⟨PySem.W.fnOf "law" "law" (defArgs s_law) (defBody s_law) (defScope s_law) .none kV_law dc_law pm_law an_law cd_law ct_law, fun s v => .of_eq rfl, fun base _ _ B => ?_⟩
  have Clines_hung_from : Cal l.prog w K mg base 1 "lines_hung_from" ["touching"] 1 F_lines_hung_from := ⟨_, _, ok_lines_hung_from Flines_hung_from T , PySem.W.mg_of X G a_lines_hung_from, k_lines_hung_from, blines_hung_from⟩
  have Clines_stood_on : Cal l.prog w K mg base 1 "lines_stood_on" ["touching"] 1 F_lines_stood_on := ⟨_, _, ok_lines_stood_on Flines_stood_on T , PySem.W.mg_of X G a_lines_stood_on, k_lines_stood_on, blines_stood_on⟩
  have Cnext_number : Cal l.prog w K mg base 2 "next_number" ["touching"] 1 F_next_number := ⟨_, _, ok_next_number Fnext_number T Clines_hung_from, PySem.W.mg_of X G a_next_number, k_next_number, bnext_number⟩
  have Cnearest_count : Cal l.prog w K mg base 1 "nearest_count" ["many", "most"] 2 F_nearest_count := ⟨_, _, ok_nearest_count Fnearest_count T , PySem.W.mg_of X G a_nearest_count, k_nearest_count, bnearest_count⟩
  have Cpush_over : Cal l.prog w K mg base 3 "push_over" ["touching", "many"] 2 F_push_over := ⟨_, _, ok_push_over Fpush_over T Cnext_number Cnearest_count, PySem.W.mg_of X G a_push_over, k_push_over, bpush_over⟩
  have Cleft_rim : Cal l.prog w K mg base 2 "left_rim" ["touching"] 1 F_left_rim := ⟨_, _, ok_left_rim Fleft_rim T Clines_stood_on, PySem.W.mg_of X G a_left_rim, k_left_rim, bleft_rim⟩
  have Cpush_beside : Cal l.prog w K mg base 3 "push_beside" ["touching", "many"] 2 F_push_beside := ⟨_, _, ok_push_beside Fpush_beside T Cnext_number Cleft_rim Cnearest_count Clines_stood_on, PySem.W.mg_of X G a_push_beside, k_push_beside, bpush_beside⟩
  have Claw_bag : Cal l.prog w K mg base 1 "_law_bag" ["script", "k"] 2 F_law_bag := ⟨_, _, ok_law_bag Flaw_bag T , PySem.W.mg_of X G a_law_bag, k_law_bag, blaw_bag⟩
  have Claw_take : Cal l.prog w K mg base 1 "_law_take" ["bag", "many"] 2 F_law_take := ⟨_, _, ok_law_take Flaw_take T , PySem.W.mg_of X G a_law_take, k_law_take, blaw_take⟩
  have Claw_left_lines : Cal l.prog w K mg base 1 "_law_left_lines" ["touching"] 1 F_law_left_lines := ⟨_, _, ok_law_left_lines Flaw_left_lines T , PySem.W.mg_of X G a_law_left_lines, k_law_left_lines, blaw_left_lines⟩
  have Claw_pushed : Cal l.prog w K mg base 2 "_law_pushed" ["bag", "many"] 2 F_law_pushed := ⟨_, _, ok_law_pushed Flaw_pushed T Claw_take Claw_left_lines, PySem.W.mg_of X G a_law_pushed, k_law_pushed, blaw_pushed⟩
  have Claw_form : Cal l.prog w K mg base 1 "_law_form" ["touching"] 1 F_law_form := ⟨_, _, ok_law_form Flaw_form T , PySem.W.mg_of X G a_law_form, k_law_form, blaw_form⟩
  have Claw_mirror : Cal l.prog w K mg base 1 "_law_mirror" ["touching"] 1 F_law_mirror := ⟨_, _, ok_law_mirror Flaw_mirror T , PySem.W.mg_of X G a_law_mirror, k_law_mirror, blaw_mirror⟩
  exact ok_law Flaw T Claw_bag Claw_take Claw_form Claw_mirror Claw_pushed Cpush_over Claw_left_lines Cpush_beside
theorem walk {l : PySem.W.OpenLaw} {q : Program} {loose : List Str} {XP : (Str → Option Value) → Heap → Prop} {YP : World → Heap → Prop} {d : DefRec} {K : Params → PySem.W.Frag} (hn : l.most = some 63) (hdf : d.params.defaults = [])
    (hY : ∀ (w : World) (h : Heap), YP w h → (K w.params).In h) (hNT : ∀ w : World, PySem.W.noTabs (K w.params) = true)
    (hTN : ∀ (w : World), ∀ x ∈ tbNames, (∃ d, (PyProof.Rows.recsOf q).find? (fun e => e.name == x) = some d) ∨ PySem.W.nsIn (K w.params) mainGlobals x = some none)
    (F : ∀ (w : World) (mg : Str → Option Value) (fa : Addr) (h : Heap), (K w.params).In h → h.Ns mainGlobals mg → mg d.name = some (.ref fa) →
      ∃ fd : FuncData, (∀ (s : Shared) (u : Value), BindsTo s fd ⟨[u], []⟩ [("script", u)]) ∧ ∀ base : Heap, (K w.params).In base → base.Ns mainGlobals mg → BsOk (K w.params) mg base → FnOk l.prog w (K w.params) mg base CX0 4 fa fd ["script"] (spD (K w.params) 1 F_law)) :
    PySem.W.WalkO q loose XP YP l.row.toRowW d [] (fun f vs => PySem.call f vs) :=
  walk_ofT (n := 63) (k := 4) (x := "script") (sp := fun K => spD K 1 F_law) hn (by decide) hdf ⟨rfl, by decide, by decide⟩ hY hNT hTN F fun _ _ a ns hl tb hS => law_sp hS tb (law_true hl)
end K21
open PySem PySem.W PyProof.Rows
set_option maxRecDepth 100000 in
set_option maxHeartbeats 0 in
theorem PySem.Challenge.cw_squareweb_k21_whole_pushes_in_one_way_holds : PySem.Challenge.rw_squareweb_k21_whole_pushes_in_one_way.Holds := by
  w_on; o_law; k_head; (case hw => w_witness2)
  k_fill
  refine K21.walk (l := PySem.Challenge.rw_squareweb_k21_whole_pushes_in_one_way) rfl rfl (fun w h Y => by first | exact PySem.W.kIn_of Y | exact PySem.W.km_in_of Y) ?tbN ?tbT ?F
  case tbN => intro w; rfl
  case tbT =>
    intro w x hx
    simp only [DL.tbNames, List.mem_cons, List.not_mem_nil, or_false] at hx
    rcases hx with rfl | rfl | rfl | rfl | rfl | rfl | rfl | rfl | rfl | rfl | rfl | rfl | rfl | rfl | rfl <;> first | exact Or.inl ⟨_, rfl⟩ | exact Or.inr (by k_is)
  case F =>
    intro w mg fa h KX G hmg
    refine' K21.all_mk KX G hmg ?a_lines_hung_from ?l_lines_hung_from ?c_lines_hung_from ?k_lines_hung_from ?a_lines_stood_on ?l_lines_stood_on ?c_lines_stood_on ?k_lines_stood_on ?a_next_number ?l_next_number ?c_next_number ?k_next_number ?a_nearest_count ?l_nearest_count ?c_nearest_count ?k_nearest_count ?a_push_over ?l_push_over ?c_push_over ?k_push_over ?a_left_rim ?l_left_rim ?c_left_rim ?k_left_rim ?a_push_beside ?l_push_beside ?c_push_beside ?k_push_beside ?a_law_bag ?l_law_bag ?c_law_bag ?k_law_bag ?a_law_take ?l_law_take ?c_law_take ?k_law_take ?a_law_left_lines ?l_law_left_lines ?c_law_left_lines ?k_law_left_lines ?a_law_pushed ?l_law_pushed ?c_law_pushed ?k_law_pushed ?a_law_form ?l_law_form ?c_law_form ?k_law_form ?a_law_mirror ?l_law_mirror ?c_law_mirror ?k_law_mirror ?a_law ?l_law ?c_law ?k_law ?z_enumerate ?z_len ?z_list ?z_max ?z_min ?z_range ?z_tuple
    (case a_lines_hung_from => k_is)
    (case l_lines_hung_from => k_is)
    (case c_lines_hung_from => k_is)
    (case k_lines_hung_from => k_is)
    (case a_lines_stood_on => k_is)
    (case l_lines_stood_on => k_is)
    (case c_lines_stood_on => k_is)
    (case k_lines_stood_on => k_is)
    (case a_next_number => k_is)
    (case l_next_number => k_is)
    (case c_next_number => k_is)
    (case k_next_number => k_is)
    (case a_nearest_count => k_is)
    (case l_nearest_count => k_is)
    (case c_nearest_count => k_is)
    (case k_nearest_count => k_is)
    (case a_push_over => k_is)
    (case l_push_over => k_is)
    (case c_push_over => k_is)
    (case k_push_over => k_is)
    (case a_left_rim => k_is)
    (case l_left_rim => k_is)
    (case c_left_rim => k_is)
    (case k_left_rim => k_is)
    (case a_push_beside => k_is)
    (case l_push_beside => k_is)
    (case c_push_beside => k_is)
    (case k_push_beside => k_is)
    (case a_law_bag => k_is)
    (case l_law_bag => k_is)
    (case c_law_bag => k_is)
    (case k_law_bag => k_is)
    (case a_law_take => k_is)
    (case l_law_take => k_is)
    (case c_law_take => k_is)
    (case k_law_take => k_is)
    (case a_law_left_lines => k_is)
    (case l_law_left_lines => k_is)
    (case c_law_left_lines => k_is)
    (case k_law_left_lines => k_is)
    (case a_law_pushed => k_is)
    (case l_law_pushed => k_is)
    (case c_law_pushed => k_is)
    (case k_law_pushed => k_is)
    (case a_law_form => k_is)
    (case l_law_form => k_is)
    (case c_law_form => k_is)
    (case k_law_form => k_is)
    (case a_law_mirror => k_is)
    (case l_law_mirror => k_is)
    (case c_law_mirror => k_is)
    (case k_law_mirror => k_is)
    (case a_law => k_is)
    (case l_law => k_is)
    (case c_law => k_is)
    (case k_law => k_is)
    (case z_enumerate => k_is)
    (case z_len => k_is)
    (case z_list => k_is)
    (case z_max => k_is)
    (case z_min => k_is)
    (case z_range => k_is)
    (case z_tuple => k_is)

