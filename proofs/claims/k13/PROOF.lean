import PyProof.Rows.All
import Wide.All
import OpenK.AllK
import Wide.FinOn
import Lean
import PyProof.EqAt
import PyProof.EqKinds
import PyProof.TupleCall
import PyProof.NeKinds
import PySem.Challenge.RW_beltboxes_k13_unpacked_box_by_box
-- CHANGE: your row's module here, as the last of these rows
set_option Elab.async false
set_option linter.all false
set_option maxRecDepth 100000
/-! THE HAND LAYER, for ints, bools, texts, own classes, LISTS and tuples (index, slices, in, append, pop ..), calls, loops. Paste it whole ahead of your own text; what your proof does not reach may be deleted. -/
namespace L2
open PySem PySem.Spec PyProof.Rows

/-- a key: an int or a str -/
abbrev Key := Sum Int Str
def keyIs : Key → Value → Bool
  | .inl k, v => Value.isInt k v
  | .inr x, v => Value.isStrOf x v
def keyH (w : World) : Key → Int
  | .inl k => hashInt k
  | .inr x => hashStr w x
theorem keyIs_shape : ∀ {k : Key} {v : Value}, keyIs k v = true → (∃ i t, k = Sum.inl i ∧ v = Value.int i t) ∨ (∃ x t, k = Sum.inr x ∧ v = Value.str x t)
  | .inl i, v, h => by
    obtain ⟨t, e⟩ := Value.isInt_shape (k := i) (v := v) h
    exact .inl ⟨i, t, rfl, e⟩
  | .inr x, v, h => by
    obtain ⟨t, e⟩ := Value.isStrOf_shape (x := x) (v := v) h
    exact .inr ⟨x, t, rfl, e⟩
theorem keyIs_int (i : Int) (t : Tok) : keyIs (.inl i) (.int i t) = true := by simp [keyIs, Value.isInt]
theorem keyIs_str (x : Str) (t : Tok) : keyIs (.inr x) (.str x t) = true := by simp [keyIs, Value.isStrOf]
theorem key_ll (a b : Int) : decide ((Sum.inl a : Key) = Sum.inl b) = (a == b) := by
  by_cases e : a = b
  · subst e; simp
  · have h : ¬ (Sum.inl a : Key) = Sum.inl b := fun q => e (Sum.inl.inj q)
    rw [decide_eq_false h]
    exact (beq_eq_false_iff_ne.mpr e).symm
theorem key_rr (a b : Str) : decide ((Sum.inr a : Key) = Sum.inr b) = decide (a = b) := by
  by_cases e : a = b
  · subst e; simp
  · have h : ¬ (Sum.inr a : Key) = Sum.inr b := fun q => e (Sum.inr.inj q)
    rw [decide_eq_false h, decide_eq_false e]
theorem key_lr (a : Int) (b : Str) : decide ((Sum.inl a : Key) = Sum.inr b) = false := decide_eq_false (fun q => nomatch q)
theorem key_rl (a : Str) (b : Int) : decide ((Sum.inr a : Key) = Sum.inl b) = false := decide_eq_false (fun q => nomatch q)

def mixKind (prog : Program) (w : World) : PySem.KeyKind prog w Key where
  is := keyIs
  hash := keyH w
  inj := fun v a b ha hb => by
    rcases keyIs_shape ha with ⟨i, t, rfl, rfl⟩ | ⟨x, t, rfl, rfl⟩
    · rcases keyIs_shape hb with ⟨j, u, rfl, e⟩ | ⟨y, u, rfl, e⟩
      · injection e with e1 _; rw [e1]
      · exact nomatch e
    · rcases keyIs_shape hb with ⟨j, u, rfl, e⟩ | ⟨y, u, rfl, e⟩
      · exact nomatch e
      · injection e with e1 _; rw [e1]
  byValue := fun k v h => by
    rcases keyIs_shape h with ⟨i, t, rfl, rfl⟩ | ⟨x, t, rfl, rfl⟩ <;> rfl
  pyHash := fun hv h => by
    rcases keyIs_shape hv with ⟨i, t, rfl, rfl⟩ | ⟨x, t, rfl, rfl⟩
    · exact wpAny_pyHash_int h
    · exact wpAny_pyHash_str h
  eqBool := fun hu hv h => by
    rcases keyIs_shape hu with ⟨i, t, rfl, rfl⟩ | ⟨x, t, rfl, rfl⟩
    · rcases keyIs_shape hv with ⟨j, u, rfl, rfl⟩ | ⟨y, u, rfl, rfl⟩
      · rw [key_ll] at h; exact wpAny_eqBool_int h
      · rw [key_lr] at h; exact SeqAt.EqAt.int_str i t y u _ _ _ _ h
    · rcases keyIs_shape hv with ⟨j, u, rfl, rfl⟩ | ⟨y, u, rfl, rfl⟩
      · rw [key_rl] at h; exact SeqAt.EqAt.str_int x t j u _ _ _ _ h
      · rw [key_rr] at h; exact wpAny_eqBool_str h
  «strs» := fun k x t v h => by
    rcases keyIs_shape h with ⟨i, u, rfl, e⟩ | ⟨y, u, rfl, e⟩
    · exact nomatch e
    · injection e with e1 _
      subst e1
      cases v <;> rfl

theorem mixKind_int (prog : Program) (w : World) (i : Int) (t : Tok) : (mixKind prog w).is (.inl i) (.int i t) = true := keyIs_int i t
theorem mixKind_str (prog : Program) (w : World) (x : Str) (t : Tok) : (mixKind prog w).is (.inr x) (.str x t) = true := keyIs_str x t
end L2

namespace L2
open PySem PySem.Spec PyProof.Rows

/-- a value, without the heap -/
inductive V where
  | non | bl (b : Bool) | int (i : Int) | str (x : Str) | byt (b : Array UInt8) | flt (b : UInt64) | ref (a : Addr) | ty (n : String)
  deriving DecidableEq

def RelV : V → Value → Prop
  | .non, u => u = Value.none
  | .bl b, u => u = Value.bool b
  | .int i, u => ∃ t, u = Value.int i t
  | .str x, u => ∃ t, u = Value.str x t
  | .byt b, u => ∃ t, u = Value.bytes b t
  | .flt b, u => ∃ t, u = Value.float b t
  | .ref a, u => u = Value.ref a
  | .ty n, u => u = Value.type n

abbrev Vals : List V → List Value → Prop := Paired RelV
theorem Vals.length {xs : List V} {us : List Value} (r : Vals xs us) : xs.length = us.length := Paired.length r
theorem Vals.get : ∀ {xs : List V} {us : List Value} {i : Nat} {x : V}, Vals xs us → xs[i]? = some x → ∃ u, us[i]? = some u ∧ RelV x u
  | _, _, _, _, .nil, e => by simp at e
  | _, _, 0, _, .cons r _, e => by simp at e; subst e; exact ⟨_, rfl, r⟩
  | _, _, i + 1, x, .cons _ t, e => by
    obtain ⟨u, h1, h2⟩ := Vals.get (i := i) (x := x) t (by simpa using e)
    exact ⟨u, by simpa using h1, h2⟩
theorem Vals.set {x : V} {u : Value} (r : RelV x u) : ∀ {xs : List V} {us : List Value} (i : Nat), Vals xs us → Vals (xs.set i x) (us.set i u)
  | _, _, _, .nil => .nil
  | _, _, 0, .cons _ t => .cons r t
  | _, _, i + 1, .cons q t => .cons q (Vals.set r i t)
theorem Vals.append : ∀ {xs ys : List V} {us ws : List Value}, Vals xs us → Vals ys ws → Vals (xs ++ ys) (us ++ ws)
  | _, _, _, _, .nil, s => s
  | _, _, _, _, .cons r t, s => .cons r (Vals.append t s)
theorem Vals.take : ∀ {xs : List V} {us : List Value} (n : Nat), Vals xs us → Vals (xs.take n) (us.take n)
  | _, _, 0, _ => .nil
  | _, _, _ + 1, .nil => .nil
  | _, _, n + 1, .cons r t => .cons r (Vals.take n t)
theorem Vals.drop : ∀ {xs : List V} {us : List Value} (n : Nat), Vals xs us → Vals (xs.drop n) (us.drop n)
  | _, _, 0, r => r
  | _, _, _ + 1, .nil => .nil
  | _, _, n + 1, .cons _ t => Vals.drop n t

def RelO : Option V → Option Value → Prop
  | some v, some u => RelV v u
  | none, none => True
  | _, _ => False
def KV {κ : Type} : List (κ × V) → List (κ × Value) → Prop := Paired fun (p : κ × V) (q : κ × Value) => p.1 = q.1 ∧ RelV p.2 q.2

/-- a key of a dict (00_mix): an int or a text -/
def kV : Key → V
  | .inl i => .int i
  | .inr x => .str x

/-- what stands at a tracked address -/
inductive HO where
  /-- a list -/
  | lst (xs : List V)
  /-- a tuple (never changes) -/
  | tup (xs : List V)
  /-- a dict whose keys are ints and texts; one whose keys are tuples of ints and texts (the empty one is both) -/
  | dK (kvs : List (Key × V)) | dT (kvs : List (List Key × V))
  /-- a set of ints: its members, its size -/
  | set (S : Int → Bool) (n : Nat)
  /-- an instance of the class at C, its dict at dx, its attributes -/
  | ins (C dx : Addr) (fs : List (Str × V))
  /-- the dict of the instance at x -/
  | own (x : Addr)
  /-- the dict of an exception -/
  | xd (fs : List (Str × V))
  /-- a bound method, f of x -/
  | met (f x : Addr)
  /-- a range object lo, lo + 1, .. below hi -/
  | rng (lo hi : Int)
  /-- a thing that is known to the object (the script; a dict while a loop walks it): read, never written while it is so -/
  | frz (o : Obj) (u : HO)
  /-- a code object's table -/
  | tbl (ps : Array Value)
  /-- any other thing, by what is true of its one object (a def of one's own: SetO a S n := HO.ext fun h => ..) -/
  | ext (φ : Heap → Prop)

abbrev Hp := Addr → Option HO
def upd (H : Hp) (a : Addr) (o : HO) : Hp := fun b => if b = a then some o else H b
theorem upd_same {H : Hp} {a : Addr} {o : HO} : upd H a o a = some o := by unfold upd; rw [if_pos rfl]
theorem upd_ne {H : Hp} {a b : Addr} {o : HO} (h : b ≠ a) : upd H a o b = H b := by unfold upd; rw [if_neg h]
/-- two objects of different content stand apart -/
theorem ne_of {H : Hp} {a b : Addr} {o u : HO} (h : H a = some o) (h' : H b = some u) (d : o ≠ u) : a ≠ b := by
  intro e; subst e; rw [h] at h'; exact d (Option.some.inj h')
theorem ne_of_none {H : Hp} {a b : Addr} {o : HO} (h : H a = some o) (h' : H b = none) : a ≠ b := by
  intro e; subst e; rw [h] at h'; cases h'

section
variable (P : Program) (w : World)
def ObjOk (H : Hp) (h : Heap) (a : Addr) : HO → Prop
  | .lst xs => xs.length ≤ sizeLine ∧ ∃ (its : List Value) (n : Nat), Vals xs its ∧ h.get? a = some { cls := .type "list", data := .seq its.toArray n }
  | .tup xs => xs.length ≤ sizeLine ∧ ∃ its : List Value, Vals xs its ∧ IsTup h a its.toArray
  | .dK kvs => kvs.length ≤ sizeLine ∧ (a == sysModules) = false ∧ ∃ vs, KV kvs vs ∧ h.DictOf (mixKind P w) a vs
  | .dT kvs => kvs.length ≤ sizeLine ∧ (a == sysModules) = false ∧ ∃ xs : List (List Key × Addr × Value),
      Paired (fun (p : List Key × V) (q : List Key × Addr × Value) => p.1 = q.1 ∧ H q.2.1 = some (.tup (p.1.map kV)) ∧ RelV p.2 q.2.2) kvs xs ∧
      ∃ o es ep, h.get? a = some o ∧ o.ExactDict ∧ o.data = .dict es ep ∧ es.toList = xs.map (entryOfKey (tupleKind (mixKind P w))) ∧ (xs.map (·.1)).Nodup
  | .set S n => h.SetOf (intKind P w) a S n
  | .ins C dx fs => H dx = some (.own a) ∧ fs.length ≤ 1000 ∧ dx ≠ a ∧ h.get? a = some (PySem.W.instObj C dx) ∧
      ∃ mA, h.Ns1 dx mA ∧ (∀ f, RelO (fs.lookup f) (mA f)) ∧ PySem.Within mA (fs.map (·.1))
  | .own _ => ∃ o, h.get? a = some o
  | .xd fs => ∃ mA, h.Ns1 a mA ∧ ∀ f, RelO (fs.lookup f) (mA f)
  | .rng lo hi => ∃ t u v, h.get? a = some { cls := .type "range", data := .fields #[.int lo t, .int hi u, .int 1 v] }
  | .frz o u => h.get? a = some o ∧ ObjOk H h a u
  | .tbl ps => h.get? a = some { cls := .none, data := .fields ps }
  | .met f x => h.get? a = some (PySem.W.methodObj (.ref f) (.ref x))
  | .ext φ => φ h ∧ (∃ o, h.get? a = some o) ∧ ∀ h1 h2 : Heap, φ h1 → (∀ o, h1.get? a = some o → h2.get? a = some o) → φ h2
/-- the abstract heap is held -/
def HOk (H : Hp) (h : Heap) : Prop := ∀ a o, H a = some o → ObjOk P w H h a o
end

section
variable {P : Program} {w : World} {H H' : Hp} {h h' : Heap} {a : Addr} {o : HO}
theorem ObjOk.lt (x : ObjOk P w H h a o) : a < h.objs.size := by
  cases o with
  | lst xs => obtain ⟨_, _, _, _, e⟩ := x; exact Heap.lt_size e
  | tup xs => obtain ⟨_, _, _, p⟩ := x; exact p.lt
  | dK kvs => obtain ⟨_, _, _, _, o, _, _, e, _⟩ := x; exact Heap.lt_size e
  | dT kvs => obtain ⟨_, _, _, _, o, _, _, e, _⟩ := x; exact Heap.lt_size e
  | set S n => obtain ⟨o, _, _, _, e, _⟩ := x; exact Heap.lt_size e
  | ins C dx fs => obtain ⟨_, _, _, e, _⟩ := x; exact Heap.lt_size e
  | own y => obtain ⟨_, e⟩ := x; exact Heap.lt_size e
  | xd fs => obtain ⟨_, ⟨_, _, _, e, _⟩, _⟩ := x; exact Heap.lt_size e
  | rng lo hi => obtain ⟨_, _, _, e⟩ := x; exact Heap.lt_size e
  | frz ob u => obtain ⟨e, _⟩ := x; exact Heap.lt_size e
  | tbl ps => exact Heap.lt_size (show h.get? a = some _ from x)
  | met f y => exact Heap.lt_size (show h.get? a = some _ from x)
  | ext φ => obtain ⟨_, ⟨_, e⟩, _⟩ := x; exact Heap.lt_size e
theorem Paired.mapP {α β : Type} {F G : α → β → Prop} : ∀ {l₁ : List α} {l₂ : List β}, Paired F l₁ l₂ → (∀ a b, F a b → G a b) → Paired G l₁ l₂
  | _, _, .nil, _ => .nil
  | _, _, .cons r t, f => .cons (f _ _ r) (Paired.mapP t f)
/-- what an object's description leans on: its own object, its own dict, the tuples -/
theorem ObjOk.stay (x : ObjOk P w H h a o) (k : ∀ b u, (b = a ∨ H b = some (.own a)) → h.get? b = some u → h'.get? b = some u)
    (ho : ∀ b, H b = some (.own a) → H' b = some (.own a)) (ht : ∀ b xs, H b = some (.tup xs) → H' b = some (.tup xs)) : ObjOk P w H' h' a o := by
  induction o with
  | lst xs => obtain ⟨z, its, n, r, e⟩ := x; exact ⟨z, its, n, r, k _ _ (.inl rfl) e⟩
  | tup xs => obtain ⟨z, its, r, ob, e, c⟩ := x; exact ⟨z, its, r, ob, k _ _ (.inl rfl) e, c⟩
  | dK kvs => obtain ⟨z, y, vs, r, ob, es, ep, e, c⟩ := x; exact ⟨z, y, vs, r, ob, es, ep, k _ _ (.inl rfl) e, c⟩
  | dT kvs =>
    obtain ⟨z, y, xs, r, ob, es, ep, e, c⟩ := x
    exact ⟨z, y, xs, Paired.mapP r fun p q z => ⟨z.1, ht _ _ z.2.1, z.2.2⟩, ob, es, ep, k _ _ (.inl rfl) e, c⟩
  | set S n => obtain ⟨ob, es, ep, t, e, c⟩ := x; exact ⟨ob, es, ep, t, k _ _ (.inl rfl) e, c⟩
  | ins C dx fs =>
    obtain ⟨d, z, ne, e, mA, ⟨od, es, ep, e2, c⟩, r⟩ := x
    exact ⟨ho _ d, z, ne, k _ _ (.inl rfl) e, mA, ⟨od, es, ep, k _ _ (.inr d) e2, c⟩, r⟩
  | own y => obtain ⟨ob, e⟩ := x; exact ⟨ob, k _ _ (.inl rfl) e⟩
  | xd fs => obtain ⟨mA, ⟨od, es, ep, e, c⟩, r⟩ := x; exact ⟨mA, ⟨od, es, ep, k _ _ (.inl rfl) e, c⟩, r⟩
  | rng lo hi => obtain ⟨t, u, v, e⟩ := x; exact ⟨t, u, v, k _ _ (.inl rfl) e⟩
  | frz ob u ih => obtain ⟨e, q⟩ := x; exact ⟨k _ _ (.inl rfl) e, ih q⟩
  | tbl ps =>
    have e : h.get? a = some { cls := .none, data := .fields ps } := x
    show h'.get? a = some { cls := .none, data := .fields ps }
    exact k a _ (.inl rfl) e
  | met f y =>
    have e : h.get? a = some (PySem.W.methodObj (.ref f) (.ref y)) := x
    show h'.get? a = some (PySem.W.methodObj (.ref f) (.ref y))
    exact k a _ (.inl rfl) e
  | ext φ => obtain ⟨p, ⟨o, e⟩, st⟩ := x; exact ⟨st _ _ p fun o q => k _ _ (.inl rfl) q, ⟨o, k _ _ (.inl rfl) e⟩, st⟩
theorem HOk.lt (x : HOk P w H h) (e : H a = some o) : a < h.objs.size := (x a o e).lt
theorem HOk.fresh (x : HOk P w H h) (e : h.objs.size ≤ a) : H a = none := by
  cases q : H a with
  | none => rfl
  | some u => exact absurd (Nat.lt_of_lt_of_le (x.lt q) e) (Nat.lt_irrefl _)
/-- every object of the heap is kept -/
theorem HOk.kept (x : HOk P w H h) (k : ∀ b u, h.get? b = some u → h'.get? b = some u) : HOk P w H h' := fun a o e =>
  (x a o e).stay (fun b u _ q => k b u q) (fun _ q => q) fun _ _ q => q
/-- a new object is laid and tracked -/
theorem HOk.laid (x : HOk P w H h) (k : ∀ b u, h.get? b = some u → h'.get? b = some u) (hp : h.objs.size ≤ a) (new : ObjOk P w (upd H a o) h' a o) : HOk P w (upd H a o) h' := fun b u e => by
  have hn := x.fresh hp
  by_cases hb : b = a
  · subst hb; rw [upd_same] at e; cases e; exact new
  · rw [upd_ne hb] at e
    exact (x b u e).stay (fun c v _ q => k c v q) (fun c q => by rw [upd_ne (ne_of_none q hn)]; exact q) fun c xs q => by rw [upd_ne (ne_of_none q hn)]; exact q
end

/-- what may be read as u: it is u, or a known u -/
def Rd (H : Hp) (a : Addr) (u : HO) : Prop := H a = some u ∨ ∃ o, H a = some (.frz o u)
theorem Rd.ok {P : Program} {w : World} {H : Hp} {h : Heap} {a : Addr} {u : HO} (r : Rd H a u) (x : HOk P w H h) : ObjOk P w H h a u := by
  rcases r with r | ⟨o, r⟩
  · exact x a u r
  · obtain ⟨_, q⟩ := x a _ r
    exact q
/-- what may be written -/
def Mut : Option HO → Prop
  | some (.lst _) => True
  | some (.dK _) => True
  | some (.dT _) => True
  | some (.set _ _) => True
  | some (.ins _ _ _) => True
  | some (.ext _) => True
  | _ => False
section
variable {P : Program} {w : World} {H : Hp} {h h' : Heap} {x e : Addr} {o' : HO}
/-- the object at e is changed: x itself, or the dict of the instance x -/
theorem HOk.write (ok : HOk P w H h) (mu : Mut (H x)) (he : e = x ∨ H e = some (.own x)) (k : ∀ b u, b ≠ e → h.get? b = some u → h'.get? b = some u) (heo : ∃ u, h'.get? e = some u)
    (new : ObjOk P w (upd H x o') h' x o') : HOk P w (upd H x o') h' := fun b u q => by
  have nown : ∀ c y, H c = some (.own y) → c ≠ x := fun c y r z => by subst z; rw [r] at mu; exact mu
  have ntup : ∀ c xs, H c = some (.tup xs) → c ≠ x := fun c xs r z => by subst z; rw [r] at mu; exact mu
  by_cases hb : b = x
  · subst hb; rw [upd_same] at q; cases q; exact new
  · rw [upd_ne hb] at q
    by_cases hbe : b = e
    · have q' : H b = some (.own x) := by
        rcases he with z | z
        · exact absurd (hbe.trans z) hb
        · rw [hbe]; exact z
      rw [q] at q'; cases q'
      obtain ⟨v, hv⟩ := heo
      exact ⟨v, by rw [hbe]; exact hv⟩
    · refine (ok b u q).stay (fun c v hc r => k c v ?_ r) (fun c r => by rw [upd_ne (nown c b r)]; exact r) fun c xs r => by rw [upd_ne (ntup c xs r)]; exact r
      rcases hc with rfl | hc
      · exact hbe
      · rintro rfl
        rcases he with z | z
        · exact nown c b hc z
        · rw [hc] at z; cases z; exact hb rfl
end

/-! ### kept unless tracked; of the frames at fs (the callers') the slots may change (an exception that passes writes there); of the records at ex (iterators) nothing is said -/
structure Un (fs ex : List Addr) (H H' : Hp) (h h' : Heap) : Prop where
  keep : ∀ b o, h.get? b = some o → H b = none → b ∉ fs → b ∉ ex → h'.get? b = some o
  slot : ∀ b o, h.get? b = some o → H b = none → b ∈ fs → b ∉ ex → ∃ sl, h'.get? b = some { o with slots := sl }
  free : ∀ b o, h.get? b = some o → H b = none → b ∉ ex → H' b = none
  there : ∀ b o, h.get? b = some o → b ∉ ex → ∃ o', h'.get? b = some o'
  tups : ∀ b xs, H b = some (.tup xs) → H' b = some (.tup xs)
  frzs : ∀ b o u, H b = some (.frz o u) → H' b = some (.frz o u)
  tbls : ∀ b ps, H b = some (.tbl ps) → ∃ more, H' b = some (.tbl (ps ++ more))
section
variable {fs fs' ex ex' : List Addr} {H H1 H2 : Hp} {h h1 h2 h' : Heap} {a x e : Addr} {o : HO}
theorem Un.any (u : Un fs ex H H1 h h1) {b : Addr} {ob : Obj} (q : h.get? b = some ob) (n : H b = none) (hx : b ∉ ex) : ∃ sl, h1.get? b = some { ob with slots := sl } := by
  by_cases hb : b ∈ fs
  · exact u.slot b ob q n hb hx
  · exact ⟨ob.slots, u.keep b ob q n hb hx⟩
theorem Un.trans (a : Un fs ex H H1 h h1) (b : Un fs ex H1 H2 h1 h2) : Un fs ex H H2 h h2 where
  keep := fun c ob q n hc hx => b.keep c ob (a.keep c ob q n hc hx) (a.free c ob q n hx) hc hx
  slot := fun c ob q n hc hx => by
    obtain ⟨sl, e1⟩ := a.slot c ob q n hc hx
    obtain ⟨sl', e2⟩ := b.slot c _ e1 (a.free c ob q n hx) hc hx
    exact ⟨sl', e2⟩
  free := fun c ob q n hx => by
    obtain ⟨o', e1⟩ := a.there c ob q hx
    exact b.free c o' e1 (a.free c ob q n hx) hx
  there := fun c ob q hx => by
    obtain ⟨o', e1⟩ := a.there c ob q hx
    exact b.there c o' e1 hx
  tups := fun c xs q => b.tups c xs (a.tups c xs q)
  frzs := fun c ob xs q => b.frzs c ob xs (a.frzs c ob xs q)
  tbls := fun c ps q => by
    obtain ⟨m1, e1⟩ := a.tbls c ps q
    obtain ⟨m2, e2⟩ := b.tbls c _ e1
    exact ⟨m1 ++ m2, by rw [e2, Array.append_assoc]⟩
theorem Un.kept (k : ∀ b u, h.get? b = some u → h'.get? b = some u) : Un fs ex H H h h' :=
  ⟨fun b ob q _ _ _ => k b ob q, fun b ob q _ _ _ => ⟨ob.slots, k b ob q⟩, fun _ _ _ n _ => n, fun b ob q _ => ⟨ob, k b ob q⟩, fun _ _ q => q, fun _ _ _ q => q, fun _ ps q => ⟨#[], by rw [q]; simp⟩⟩
theorem Un.refl : Un fs ex H H h h := Un.kept fun _ _ q => q
theorem Un.laid (k : ∀ b u, h.get? b = some u → h'.get? b = some u) (hp : h.objs.size ≤ a) (hn : H a = none) : Un fs ex H (upd H a o) h h' where
  keep := fun b u q _ _ _ => k b u q
  slot := fun b u q _ _ _ => ⟨u.slots, k b u q⟩
  free := fun b u q n _ => by rw [upd_ne (Nat.ne_of_lt (Nat.lt_of_lt_of_le (Heap.lt_size q) hp))]; exact n
  there := fun b u q _ => ⟨u, k b u q⟩
  tups := fun b xs q => by rw [upd_ne (ne_of_none q hn)]; exact q
  frzs := fun b u xs q => by rw [upd_ne (ne_of_none q hn)]; exact q
  tbls := fun b ps q => ⟨#[], by rw [upd_ne (ne_of_none q hn), q]; simp⟩
theorem Un.write (mu : Mut (H x)) (he : e = x ∨ H e = some (.own x)) (k : ∀ b u, b ≠ e → h.get? b = some u → h'.get? b = some u) (heo : ∃ u, h'.get? e = some u) : Un fs ex H (upd H x o) h h' := by
  have hx : ∀ b, H b = none → b ≠ x := fun b n z => by subst z; rw [n] at mu; exact mu
  have hb : ∀ b, H b = none → b ≠ e := fun b n z => by
    subst z
    rcases he with r | r
    · exact hx b n r
    · rw [n] at r; cases r
  have hm : ∀ b u, H b = some u → ¬ Mut (some u) → b ≠ x := fun b u q nm z => by subst z; rw [q] at mu; exact nm mu
  refine ⟨fun b u q n _ _ => k b u (hb b n) q, fun b u q n _ _ => ⟨u.slots, k b u (hb b n) q⟩, fun b u q n _ => by rw [upd_ne (hx b n)]; exact n, fun b u q _ => ?_,
    fun b xs q => by rw [upd_ne (hm b _ q fun z => z)]; exact q, fun b u xs q => by rw [upd_ne (hm b _ q fun z => z)]; exact q, fun b ps q => ⟨#[], by rw [upd_ne (hm b _ q fun z => z), q]; simp⟩⟩
  by_cases hbe : b = e
  · subst hbe; exact heo
  · exact ⟨u, k b u hbe q⟩
theorem Un.mono (u : Un fs ex H H1 h h1) (hs : ∀ b ∈ fs, b ∈ fs') (hx : ∀ b ∈ ex, b ∈ ex') : Un fs' ex' H H1 h h1 :=
  ⟨fun b ob q n hb he => u.keep b ob q n (fun z => hb (hs b z)) fun z => he (hx b z), fun _ _ q n _ he => u.any q n fun z => he (hx _ z), fun b ob q n he => u.free b ob q n fun z => he (hx b z), fun b ob q he => u.there b ob q fun z => he (hx b z), u.tups, u.frzs, u.tbls⟩
end

/-! ### the heap without what is tracked -/
def trk (h : Heap) (H : Hp) : List Addr := (List.range h.objs.size).filter fun a => (H a).isSome
def hidT (h : Heap) (H : Hp) : Heap := PySem.W.hideAll h (trk h H)
theorem hidT_size (h : Heap) (H : Hp) : (hidT h H).objs.size = h.objs.size := PySem.W.hideAll_size _ _
theorem hidT_get {h : Heap} {H : Hp} {b : Addr} {o : Obj} (e : h.get? b = some o) (n : H b = none) : (hidT h H).get? b = some o :=
  PySem.W.hideAll_get _ e fun hm => by
    have q : (H b).isSome = true := (List.mem_filter.mp hm).2
    rw [n] at q; simp at q
theorem of_hidT {h : Heap} {H : Hp} {b : Addr} {o : Obj} (e : (hidT h H).get? b = some o) : h.get? b = some o ∧ H b = none := by
  have e' : h.get? b = some o := PySem.W.of_hideAll (trk h H) e
  refine ⟨e', ?_⟩
  cases q : H b with
  | none => rfl
  | some x =>
    have hm : b ∈ trk h H := List.mem_filter.mpr ⟨List.mem_range.mpr (Heap.lt_size e'), by simp [q]⟩
    have z : (hidT h H).get? b = none := PySem.W.hideAll_none (trk h H) hm
    rw [z] at e; cases e

/-! ### OpenK's ledger, filled with every new object but one -/
end L2

namespace L2
open PySem PySem.Spec PyProof.Rows

/-- the module's facts, over the base: the heap at the law's entry without what is tracked there -/
structure Mod (K : PySem.W.Frag) (mg : Str → Option Value) (base : Heap) : Prop where
  kin : K.In base
  glob : base.Ns mainGlobals mg
  blt : ∃ mb, base.Ns builtinsNs mb ∧ ∀ x : Str, x ≠ "__name__" → mb x = bootBuiltins x
  nolimit : base.NoLimit

/-- the context: a def's body (or a comprehension's block) running. base: fixed through the whole law; s₀, H₀: the entry; outer: the frames whose slots others may change (a def's callers); stack: all frames that run;
   ex: iterators that were made ahead of the entry and are walked here (a comprehension's); fn: the names whose cells were made at the entry (a def: all; a comprehension's block: its own); calm: not within an except suite; pn: pins that every state bears; xe: what is wanted of an exception that leaves the code -/
structure Cx where
  prog : Program
  w : World
  K : PySem.W.Frag
  mg : Str → Option Value
  base : Heap
  A : Around
  N : List Str
  s₀ : Shared
  H₀ : Hp
  env : Env
  outer : List Env
  stack : List Env
  ex : List Addr
  fn : Str → Bool
  calm : Bool
  pn : List (Addr × Obj)
  xe : Value → Shared → Prop
/-- the callers' frames -/
def frs (l : List Env) : List Addr := l.filterMap (·.frame)
abbrev Cx.fs (X : Cx) : List Addr := frs X.outer

def Vis (sc : Scope) (x : Str) : Prop := sc.names.lookup x = some .local ∨ sc.names.lookup x = some .cell ∨ sc.names.lookup x = some .free
def Loc (sc : Scope) (x : Str) : Prop := sc.names.lookup x = some .local ∨ sc.names.lookup x = some .cell
def Look (env : Env) (h : Heap) (m : Str → Option Value) (x : Str) (u : Value) : Prop :=
  (env.kindOf x = some .local ∧ m x = some u) ∨ ((env.kindOf x = some .cell ∨ env.kindOf x = some .free) ∧ ∃ c, env.cells.lookup x = some c ∧ h.IsCell c (some u))

structure Cx.Ok (X : Cx) : Prop where
  mod : Mod X.K X.mg X.base
  kind : X.env.scope.kind = .function
  glob : X.env.globals = mainGlobals
  blt : X.env.builtins = builtinsNs
  above : X.s₀.heap.objs.size ≤ X.env.locals
  inj : ∀ x y c, X.env.cells.lookup x = some c → X.env.cells.lookup y = some c → x = y
  has : ∀ x, (X.env.kindOf x = some .cell ∨ X.env.kindOf x = some .free) → ∃ c, X.env.cells.lookup x = some c
  cab : ∀ x c, X.fn x = true → X.env.cells.lookup x = some c → X.s₀.heap.objs.size ≤ c
  hd : X.calm = true → X.A.handled = none
  frames : X.A.frames = some X.stack
  stk : X.stack = X.outer ∨ (X.stack = X.env :: X.outer ∧ X.env.frame = some X.env.locals)
  exf : ∀ b ∈ X.ex, b ≠ X.env.locals ∧ ∀ x c, X.env.cells.lookup x = some c → c ≠ b
  bs : ∀ b o, X.base.get? b = some o → X.s₀.heap.get? b = some o ∧ X.H₀ b = none
  bsz : X.base.objs.size ≤ X.s₀.heap.objs.size
  noex : ∀ b o, X.base.get? b = some o → b ∉ X.ex
  exfs : ∀ b ∈ X.ex, b ∉ X.fs
  funs : X.s₀.heap.FunFrames X.base X.outer
  frf : ∀ b ∈ X.fs, X.H₀ b = none

structure Inv (X : Cx) (pins : List (Addr × Obj)) (σ : List (Option V)) (H : Hp) (s : Shared) : Prop where
  ok : X.Ok
  os : s.os = X.s₀.os
  bare : AllBare s.gens
  base : Un X.fs X.ex X.H₀ H X.s₀.heap s.heap
  loc : ∃ m, s.heap.Ns X.env.locals m ∧ ∀ (i : Nat) (x : Str) (v : V), X.N[i]? = some x → σ[i]? = some (some v) → Vis X.env.scope x → ∃ u, RelV v u ∧ Look X.env s.heap m x u
  cell : ∀ x c, X.env.cells.lookup x = some c → ∃ v, s.heap.IsCell c v
  free : H X.env.locals = none
  freeC : ∀ x c, X.env.cells.lookup x = some c → H c = none
  pin : ∀ p ∈ X.pn ++ pins, s.heap.get? p.1 = some p.2 ∧ H p.1 = none ∧ p.1 ≠ X.env.locals ∧ p.1 ∉ X.fs ∧ ∀ v, p.2.data ≠ .cell v
  hok : HOk X.prog X.w H s.heap
  len : σ.length = X.N.length

section
variable {X : Cx} {pins : List (Addr × Obj)} {σ : List (Option V)} {H H' : Hp} {s : Shared} {h' : Heap}

theorem Cx.Ok.nofr (ok : X.Ok) {b : Addr} {o : Obj} (e : X.base.get? b = some o) : b ∉ X.fs := fun hb => by
  have := (ok.funs.mem hb).1
  rw [e] at this; cases this
theorem Inv.bs (I : Inv X pins σ H s) : ∀ b o, X.base.get? b = some o → s.heap.get? b = some o ∧ H b = none := fun b o e =>
  ⟨I.base.keep b o (I.ok.bs b o e).1 (I.ok.bs b o e).2 (I.ok.nofr e) (I.ok.noex b o e), I.base.free b o (I.ok.bs b o e).1 (I.ok.bs b o e).2 (I.ok.noex b o e)⟩
theorem Inv.bk (I : Inv X pins σ H s) : ∀ b o, X.base.get? b = some o → s.heap.get? b = some o := fun b o e => (I.bs b o e).1
theorem Inv.mod (I : Inv X pins σ H s) : Mod X.K X.mg X.base := I.ok.mod
theorem Inv.kIn (I : Inv X pins σ H s) : X.K.In s.heap := I.ok.mod.kin.keeps I.bk
theorem Inv.lt (I : Inv X pins σ H s) : X.env.locals < s.heap.objs.size := let ⟨_, hn, _⟩ := I.loc; hn.lt
theorem Inv.sz (I : Inv X pins σ H s) : X.s₀.heap.objs.size ≤ s.heap.objs.size := Nat.le_trans I.ok.above (Nat.le_of_lt I.lt)
theorem Inv.nofs (I : Inv X pins σ H s) {a : Addr} (h : s.heap.objs.size ≤ a) : a ∉ X.fs := fun hb => by
  obtain ⟨_, o, ho, _⟩ := I.ok.funs.mem hb
  exact absurd (Nat.lt_of_lt_of_le (Heap.lt_size ho) (Nat.le_trans I.sz h)) (Nat.lt_irrefl _)
theorem Inv.cne (I : Inv X pins σ H s) : ∀ x c, X.env.cells.lookup x = some c → c ≠ X.env.locals := fun x c e z => by
  obtain ⟨v, o, ho, hd⟩ := I.cell x c e
  obtain ⟨m, ⟨o', es, ep, ho', hd', _⟩, _⟩ := I.loc
  rw [z, ho'] at ho; cases ho; rw [hd'] at hd; cases hd
theorem Inv.funs (I : Inv X pins σ H s) : s.heap.FunFrames X.base X.outer := by
  have all : ∀ (l : List Env), (∀ b ∈ frs l, b ∈ X.fs) → X.s₀.heap.FunFrames X.base l → s.heap.FunFrames X.base l := by
    intro l
    induction l with
    | nil => intro _ _; trivial
    | cons env r ih =>
      intro hs hl
      obtain ⟨hk, ⟨L, o, hf, hn, ho, hd⟩, hr⟩ := hl
      have hL : L ∈ X.fs := hs L (by unfold frs; rw [List.filterMap_cons, hf]; exact List.mem_cons_self)
      obtain ⟨sl, e⟩ := I.base.slot L o ho (I.ok.frf L hL) hL fun z => I.ok.exfs L z hL
      exact ⟨hk, ⟨L, _, hf, hn, e, hd⟩, ih (fun b hb => hs b (by unfold frs; rw [List.filterMap_cons, hf]; exact List.mem_cons_of_mem _ hb)) hr⟩
  exact all X.outer (fun _ hb => hb) I.ok.funs

/-- the frames that run, for a call -/
theorem Inv.stack (I : Inv X pins σ H s) : s.heap.FunFrames X.base X.stack := by
  rcases I.ok.stk with e | ⟨e, hf⟩
  · rw [e]; exact I.funs
  · rw [e]
    obtain ⟨m, hn, _⟩ := I.loc
    refine .cons (by rw [I.ok.kind]; decide) hf hn ?_ I.funs
    exact Heap.get?_none_of_le (Nat.le_trans I.ok.bsz I.ok.above)
theorem Inv.stkSub (I : Inv X pins σ H s) : ∀ b ∈ frs X.stack, b ∈ X.env.locals :: X.fs := fun b hb => by
  rcases I.ok.stk with e | ⟨e, hf⟩
  · rw [e] at hb; exact List.mem_cons_of_mem _ hb
  · rw [e] at hb
    unfold frs at hb
    rw [List.filterMap_cons, hf] at hb
    exact hb
theorem Inv.stkFree (I : Inv X pins σ H s) : ∀ b ∈ frs X.stack, H b = none := fun b hb => by
  rcases List.mem_cons.mp (I.stkSub b hb) with e | hb
  · rw [e]; exact I.free
  · obtain ⟨_, o, ho, _⟩ := I.ok.funs.mem hb
    exact I.base.free b o ho (I.ok.frf b hb) fun z => I.ok.exfs b z hb

/-- THE STEP: the untracked objects but the frame and the records at ch are kept (the callers' frames up to slots), the frame's map is kept, the new abstract heap is held -/
theorem Inv.step {g' : Array GenState} {t' : Nat} {d' : Drawn} {ch : List Addr} (I : Inv X pins σ H s)
    (hch : ∀ b ∈ ch, (b ∈ X.ex ∨ X.s₀.heap.objs.size ≤ b) ∧ b ≠ X.env.locals ∧ (∀ x c, X.env.cells.lookup x = some c → c ≠ b) ∧ ∀ p ∈ X.pn ++ pins, p.1 ≠ b)
    (keep : ∀ b o, b ≠ X.env.locals → b ∉ X.fs → b ∉ ch → s.heap.get? b = some o → H b = none → h'.get? b = some o)
    (slot : ∀ b o, b ≠ X.env.locals → b ∈ X.fs → b ∉ ch → s.heap.get? b = some o → H b = none → ∃ sl, h'.get? b = some { o with slots := sl }) (free : ∀ b o, b ∉ ch → s.heap.get? b = some o → H b = none → H' b = none)
    (there : ∀ b o, b ∉ ch → s.heap.get? b = some o → ∃ o', h'.get? b = some o')
    (tups : ∀ b xs, H b = some (.tup xs) → H' b = some (.tup xs)) (frzs : ∀ b o u, H b = some (.frz o u) → H' b = some (.frz o u)) (tbls : ∀ b ps, H b = some (.tbl ps) → ∃ more, H' b = some (.tbl (ps ++ more)))
    (ns : ∀ m, s.heap.Ns X.env.locals m → h'.Ns X.env.locals m) (hok : HOk X.prog X.w H' h') (hg : AllBare g') :
    Inv X pins σ H' { s with heap := h', gens := g', drawn := d', toks := t' } := by
  have neL : ∀ b o, X.s₀.heap.get? b = some o → b ≠ X.env.locals := fun b o e => Nat.ne_of_lt (Nat.lt_of_lt_of_le (Heap.lt_size e) I.ok.above)
  have neC : ∀ b o, X.s₀.heap.get? b = some o → b ∉ X.ex → b ∉ ch := fun b o e hx hb => by
    rcases (hch b hb).1 with z | z
    · exact hx z
    · exact absurd (Nat.lt_of_lt_of_le (Heap.lt_size e) z) (Nat.lt_irrefl _)
  have cellK : ∀ x c, X.env.cells.lookup x = some c → ∀ v, s.heap.IsCell c v → h'.IsCell c v := fun x c e v ⟨o, ho, hd⟩ => by
    have nch : c ∉ ch := fun z => (hch c z).2.2.1 x c e rfl
    by_cases hc : c ∈ X.fs
    · obtain ⟨sl, q⟩ := slot c o (I.cne x c e) hc nch ho (I.freeC x c e)
      exact ⟨_, q, hd⟩
    · exact ⟨o, keep c o (I.cne x c e) hc nch ho (I.freeC x c e), hd⟩
  refine ⟨I.ok, I.os, hg, ⟨fun b o e n hb hx => ?_, fun b o e n hb hx => ?_, fun b o e n hx => ?_, fun b o e hx => ?_, fun b xs e => tups b xs (I.base.tups b xs e), fun b o xs e => frzs b o xs (I.base.frzs b o xs e), fun b ps e => ?_⟩, ?_, fun x c e => ?_, ?_, fun x c e => ?_, fun p hp => ?_, hok, I.len⟩
  · exact keep b o (neL b o e) hb (neC b o e hx) (I.base.keep b o e n hb hx) (I.base.free b o e n hx)
  · obtain ⟨sl, e1⟩ := I.base.slot b o e n hb hx
    obtain ⟨sl', e2⟩ := slot b _ (neL b o e) hb (neC b o e hx) e1 (I.base.free b o e n hx)
    exact ⟨sl', e2⟩
  · obtain ⟨o', e1⟩ := I.base.there b o e hx
    exact free b o' (neC b o e hx) e1 (I.base.free b o e n hx)
  · obtain ⟨o', e1⟩ := I.base.there b o e hx
    exact there b o' (neC b o e hx) e1
  · obtain ⟨m1, e1⟩ := I.base.tbls b ps e
    obtain ⟨m2, e2⟩ := tbls b _ e1
    exact ⟨m1 ++ m2, by rw [e2, Array.append_assoc]⟩
  · obtain ⟨m, hn, hl⟩ := I.loc
    refine ⟨m, ns m hn, fun i x v e1 e2 e3 => ?_⟩
    obtain ⟨u, r, l⟩ := hl i x v e1 e2 e3
    refine ⟨u, r, ?_⟩
    rcases l with l | ⟨k, c, e, z⟩
    · exact .inl l
    · exact .inr ⟨k, c, e, cellK x c e _ z⟩
  · obtain ⟨v, z⟩ := I.cell x c e
    exact ⟨v, cellK x c e v z⟩
  · obtain ⟨m, ⟨o, _, _, ho, _⟩, _⟩ := I.loc
    exact free _ o (fun z => (hch _ z).2.1 rfl) ho I.free
  · obtain ⟨v, o, ho, hd⟩ := I.cell x c e
    exact free c o (fun z => (hch c z).2.2.1 x c e rfl) ho (I.freeC x c e)
  · obtain ⟨e, n, ne, nf, d⟩ := I.pin p hp
    have nch : p.1 ∉ ch := fun z => (hch p.1 z).2.2.2 p hp rfl
    exact ⟨keep p.1 p.2 ne nf nch e n, free p.1 p.2 nch e n, ne, nf, d⟩
/-- .. where the frame's own object is kept too -/
theorem Inv.un {t' : Nat} (I : Inv X pins σ H s) (u : Un X.fs [] H H' s.heap h') (hok : HOk X.prog X.w H' h') : Inv X pins σ H' { s with heap := h', toks := t' } := by
  obtain ⟨m, ⟨o, es, ep, ho, r⟩, _⟩ := id I.loc
  obtain ⟨sl, hL⟩ := u.any ho I.free (by simp)
  exact I.step (g' := s.gens) (d' := s.drawn) (ch := []) (fun _ z => nomatch z) (fun b o _ hb _ e n => u.keep b o e n hb (by simp)) (fun b o _ hb _ e n => u.slot b o e n hb (by simp)) (fun b o _ e n => u.free b o e n (by simp)) (fun b o _ e => u.there b o e (by simp)) u.tups u.frzs u.tbls (fun m' hm => by
    obtain ⟨o', es', ep', ho', r'⟩ := hm
    rw [ho] at ho'; cases ho'
    exact ⟨_, es', ep', hL, r'⟩) hok I.bare
/-- behind a call (or a comprehension's block): the slots of this frame may have changed too, the records at ch may have turned -/
theorem Inv.call {g' : Array GenState} {t' : Nat} {d' : Drawn} {ch : List Addr} (I : Inv X pins σ H s) (u : Un (frs X.stack) ch H H' s.heap h') (hok : HOk X.prog X.w H' h') (hg : AllBare g')
    (hch : ∀ b ∈ ch, (b ∈ X.ex ∨ X.s₀.heap.objs.size ≤ b) ∧ b ≠ X.env.locals ∧ (∀ x c, X.env.cells.lookup x = some c → c ≠ b) ∧ ∀ p ∈ X.pn ++ pins, p.1 ≠ b) :
    Inv X pins σ H' { s with heap := h', gens := g', drawn := d', toks := t' } := by
  obtain ⟨m, ⟨o, es, ep, ho, r⟩, _⟩ := id I.loc
  obtain ⟨sl, hL⟩ := u.any ho I.free fun z => (hch _ z).2.1 rfl
  exact I.step (ch := ch) hch (fun b o hL hb hc e n => u.keep b o e n (fun z => (List.mem_cons.mp (I.stkSub b z)).elim hL hb) hc) (fun b o _ _ hc e n => u.any e n hc) (fun b o hc e n => u.free b o e n hc) (fun b o hc e => u.there b o e hc) u.tups u.frzs u.tbls (fun m' hm => by
    obtain ⟨o', es', ep', ho', r'⟩ := hm
    rw [ho] at ho'; cases ho'
    exact ⟨_, es', ep', hL, r'⟩) hok hg
/-- an untracked record of ours (an iterator) has turned -/
theorem Inv.turned {t' : Nat} {it : Addr} (I : Inv X pins σ H s) (k : ∀ b o, b ≠ it → s.heap.get? b = some o → h'.get? b = some o) (hn : H it = none) (hL : it ≠ X.env.locals)
    (h1 : it ∈ X.ex ∨ X.s₀.heap.objs.size ≤ it) (h2 : ∀ x c, X.env.cells.lookup x = some c → c ≠ it) (h3 : ∀ p ∈ X.pn ++ pins, p.1 ≠ it) : Inv X pins σ H { s with heap := h', toks := t' } := by
  have nit : ∀ b u, H b = some u → b ≠ it := fun b u e z => by rw [z, hn] at e; cases e
  refine I.step (g' := s.gens) (d' := s.drawn) (ch := [it]) (fun b hb => ?_) (fun b o _ _ hc e _ => k b o (fun z => hc (by simp [z])) e) (fun b o _ _ hc e _ => ⟨o.slots, k b o (fun z => hc (by simp [z])) e⟩) (fun _ _ _ _ n => n)
    (fun b o hc e => ⟨o, k b o (fun z => hc (by simp [z])) e⟩) (fun _ _ e => e) (fun _ _ _ e => e) (fun b ps e => ⟨#[], by rw [e]; simp⟩) (fun m hm => ?_) (fun b u e => ?_) I.bare
  · have e : b = it := by simpa using hb
    subst e
    exact ⟨h1, hL, h2, h3⟩
  · obtain ⟨o, es, ep, ho, r⟩ := hm
    exact ⟨o, es, ep, k _ o (Ne.symm hL) ho, r⟩
  · refine (I.hok b u e).stay (fun c v hc q => k c v ?_ q) (fun _ q => q) fun _ _ q => q
    rcases hc with z | z
    · rw [z]; exact nit b u e
    · exact nit c _ z
theorem Inv.tok (I : Inv X pins σ H s) (t : Nat) : Inv X pins σ H { s with toks := t } := I.un (h' := s.heap) (t' := t) Un.refl I.hok
/-- all objects kept -/
theorem Inv.kept {t' : Nat} (I : Inv X pins σ H s) (k : ∀ b u, s.heap.get? b = some u → h'.get? b = some u) : Inv X pins σ H { s with heap := h', toks := t' } := I.un (Un.kept k) (I.hok.kept k)
/-- a new object laid and tracked -/
theorem Inv.laid {a : Addr} {o : HO} {t' : Nat} (I : Inv X pins σ H s) (k : ∀ b u, s.heap.get? b = some u → h'.get? b = some u) (hp : s.heap.objs.size ≤ a) (new : ObjOk X.prog X.w (upd H a o) h' a o) :
    Inv X pins σ (upd H a o) { s with heap := h', toks := t' } := I.un (Un.laid k hp (I.hok.fresh hp)) (I.hok.laid k hp new)
/-- an object written -/
theorem Inv.write {x e : Addr} {o : HO} {t' : Nat} (I : Inv X pins σ H s) (mu : Mut (H x)) (he : e = x ∨ H e = some (.own x)) (k : ∀ b u, b ≠ e → s.heap.get? b = some u → h'.get? b = some u) (heo : ∃ u, h'.get? e = some u)
    (new : ObjOk X.prog X.w (upd H x o) h' x o) : Inv X pins σ (upd H x o) { s with heap := h', toks := t' } := I.un (Un.write mu he k heo) (I.hok.write mu he k heo new)
theorem Inv.pins_of {pins' : List (Addr × Obj)} (I : Inv X pins σ H s) (h : ∀ p ∈ pins', s.heap.get? p.1 = some p.2 ∧ H p.1 = none ∧ p.1 ≠ X.env.locals ∧ p.1 ∉ X.fs ∧ ∀ v, p.2.data ≠ .cell v) : Inv X pins' σ H s :=
  ⟨I.ok, I.os, I.bare, I.base, I.loc, I.cell, I.free, I.freeC, fun p hp => (List.mem_append.mp hp).elim (fun z => I.pin p (List.mem_append_left _ z)) (h p), I.hok, I.len⟩

theorem nodup_ix {N : List Str} (hN : N.Nodup) {i j : Nat} {x : Str} (a : N[i]? = some x) (b : N[j]? = some x) : i = j := by
  obtain ⟨h1, e1⟩ := List.getElem?_eq_some_iff.mp a
  obtain ⟨h2, e2⟩ := List.getElem?_eq_some_iff.mp b
  exact (List.getElem_inj hN).mp (e1.trans e2.symm)

/-- a name is stored; what changed -/
theorem store_ok2 {M : Model} {A : Around} {E : Value → Shared → Prop} {i : Nat} {x : Str} {v : V} {u : Value} {Q : Unit → Shared → Prop} (I : Inv X pins σ H s) (hN : X.N.Nodup) (hi : X.N[i]? = some x) (hx : Loc X.env.scope x) (r : RelV v u)
    (h : ∀ s', Inv X pins (σ.set i (some v)) H s' → (∃ a, Heap.SameBut a s.heap s'.heap ∧ (a = X.env.locals ∨ X.env.cells.lookup x = some a)) → Q () s') (hf : X.fn x = true ∨ X.env.scope.names.lookup x = some .local := by first | exact .inl rfl | exact .inr rfl | assumption) : wpAny M A (storeName X.env x u) Q E s := by
  obtain ⟨m, hn, hl⟩ := id I.loc
  have hcls : (X.env.scope.kind == .class || (X.env.scope.kind == .module && X.env.locals != X.env.globals)) = false := by rw [I.ok.kind]; rfl
  have hiσ : i < σ.length := by rw [I.len]; exact (List.getElem?_eq_some_iff.mp hi).1
  have cne := I.cne
  have tracked : ∀ {a : Addr} {h' : Heap}, (∃ o, s.heap.get? a = some o ∧ H a = none) → Heap.SameBut a s.heap h' → HOk X.prog X.w H h' := fun {a h'} ha hs b ob e => by
    obtain ⟨_, _, hfree⟩ := ha
    refine (I.hok b ob e).stay (fun c w' hc q => (hs.2 c ?_).trans q) (fun _ q => q) fun _ _ q => q
    rintro rfl
    rcases hc with rfl | hc
    · rw [hfree] at e; cases e
    · rw [hfree] at hc; cases hc
  rcases hx with hk | hk
  · refine wpAny_storeName_local hk hn (fun h' hn' hs => ?_) hcls
    obtain ⟨oL, _, _, hoL, _⟩ := id hn
    refine h _ ⟨I.ok, I.os, I.bare, ⟨fun b o e n hb hx => ?_, fun b o e n hb hx => ?_, I.base.free, fun b o e hx => ?_, I.base.tups, I.base.frzs, I.base.tbls⟩, ⟨_, hn', fun j y v' e1 e2 e3 => ?_⟩, fun y c e => ?_, I.free, I.freeC, fun p hp => ?_, tracked ⟨oL, hoL, I.free⟩ hs, by simpa using I.len⟩ ⟨_, hs, .inl rfl⟩
    · exact (hs.2 b (Nat.ne_of_lt (Nat.lt_of_lt_of_le (Heap.lt_size e) I.ok.above))).trans (I.base.keep b o e n hb hx)
    · obtain ⟨sl, e1⟩ := I.base.slot b o e n hb hx
      exact ⟨sl, (hs.2 b (Nat.ne_of_lt (Nat.lt_of_lt_of_le (Heap.lt_size e) I.ok.above))).trans e1⟩
    · obtain ⟨o', e1⟩ := I.base.there b o e hx
      exact ⟨o', (hs.2 b (Nat.ne_of_lt (Nat.lt_of_lt_of_le (Heap.lt_size e) I.ok.above))).trans e1⟩
    · by_cases hj : j = i
      · subst hj
        rw [hi] at e1; cases e1
        rw [List.getElem?_set_self hiσ] at e2
        cases e2
        exact ⟨u, r, .inl ⟨hk, by simp⟩⟩
      · rw [List.getElem?_set_ne (Ne.symm hj)] at e2
        obtain ⟨u', r', q⟩ := hl j y v' e1 e2 e3
        refine ⟨u', r', ?_⟩
        rcases q with ⟨k, e⟩ | ⟨k, c, e, z⟩
        · refine .inl ⟨k, ?_⟩
          have : y ≠ x := fun e => hj (nodup_ix hN e1 (e ▸ hi))
          simp [this, e]
        · exact .inr ⟨k, c, e, z.sameBut hs (cne y c e)⟩
    · obtain ⟨w', z⟩ := I.cell y c e
      exact ⟨w', z.sameBut hs (cne y c e)⟩
    · obtain ⟨e, n, ne, nf, d⟩ := I.pin p hp
      exact ⟨(hs.2 p.1 ne).trans e, n, ne, nf, d⟩
  · have hfn : X.fn x = true := by
      rcases hf with z | z
      · exact z
      · rw [z] at hk; cases hk
    obtain ⟨c, hc⟩ := I.ok.has x (.inl hk)
    obtain ⟨w', z⟩ := I.cell x c hc
    refine wpAny_storeName_cell I.ok.kind hk hc z (fun h' hc' hs => ?_)
    obtain ⟨oc, hoc, hocd⟩ := id z
    refine h { s with heap := h' } ⟨I.ok, I.os, I.bare, ⟨fun b o e n hb hx => ?_, fun b o e n hb hx => ?_, I.base.free, fun b o e hx => ?_, I.base.tups, I.base.frzs, I.base.tbls⟩, ⟨m, hn.sameBut hs (Ne.symm (cne x c hc)), fun j y v' e1 e2 e3 => ?_⟩, fun y c' e => ?_, I.free, I.freeC, fun p hp => ?_, tracked ⟨oc, hoc, I.freeC x c hc⟩ hs, by simpa using I.len⟩ ⟨c, hs, .inr hc⟩
    · exact (hs.2 b (Nat.ne_of_lt (Nat.lt_of_lt_of_le (Heap.lt_size e) (I.ok.cab x c hfn hc)))).trans (I.base.keep b o e n hb hx)
    · obtain ⟨sl, e1⟩ := I.base.slot b o e n hb hx
      exact ⟨sl, (hs.2 b (Nat.ne_of_lt (Nat.lt_of_lt_of_le (Heap.lt_size e) (I.ok.cab x c hfn hc)))).trans e1⟩
    · obtain ⟨o', e1⟩ := I.base.there b o e hx
      exact ⟨o', (hs.2 b (Nat.ne_of_lt (Nat.lt_of_lt_of_le (Heap.lt_size e) (I.ok.cab x c hfn hc)))).trans e1⟩
    · by_cases hj : j = i
      · subst hj
        rw [hi] at e1; cases e1
        rw [List.getElem?_set_self hiσ] at e2
        cases e2
        exact ⟨u, r, .inr ⟨.inl hk, c, hc, hc'⟩⟩
      · rw [List.getElem?_set_ne (Ne.symm hj)] at e2
        obtain ⟨u', r', q⟩ := hl j y v' e1 e2 e3
        refine ⟨u', r', ?_⟩
        rcases q with q | ⟨k, c', e, z'⟩
        · exact .inl q
        · refine .inr ⟨k, c', e, z'.sameBut hs ?_⟩
          rintro rfl
          exact hj (nodup_ix hN e1 (I.ok.inj _ _ _ e hc ▸ hi))
    · by_cases hcc : c' = c
      · subst hcc; exact ⟨_, hc'⟩
      · obtain ⟨w2, z2⟩ := I.cell y c' e
        exact ⟨w2, z2.sameBut hs hcc⟩
    · obtain ⟨e, n, ne, nf, d⟩ := I.pin p hp
      refine ⟨(hs.2 p.1 ?_).trans e, n, ne, nf, d⟩
      intro q
      rw [q, hoc] at e
      have q' : oc = p.2 := Option.some.inj e
      exact d w' (by rw [← q']; exact hocd)
theorem store_ok {M : Model} {A : Around} {E : Value → Shared → Prop} {i : Nat} {x : Str} {v : V} {u : Value} {Q : Unit → Shared → Prop} (I : Inv X pins σ H s) (hN : X.N.Nodup) (hi : X.N[i]? = some x) (hx : Loc X.env.scope x) (r : RelV v u)
    (h : ∀ s', Inv X pins (σ.set i (some v)) H s' → Q () s') (hf : X.fn x = true ∨ X.env.scope.names.lookup x = some .local := by first | exact .inl rfl | exact .inr rfl | assumption) : wpAny M A (storeName X.env x u) Q E s :=
  store_ok2 I hN hi hx r (fun s' I' _ => h s' I') hf
/-- behind a call or a block, the state as it is -/
theorem Inv.call' {s' : Shared} {ch : List Addr} (I : Inv X pins σ H s) (ho : s'.os = s.os) (u : Un (frs X.stack) ch H H' s.heap s'.heap) (hok : HOk X.prog X.w H' s'.heap) (hg : AllBare s'.gens)
    (hch : ∀ b ∈ ch, (b ∈ X.ex ∨ X.s₀.heap.objs.size ≤ b) ∧ b ≠ X.env.locals ∧ (∀ x c, X.env.cells.lookup x = some c → c ≠ b) ∧ ∀ p ∈ X.pn ++ pins, p.1 ≠ b) : Inv X pins σ H' s' := by
  obtain ⟨h', g', d', t', o'⟩ := s'
  have e : o' = s.os := ho
  subst e
  exact I.call (g' := g') (t' := t') (d' := d') u hok hg hch
end

/-! ### the judgements -/
/-- an exception: its class, its own dict's address (where it has one), the abstract heap behind it -/
abbrev XK := Value → Option Addr → Hp → Prop
abbrev St := List (Option V)
abbrev VK := V → Hp → Prop
/-- an expression's reading; a test's; an argument list's -/
abbrev TE := St → Hp → VK → Prop
abbrev TT := St → Hp → (Bool → Hp → Prop) → Prop
abbrev TA := St → Hp → (List V → Hp → Prop) → Prop
/-- what is wanted behind a statement -/
structure Ends where
  nx : St → Hp → Prop
  rt : VK
  bk : St → Hp → Prop := fun _ _ => False
  ct : St → Hp → Prop := fun _ _ => False
abbrev TS := Ends → St → Hp → Prop

def EP (X : Cx) (pins : List (Addr × Obj)) (σ : St) (Q : VK) (u : Value) (s' : Shared) : Prop := ∃ v H', Inv X pins σ H' s' ∧ RelV v u ∧ Q v H'
def TP (X : Cx) (pins : List (Addr × Obj)) (σ : St) (Q : Bool → Hp → Prop) (b : Bool) (s' : Shared) : Prop := ∃ H', Inv X pins σ H' s' ∧ Q b H'
def AP (X : Cx) (pins : List (Addr × Obj)) (σ : St) (Q : List V → Hp → Prop) (us : List Value) (s' : Shared) : Prop := ∃ vs H', Inv X pins σ H' s' ∧ Vals vs us ∧ Q vs H'
def SP (X : Cx) (pins : List (Addr × Obj)) (D : Ends) (f : Flow) (s' : Shared) : Prop :=
  match f with
  | .next => ∃ σ' H', Inv X pins σ' H' s' ∧ D.nx σ' H'
  | .brk => ∃ σ' H', Inv X pins σ' H' s' ∧ D.bk σ' H'
  | .cont => ∃ σ' H', Inv X pins σ' H' s' ∧ D.ct σ' H'
  | .ret u => ∃ v σ' H', Inv X pins σ' H' s' ∧ RelV v u ∧ D.rt v H'

def PE (X : Cx) (e : Expr) (t : TE) : Prop :=
  ∀ (pins : List (Addr × Obj)) (s : Shared) (σ : St) (H : Hp) (Q : VK), Inv X pins σ H s → t σ H Q → wpAny (model X.prog X.w) X.A (eval e X.env) (EP X pins σ Q) X.xe s
def PT (X : Cx) (e : Expr) (t : TT) : Prop :=
  ∀ (pins : List (Addr × Obj)) (s : Shared) (σ : St) (H : Hp) (Q : Bool → Hp → Prop), Inv X pins σ H s → t σ H Q → wpAny (model X.prog X.w) X.A (isTrue e X.env (eval e X.env)) (TP X pins σ Q) X.xe s
/-- a test whatever its 'whole' is (and, or) -/
def PW (X : Cx) (e : Expr) (t : TT) : Prop :=
  ∀ (whole : Sem Value) (pins : List (Addr × Obj)) (s : Shared) (σ : St) (H : Hp) (Q : Bool → Hp → Prop), Inv X pins σ H s → t σ H Q → wpAny (model X.prog X.w) X.A (isTrue e X.env whole) (TP X pins σ Q) X.xe s
theorem PW.pt {X : Cx} {e : Expr} {t : TT} (h : PW X e t) : PT X e t := h _
/-- an argument list (no star), from the left -/
def PA (X : Cx) (es : List Expr) (t : TA) : Prop :=
  ∀ (pos : Pos) (pins : List (Addr × Obj)) (s : Shared) (σ : St) (H : Hp) (Q : List V → Hp → Prop), Inv X pins σ H s → t σ H Q → wpAny (model X.prog X.w) X.A (spliced (backTo pos (starEach es X.env))) (AP X pins σ Q) X.xe s
def PS (X : Cx) (st : Stmt) (t : TS) : Prop :=
  ∀ (pins : List (Addr × Obj)) (s : Shared) (σ : St) (H : Hp) (D : Ends), Inv X pins σ H s → t D σ H → wpAny (model X.prog X.w) X.A (exec st X.env) (SP X pins D) X.xe s
def PSs (X : Cx) (st : List Stmt) (t : TS) : Prop :=
  ∀ (pins : List (Addr × Obj)) (s : Shared) (σ : St) (H : Hp) (D : Ends), Inv X pins σ H s → t D σ H → wpAny (model X.prog X.w) X.A (execs st X.env) (SP X pins D) X.xe s
/-- weaken the end -/
theorem thn {α : Type} {t : Sem α} {Q Q' : α → Shared → Prop} {M : Model} {A : Around} {E : Value → Shared → Prop} {s : Shared} (h : wpAny M A t Q E s) (hQ : ∀ a s, Q a s → Q' a s) : wpAny M A t Q' E s := wpAny_mono h hQ fun _ _ x => x
end L2

namespace L2
open PySem PySem.Spec PyProof.Rows
section
variable {X : Cx}


/-! ### names and constants -/
def tVar (i : Nat) : TE := fun σ H Q => ∃ v, σ[i]? = some (some v) ∧ Q v H
def tC (v : V) : TE := fun _ H Q => Q v H
theorem pe_var {i : Nat} {x : Str} {pos : Pos} (hN : X.N[i]? = some x) (hv : Vis X.env.scope x) (hd : (x == ("__debug__" : Str)) = false := by decide) (hcd : (x == ("__classdict__" : Str)) = false := by decide) : PE X (.Name x pos) (tVar i) := by
  intro pins s σ H Q I h
  obtain ⟨v, e, h⟩ := h
  obtain ⟨m, hn, hl⟩ := I.loc
  obtain ⟨u, r, l⟩ := hl i x v hN e hv
  have fin : EP X pins σ Q u s := ⟨v, H, I, r, h⟩
  rcases l with ⟨hk, hm⟩ | ⟨hk, c, hc, hcell⟩
  · exact wpAny_Name (wpAny_loadName_local I.ok.kind hk hn hm fin) hd
  · rcases hk with hk | hk
    · exact wpAny_Name (wpAny_loadName_cell I.ok.kind hk hc hcell fin) hd
    · exact wpAny_Name (wpAny_loadName_free I.ok.kind hk hc hcell fin hcd) hd
theorem pe_int {i j pos} : PE X (.Constant (.int i) j pos) (tC (.int i)) := fun _ _ _ H _ I h => wpAny_Constant_int ⟨.int i, H, I.tok _, ⟨_, rfl⟩, h⟩
theorem pe_bl {b j pos} : PE X (.Constant (.bool b) j pos) (tC (.bl b)) := fun _ _ _ H _ I h => Constant_bool ⟨.bl b, H, I, rfl, h⟩
theorem pe_non {j pos} : PE X (.Constant .none j pos) (tC .non) := fun _ _ _ H _ I h => Constant_none ⟨.non, H, I, rfl, h⟩
theorem pe_str {x j pos} : PE X (.Constant (.str x) j pos) (tC (.str x)) := fun _ _ _ H _ I h => Calls.Constant_str ⟨.str x, H, I.tok _, ⟨_, rfl⟩, h⟩

/-- a global name of the def -/
def Gl (X : Cx) (x : Str) : Prop := X.env.kindOf x = some .globalImplicit
theorem ld_glob {E : Value → Shared → Prop} {pins : List (Addr × Obj)} {s : Shared} {σ : St} {H : Hp} {x : Str} {u : Value} {pos : Pos} {Q : Value → Shared → Prop} (I : Inv X pins σ H s) (hg : Gl X x) (hm : X.mg x = some u) (h : Q u s)
    (hd : (x == ("__debug__" : Str)) = false := by decide) : wpAny (model X.prog X.w) X.A (eval (.Name x pos) X.env) Q E s :=
  Calls.Name_function_global I.ok.kind hg (Calls.loadGlobal_global (by rw [I.ok.glob]; exact I.mod.glob.keeps I.bk) hm h) hd
theorem ld_blt {E : Value → Shared → Prop} {pins : List (Addr × Obj)} {s : Shared} {σ : St} {H : Hp} {x : Str} {u : Value} {pos : Pos} {Q : Value → Shared → Prop} (I : Inv X pins σ H s) (hg : Gl X x) (hm : X.mg x = none) (hv : bootBuiltins x = some u) (h : Q u s)
    (hn : x ≠ "__name__" := by decide) (hd : (x == ("__debug__" : Str)) = false := by decide) : wpAny (model X.prog X.w) X.A (eval (.Name x pos) X.env) Q E s := by
  obtain ⟨mb, h1, h2⟩ := I.mod.blt
  exact Calls.Name_function_global I.ok.kind hg (Calls.loadGlobal_builtin (by rw [I.ok.glob]; exact I.mod.glob.keeps I.bk) hm (by rw [I.ok.blt]; exact h1.keeps I.bk) ((h2 x hn).trans hv) h) hd
theorem pe_bltn {x : Str} {v : V} {u : Value} {pos : Pos} (hg : Gl X x) (hm : X.mg x = none) (hv : bootBuiltins x = some u) (r : RelV v u) (hn : x ≠ "__name__" := by decide) (hd : (x == ("__debug__" : Str)) = false := by decide) : PE X (.Name x pos) (tC v) :=
  fun _ _ _ H _ I h => ld_blt I hg hm hv ⟨v, H, I, r, h⟩ hn hd

/-! ### arithmetic -/
variable {a b : Expr} {ta tb : TE} {pos : Pos}

/-! ### comparisons -/
def PC (X : Cx) (op : CmpOp) (a b : Expr) (t : TE) : Prop :=
  ∀ (pins : List (Addr × Obj)) (s : Shared) (σ : St) (H : Hp) (Q : VK), Inv X pins σ H s → t σ H Q →
    wpAny (model X.prog X.w) X.A (eval a X.env) (fun v s₁ => wpAny (model X.prog X.w) X.A (eval b X.env) (fun u s₂ => wpAny (model X.prog X.w) X.A (compareOp op v u) (EP X pins σ Q) X.xe s₂) X.xe s₁) X.xe s
/-- a comparison as a value, as a test -/
def tB (t : TE) : TT := fun σ H Q => t σ H fun x H1 => ∃ c, x = .bl c ∧ Q c H1
theorem pt_cmp {op : CmpOp} {t : TE} (h : PC X op a b t) (h1 : behindInMarks op b = false := by first | exact nobehind _ (by decide) (by decide) | rfl) : PT X (.Compare a [op] [b] pos) (tB t) := by
  intro pins s σ H Q I hw
  refine wpAny_isTrue_Compare1 (thn (h pins s σ H _ I hw) fun v s1 h1 => thn h1 fun u s2 h2 => thn h2 fun c s3 ⟨x, H1, I1, r1, q1⟩ => ?_) h1
  obtain ⟨d, rfl, q⟩ := q1
  cases r1
  exact wpAny_truthy_bool ⟨H1, I1, q⟩
/-- an expression whose value is a bool, as a test -/
theorem pt_val {e : Expr} {t : TE} (h : PE X e t) (he : ∀ whole, isTrue e X.env whole = (do let v ← whole; standAt e.pos; holding [v] (truthy v)) := by intro _; rfl) : PT X e (tB t) := by
  intro pins s σ H Q I hw
  refine isTrue_plain (thn (h pins s σ H _ I hw) fun v s1 ⟨x, H1, I1, r1, q1⟩ => ?_) (he _)
  obtain ⟨d, rfl, q⟩ := q1
  cases r1
  exact wpAny_truthy_bool ⟨H1, I1, q⟩

/-! ### and, or, not -/
variable {tA tB' : TT} {rest : List Expr}
def tAnd (t u : TT) : TT := fun σ H Q => t σ H fun c H1 => if c = true then u σ H1 Q else Q false H1
def tOr (t u : TT) : TT := fun σ H Q => t σ H fun c H1 => if c = true then Q true H1 else u σ H1 Q
def tNot (t : TT) : TT := fun σ H Q => t σ H fun c H1 => Q (!c) H1
theorem pw_and1 (ha : PT X a tA) : PW X (.BoolOp .And [a] pos) tA := by
  intro wh pins s σ H Q I h
  refine isTrue_and (thn (ha pins s σ H Q I h) fun c s1 e => ?_)
  cases c with
  | true => exact isTrue_and_nil e
  | false => exact e
theorem pw_or1 (ha : PT X a tA) : PW X (.BoolOp .Or [a] pos) tA := by
  intro wh pins s σ H Q I h
  refine isTrue_or (thn (ha pins s σ H Q I h) fun c s1 e => ?_)
  cases c with
  | false => exact isTrue_or_nil e
  | true => exact e
theorem pw_and (ha : PT X a tA) (hb : PW X (.BoolOp .And (b :: rest) pos) tB') : PW X (.BoolOp .And (a :: b :: rest) pos) (tAnd tA tB') := by
  intro wh pins s σ H Q I h
  refine isTrue_and (thn (ha pins s σ H _ I h) fun c s1 ⟨H1, I1, q1⟩ => ?_)
  cases c with
  | true => exact hb wh pins s1 σ H1 Q I1 q1
  | false => exact ⟨H1, I1, q1⟩
theorem pw_or (ha : PT X a tA) (hb : PW X (.BoolOp .Or (b :: rest) pos) tB') : PW X (.BoolOp .Or (a :: b :: rest) pos) (tOr tA tB') := by
  intro wh pins s σ H Q I h
  refine isTrue_or (thn (ha pins s σ H _ I h) fun c s1 ⟨H1, I1, q1⟩ => ?_)
  cases c with
  | true => exact ⟨H1, I1, q1⟩
  | false => exact hb wh pins s1 σ H1 Q I1 q1
theorem pt_not (ha : PT X a tA) : PT X (.UnaryOp .Not a pos) (tNot tA) := by
  intro pins s σ H Q I h
  exact isTrue_not (ha pins s σ H (fun c H1 => Q (!c) H1) I h)
/-- .. as values (bools) -/
def tAndV (ta tb : TE) : TE := fun σ H Q => ta σ H fun x H1 => ∃ c, x = .bl c ∧ if c = true then tb σ H1 Q else Q (.bl false) H1
def tOrV (ta tb : TE) : TE := fun σ H Q => ta σ H fun x H1 => ∃ c, x = .bl c ∧ if c = true then Q (.bl true) H1 else tb σ H1 Q
theorem pe_one {op} {t : TE} (h : PE X a t) : PE X (.BoolOp op [a] pos) t := fun pins s σ H Q I hw => BoolOp_one (h pins s σ H Q I hw)
theorem pe_and (ha : PE X a ta) (hb : PE X (.BoolOp .And (b :: rest) pos) tb) : PE X (.BoolOp .And (a :: b :: rest) pos) (tAndV ta tb) := by
  intro pins s σ H Q I h
  refine BoolOp_and (thn (ha pins s σ H _ I h) fun v s1 ⟨x, H1, I1, r1, q1⟩ => ?_)
  obtain ⟨c, rfl, q1⟩ := q1
  cases r1
  refine wpAny_truthy_bool ?_
  cases c with
  | true => exact hb pins s1 σ H1 Q I1 q1
  | false => exact ⟨.bl false, H1, I1, rfl, q1⟩
theorem pe_or (ha : PE X a ta) (hb : PE X (.BoolOp .Or (b :: rest) pos) tb) : PE X (.BoolOp .Or (a :: b :: rest) pos) (tOrV ta tb) := by
  intro pins s σ H Q I h
  refine BoolOp_or (thn (ha pins s σ H _ I h) fun v s1 ⟨x, H1, I1, r1, q1⟩ => ?_)
  obtain ⟨c, rfl, q1⟩ := q1
  cases r1
  refine wpAny_truthy_bool ?_
  cases c with
  | false => exact hb pins s1 σ H1 Q I1 q1
  | true => exact ⟨.bl true, H1, I1, rfl, q1⟩
end
end L2

namespace L2
open PySem PySem.Spec PyProof.Rows

/-! ### a list, a tuple that is read: tracked, frozen, or an object of the module -/
def SqL (K : PySem.W.Frag) (H : Hp) (a : Addr) (xs : List V) : Prop :=
  Rd H a (.lst xs) ∨
    ∃ (o : Obj) (its : Array Value) (n : Nat), K.lookup a = some o ∧ o.cls = .type "list" ∧ o.dict = none ∧ o.data = .seq its n ∧ its.size ≤ sizeLine ∧ Vals xs its.toList
def SqT (K : PySem.W.Frag) (H : Hp) (a : Addr) (xs : List V) : Prop :=
  Rd H a (.tup xs) ∨
    ∃ (o : Obj) (its : Array Value) (n : Nat), K.lookup a = some o ∧ o.cls = .type "tuple" ∧ o.data = .seq its n ∧ its.size ≤ sizeLine ∧ Vals xs its.toList
def absV : Value → Option V
  | .none => some .non
  | .bool b => some (.bl b)
  | .int i _ => some (.int i)
  | .str x _ => some (.str x)
  | .bytes b _ => some (.byt b)
  | .float b _ => some (.flt b)
  | .ref a => some (.ref a)
  | .type n => some (.ty n)
  | _ => none
theorem RelV.abs {x : V} {u : Value} (r : RelV x u) : absV u = some x := by
  cases x with
  | non => cases r; rfl
  | bl _ => cases r; rfl
  | int _ => obtain ⟨t, rfl⟩ := r; rfl
  | str _ => obtain ⟨t, rfl⟩ := r; rfl
  | byt _ => obtain ⟨t, rfl⟩ := r; rfl
  | flt _ => obtain ⟨t, rfl⟩ := r; rfl
  | ref _ => cases r; rfl
  | ty _ => cases r; rfl
theorem RelV.inj {x y : V} {u : Value} (r : RelV x u) (q : RelV y u) : x = y := Option.some.inj (r.abs.symm.trans q.abs)
theorem Vals.inj : ∀ {xs ys : List V} {us : List Value}, Vals xs us → Vals ys us → xs = ys
  | _, _, _, .nil, .nil => rfl
  | _, _, _, .cons r t, .cons r' t' => by rw [r.inj r', Vals.inj t t']
section
variable {X : Cx} {pins : List (Addr × Obj)} {σ : St} {H : Hp} {s : Shared} {a : Addr} {xs ys : List V}
theorem SqL.of {K : PySem.W.Frag} (h : H a = some (.lst xs)) : SqL K H a xs := .inl (.inl h)
theorem SqT.of {K : PySem.W.Frag} (h : H a = some (.tup xs)) : SqT K H a xs := .inl (.inl h)
theorem Inv.list (I : Inv X pins σ H s) (h : SqL X.K H a xs) : ∃ its : List Value, Vals xs its ∧ PlainL s.heap a its.toArray ∧ xs.length ≤ sizeLine := by
  rcases h with h | ⟨o, its, n, hk, hc, hd, hs, hz, r⟩
  · obtain ⟨z, its, n, r, e⟩ := h.ok I.hok
    exact ⟨its, r, ⟨_, n, e, rfl, rfl, rfl⟩, z⟩
  · refine ⟨its.toList, r, ⟨o, n, I.kIn a o hk, hc, hd, by simpa using hs⟩, ?_⟩
    have e := r.length
    simp only [Array.length_toList] at e
    omega
theorem Inv.tuple (I : Inv X pins σ H s) (h : SqT X.K H a xs) : ∃ its : List Value, Vals xs its ∧ IsTup s.heap a its.toArray ∧ xs.length ≤ sizeLine := by
  rcases h with h | ⟨o, its, n, hk, hc, hs, hz, r⟩
  · obtain ⟨z, its, r, p⟩ := h.ok I.hok
    exact ⟨its, r, p, z⟩
  · refine ⟨its.toList, r, ⟨o, I.kIn a o hk, hc, n, by simpa using hs⟩, ?_⟩
    have e := r.length
    simp only [Array.length_toList] at e
    omega
theorem Inv.list_inj (I : Inv X pins σ H s) (h : SqL X.K H a xs) (h' : SqL X.K H a ys) : xs = ys := by
  obtain ⟨its, r, ⟨o, n, e, _, _, d⟩, _⟩ := I.list h
  obtain ⟨its', r', ⟨o', n', e', _, _, d'⟩, _⟩ := I.list h'
  rw [e] at e'; cases e'
  rw [d] at d'
  injection d' with d1 _
  have : its = its' := by simpa using congrArg Array.toList d1
  subst this
  exact r.inj r'
end

/-! ### another wish about exceptions -/
section
variable {X : Cx} {pins : List (Addr × Obj)} {σ : St} {H : Hp} {s : Shared} {E : Value → Shared → Prop}
end

/-! ### blocks and small statements -/
section
variable {X : Cx} {st : Stmt} {rest : List Stmt} {t u : TS} {e : Expr} {te : TE} {pos : Pos}
def tNext : TS := fun D σ H => D.nx σ H
def tSeq (t u : TS) : TS := fun D σ H => t { D with nx := u D } σ H
theorem pss_nil : PSs X [] tNext := fun _ _ σ H _ I h => wpAny_execs_nil ⟨σ, H, I, h⟩
theorem pss_cons (h1 : PS X st t) (h2 : PSs X rest u) : PSs X (st :: rest) (tSeq t u) := by
  intro pins s σ H D I h
  refine wpAny_execs_cons (thn (h1 pins s σ H { D with nx := u D } I h) fun f s1 q => ?_)
  cases f with
  | next =>
    obtain ⟨σ', H', I', q⟩ := q
    exact h2 pins s1 σ' H' D I' q
  | ret v => exact q
  | brk => exact q
  | cont => exact q
theorem pss_one (h1 : PS X st t) : PSs X [st] t := by
  intro pins s σ H D I h
  refine wpAny_execs_cons (thn (h1 pins s σ H D I h) fun f s1 q => ?_)
  cases f with
  | next => exact wpAny_execs_nil q
  | ret v => exact q
  | brk => exact q
  | cont => exact q
/-- in a def's body nothing is shown -/
theorem Inv.quiet {pins : List (Addr × Obj)} {σ : St} {H : Hp} {s : Shared} (I : Inv X pins σ H s) : interactive X.env = false := by simp [interactive, I.ok.kind]
/-- an expression whose value is dropped -/
def tDrop (te : TE) : TS := fun D σ H => te σ H fun _ H1 => D.nx σ H1
theorem ps_expr (he : PE X e te) (hs : swapsWith e none pos.line X.env = pure false := by rfl) : PS X (.Expr e pos) (tDrop te) := by
  intro pins s σ H D I h
  exact wpAny_Expr_any (thn (he pins s σ H _ I h) fun v s1 ⟨x, H1, I1, r1, q1⟩ => ⟨σ, H1, I1, q1⟩) I.quiet hs
def tRet (te : TE) : TS := fun D σ H => te σ H D.rt
theorem ps_ret (he : PE X e te) : PS X (.Return (some e) pos) (tRet te) := by
  intro pins s σ H D I h
  exact wpAny_Return_some (thn (he pins s σ H _ I h) fun v s1 ⟨x, H1, I1, r1, q1⟩ => ⟨x, σ, H1, I1, r1, q1⟩)
def tIfS (c : TT) (t u : TS) : TS := fun D σ H => c σ H fun b H1 => if b = true then t D σ H1 else u D σ H1
theorem ps_if {c : Expr} {a b : List Stmt} {tc : TT} (hc : PT X c tc) (ha : PSs X a t) (hb : PSs X b u) : PS X (.If c a b pos) (tIfS tc t u) := by
  intro pins s σ H D I h
  refine wpAny_If (thn (hc pins s σ H _ I h) fun d s1 ⟨H1, I1, q1⟩ => ?_)
  cases d with
  | true => exact ha pins s1 σ H1 D I1 q1
  | false => exact hb pins s1 σ H1 D I1 q1
end

/-! ### targets -/
abbrev TG := V → St → Hp → (St → Hp → Prop) → Prop
abbrev TGs := List V → St → Hp → (St → Hp → Prop) → Prop
def PG (X : Cx) (target : Expr) (t : TG) : Prop :=
  ∀ (pins : List (Addr × Obj)) (s : Shared) (σ : St) (H : Hp) (v : V) (u : Value) (Q : St → Hp → Prop), Inv X pins σ H s → RelV v u → t v σ H Q →
    wpAny (model X.prog X.w) X.A (assign target X.env u) (fun _ s' => ∃ σ' H', Inv X pins σ' H' s' ∧ Q σ' H') X.xe s
/-- several targets, one after another -/
def PGs (X : Cx) (ts : List Expr) (t : TGs) : Prop :=
  ∀ (pins : List (Addr × Obj)) (s : Shared) (σ : St) (H : Hp) (vs : List V) (us : List Value) (Q : St → Hp → Prop), Inv X pins σ H s → Vals vs us → t vs σ H Q →
    wpAny (model X.prog X.w) X.A (assignInOrder ((assignEach ts X.env).map (·.2)) us) (fun _ s' => ∃ σ' H', Inv X pins σ' H' s' ∧ Q σ' H') X.xe s
/-- o[i] = v, by values -/
abbrev TSet := V → V → V → Hp → (Hp → Prop) → Prop
def PSet (X : Cx) (t : TSet) : Prop :=
  ∀ (pins : List (Addr × Obj)) (s : Shared) (σ : St) (H : Hp) (o i v : V) (ov iv u : Value) (Q : Hp → Prop), Inv X pins σ H s → RelV o ov → RelV i iv → RelV v u → t o i v H Q →
    wpAny (model X.prog X.w) X.A (setItem ov iv u) (fun _ s' => ∃ H', Inv X pins σ H' s' ∧ Q H') X.xe s
section
variable {X : Cx} {pos : Pos}
def gName (i : Nat) : TG := fun v σ H Q => Q (σ.set i (some v)) H
theorem pg_name {i : Nat} {x : Str} (hN : X.N.Nodup) (hi : X.N[i]? = some x) (hx : Loc X.env.scope x) (hf : X.fn x = true ∨ X.env.scope.names.lookup x = some .local := by first | exact .inl rfl | exact .inr rfl | assumption) : PG X (.Name x pos) (gName i) := by
  intro pins s σ H v u Q I r h
  exact wpAny_assign_Name (store_ok I hN hi hx r (fun s' I' => ⟨_, H, I', h⟩) hf)
def gNil : TGs := fun vs σ H Q => vs = [] ∧ Q σ H
def gCons (t : TG) (u : TGs) : TGs := fun vs σ H Q => ∃ v r, vs = v :: r ∧ t v σ H fun σ' H' => u r σ' H' Q
theorem pgs_nil : PGs X [] gNil := by
  intro pins s σ H vs us Q I r h
  obtain ⟨e, h⟩ := h
  subst e
  cases r
  exact assignInOrder_nil ⟨σ, H, I, h⟩
theorem pgs_cons {e : Expr} {es : List Expr} {t : TG} {u : TGs} (h1 : PG X e t) (h2 : PGs X es u)
    (hs : (assignEach (e :: es) X.env).map (·.2) = assign e X.env :: (assignEach es X.env).map (·.2) := by rfl) : PGs X (e :: es) (gCons t u) := by
  intro pins s σ H vs us Q I r h
  obtain ⟨v, vr, e1, h⟩ := h
  subst e1
  cases r with
  | cons r rr =>
    rw [hs]
    refine assignInOrder_cons (thn (h1 pins s σ H _ _ _ I r h) fun _ s1 ⟨σ1, H1, I1, q1⟩ => ?_)
    exact h2 pins s1 σ1 H1 _ _ Q I1 rr q1
/-- (a, b, ..) = a tuple of that length -/
def gTup (K : PySem.W.Frag) (n : Nat) (t : TGs) : TG := fun v σ H Q => ∃ a xs, v = .ref a ∧ SqT K H a xs ∧ xs.length = n ∧ t xs σ H Q
theorem pg_tup {es : List Expr} {k : Nat} {t : TGs} {n : Nat} (hc : X.calm = true) (h : PGs X es t)
    (hn : (assignEach es X.env).length = n := by rfl) (hst : (assignEach es X.env).findIdx? (·.1) = none := by rfl) : PG X (.Tuple es k pos) (gTup X.K n t) := by
  intro pins s σ H v u Q I r hw
  obtain ⟨a, xs, e1, hq, hl, hw⟩ := hw
  subst e1
  cases r
  obtain ⟨its, rv, ht, hz⟩ := I.tuple hq
  refine assign_Tuple_tuple (I.ok.hd hc) ht (by simp [hn, ← hl, rv.length]) hst fun h' hx => ?_
  have I1 : Inv X pins σ H { s with heap := h' } := I.kept (t' := s.toks) fun b o e => hx b o (Nat.ne_of_lt (Heap.lt_size e)) e
  exact h pins _ σ H xs _ Q I1 (by simpa using rv) hw
/-- o[i] = .. -/
def gSub (to ti : TE) (t : TSet) : TG := fun v σ H Q => to σ H fun o H1 => ti σ H1 fun i H2 => t o i v H2 fun H3 => Q σ H3
theorem pg_sub {o i : Expr} {to ti : TE} {t : TSet} (ho : PE X o to) (hi : PE X i ti) (hs : PSet X t)
    (ha : ∀ v, assign (.Subscript o i pos) X.env v = (do
      let ov ← holding [v] (eval o X.env)
      let iv ← holding [v, ov] (eval i X.env)
      standAt pos
      holding [v, ov, iv] (setItem ov iv v)
      release [v, ov, iv] []) := by intro _; rfl) : PG X (.Subscript o i pos) (gSub to ti t) := by
  intro pins s σ H v u Q I r h
  rw [ha]
  refine wpAny_bind (wpAny_holding (thn (ho pins s σ H _ I h) fun ov s1 ⟨x, H1, I1, r1, q1⟩ => ?_))
  refine wpAny_bind (wpAny_holding (thn (hi pins s1 σ H1 _ I1 q1) fun iv s2 ⟨y, H2, I2, r2, q2⟩ => ?_))
  refine wpAny_bind (wpAny_standAt (wpAny_bind (wpAny_holding (thn (hs pins s2 σ H2 x y v ov iv u _ I2 r1 r2 r q2) fun _ s3 ⟨H3, I3, q3⟩ => ?_))))
  exact wpAny_release ⟨σ, H3, I3, q3⟩
/-- target = value -/
def tAsg (te : TE) (g : TG) : TS := fun D σ H => te σ H fun x H1 => g x σ H1 D.nx
theorem ps_asg {tg e : Expr} {te : TE} {g : TG} (he : PE X e te) (hg : PG X tg g) (hs : swapsWithSole [tg] e pos.line X.env = pure false := by rfl) (hw : swappedStores [tg] e X.env = pure none := by rfl)
    (h1 : (assignEach [tg] X.env).map (·.2) = [assign tg X.env] := by rfl) : PS X (.Assign [tg] e pos) (tAsg te g) := by
  intro pins s σ H D I h
  refine wpAny_Assign_stores (thn (he pins s σ H _ I h) fun v s1 ⟨x, H1, I1, r1, q1⟩ => ?_) hs hw
  rw [h1]
  exact thn (hg pins s1 σ H1 x v _ I1 r1 q1) fun _ s2 q => q
/-- name = value -/
theorem ps_set {i : Nat} {x : Str} {e : Expr} {te : TE} {pos' : Pos} (hN : X.N.Nodup) (hi : X.N[i]? = some x) (hx : Loc X.env.scope x) (he : PE X e te) (hs : swapsWith e (some (.Name x pos')) pos.line X.env = pure false := by rfl) (hf : X.fn x = true ∨ X.env.scope.names.lookup x = some .local := by first | exact .inl rfl | exact .inr rfl | assumption) :
    PS X (.Assign [.Name x pos'] e pos) (tAsg te (gName i)) := by
  intro pins s σ H D I h
  refine wpAny_Assign_Name (thn (he pins s σ H _ I h) fun v s1 ⟨y, H1, I1, r1, q1⟩ => ?_) hs
  exact store_ok I1 hN hi hx r1 (fun s2 I2 => ⟨_, H1, I2, q1⟩) hf
end

/-! ### while -/
section
variable {X : Cx} {pos : Pos}
/-- the invariant W with its measure -/
def tWhile (c : TT) (tb : TS) : TS := fun D σ H => ∃ W : Nat → St → Hp → Prop, (∃ m, W m σ H) ∧ ∀ m σ H, W m σ H →
  c σ H fun b H1 => if b = true then ∃ N : St → Hp → Prop, (∀ σ' H', N σ' H' → ∃ m', m' < m ∧ W m' σ' H') ∧ tb { D with nx := N, ct := N, bk := D.nx } σ H1 else D.nx σ H1
theorem ps_while {c : Expr} {body : List Stmt} {tc : TT} {tb : TS} (hp : PassesOwn (model X.prog X.w) X.A X.env X.xe) (hc : PT X c tc) (hb : PSs X body tb) : PS X (.While c body [] pos) (tWhile tc tb) := by
  intro pins s σ H D I h
  obtain ⟨W, ⟨m0, w0⟩, turn⟩ := h
  refine wpAny_While (codeAny_whileLoop (fun n s' => ∃ σ' H', Inv X pins σ' H' s' ∧ W n σ' H') ?_ m0 ⟨σ, H, I, w0⟩)
  rintro n s1 ⟨σ1, H1, I1, w1⟩
  refine wpAny_passesOwn hp (thn (hc pins s1 σ1 H1 _ I1 (turn n σ1 H1 w1)) fun b s2 ⟨H2, I2, q2⟩ => ?_)
  cases b with
  | true =>
    obtain ⟨N, hN, q2⟩ := q2
    rw [if_pos rfl]
    refine wpAny_passesOwn hp (thn (hb pins s2 σ1 H2 _ I2 q2) fun f s3 q3 => ?_)
    cases f with
    | next =>
      obtain ⟨σ3, H3, I3, n3⟩ := q3
      obtain ⟨m', hm, w3⟩ := hN σ3 H3 n3
      exact ⟨m', hm, σ3, H3, I3, w3⟩
    | cont =>
      obtain ⟨σ3, H3, I3, n3⟩ := q3
      obtain ⟨m', hm, w3⟩ := hN σ3 H3 n3
      exact ⟨m', hm, σ3, H3, I3, w3⟩
    | brk => exact q3
    | ret v => exact q3
  | false =>
    rw [if_neg Bool.false_ne_true]
    exact wpAny_execs_nil ⟨σ1, H2, I2, q2⟩
end

/-! ### what a loop or a comprehension walks -/
/-- at turn i: it yields x (the heap may grow), or it stops -/
structure It where
  go : Nat → Hp → Prop
  yld : Nat → Hp → V → Hp → Prop
  stop : Nat → Hp → Prop
/-- the iterator's own objects may turn: they are not the frame's, not pinned, younger than the entry (or a comprehension's own) -/
def FpOk (X : Cx) (pins : List (Addr × Obj)) (H : Hp) (b : Addr) : Prop :=
  H b = none ∧ b ≠ X.env.locals ∧ b ∉ X.fs ∧ (b ∈ X.ex ∨ X.s₀.heap.objs.size ≤ b) ∧ (∀ x c, X.env.cells.lookup x = some c → c ≠ b) ∧ ∀ p ∈ X.pn ++ pins, p.1 ≠ b
theorem Inv.fpOk {X : Cx} {pins : List (Addr × Obj)} {σ : St} {H H' : Hp} {s : Shared} {b : Addr} (I : Inv X pins σ H s) (hb : s.heap.objs.size ≤ b) (hn : H' b = none) : FpOk X pins H' b := by
  refine ⟨hn, Nat.ne_of_gt (Nat.lt_of_lt_of_le I.lt hb), I.nofs hb, .inr (Nat.le_trans I.sz hb), fun x c e z => ?_, fun p hp z => ?_⟩
  · obtain ⟨v, q⟩ := I.cell x c e
    exact absurd (Nat.lt_of_lt_of_le q.lt (by rw [z]; exact hb)) (Nat.lt_irrefl _)
  · exact absurd (Nat.lt_of_lt_of_le (Heap.lt_size (I.pin p hp).1) (by rw [z]; exact hb)) (Nat.lt_irrefl _)
structure Turn (P : Program) (w : World) (K : PySem.W.Frag) (tg : Expr) (J : It) (fp : List Addr) (it : Addr) (tn : Nat → Heap → Prop) : Prop where
  mem : it ∈ fp
  obj : ∀ i h, tn i h → ∀ b ∈ fp, ∃ o, h.get? b = some o ∧ ∀ v, o.data ≠ .cell v
  keep : ∀ i h h', tn i h → (∀ b ∈ fp, ∀ o, h.get? b = some o → h'.get? b = some o) → tn i h'
  item : ∀ (X : Cx), X.prog = P → X.w = w → X.K = K → X.calm = true → ∀ (i : Nat) (pins : List (Addr × Obj)) (s : Shared) (σ : St) (H : Hp) (E : Value → Shared → Prop), Inv X pins σ H s → (∀ b ∈ fp, FpOk X pins H b) → tn i s.heap → J.go i H →
    wpAny (model P w) X.A (pyNext (.ref it)) (fun r s1 => ∃ u, r = some u ∧
      wpAny (model P w) X.A (letOwnedTupleGo tg (.ref it) u) (fun _ s2 => ∃ x H', Inv X pins σ H' s2 ∧ RelV x u ∧ J.yld i H x H' ∧ tn (i + 1) s2.heap ∧ ∀ b ∈ fp, H' b = none) E s1) E s
  done : ∀ (X : Cx), X.prog = P → X.w = w → X.K = K → X.calm = true → ∀ (i : Nat) (pins : List (Addr × Obj)) (s : Shared) (σ : St) (H : Hp) (E : Value → Shared → Prop), Inv X pins σ H s → (∀ b ∈ fp, FpOk X pins H b) → tn i s.heap → J.stop i H →
    wpAny (model P w) X.A (pyNext (.ref it)) (fun r s1 => r = none ∧ Inv X pins σ H s1) E s
  self : ∀ (A : Around) (i : Nat) (s : Shared) (Q : Value → Shared → Prop) (E : Value → Shared → Prop), tn i s.heap → Q (.ref it) s → wpAny (model P w) A (pyIter (.ref it)) Q E s
abbrev TI := St → Hp → (It → Hp → Prop) → Prop
/-- an iterator has come -/
def PIE (X : Cx) (pins : List (Addr × Obj)) (σ : St) (tg : Expr) (R : It → Hp → Prop) (itv : Value) (s2 : Shared) : Prop :=
  ∃ (it : Addr) (fp : List Addr) (tn : Nat → Heap → Prop) (J : It) (H' : Hp), itv = .ref it ∧ Inv X pins σ H' s2 ∧ Turn X.prog X.w X.K tg J fp it tn ∧ tn 0 s2.heap ∧ (∀ b ∈ fp, FpOk X pins H' b) ∧ R J H'
def PI (X : Cx) (tg iter : Expr) (wi : TI) : Prop :=
  ∀ (pins : List (Addr × Obj)) (s : Shared) (σ : St) (H : Hp) (R : It → Hp → Prop), Inv X pins σ H s → wi σ H R →
    wpAny (model X.prog X.w) X.A (eval iter X.env) (fun v s1 => wpAny (model X.prog X.w) X.A (pyIter v) (PIE X pins σ tg R) X.xe s1) X.xe s

/-- the step ahead of the store is nothing for an iterator that keeps no tuple -/
theorem go_of {M : Model} {A : Around} {E : Value → Shared → Prop} {s : Shared} {tg : Expr} {it : Addr} {u : Value} {o : Obj} {n : String} {vs : Array Value} {Q : Unit → Shared → Prop} (ho : s.heap.get? it = some o) (hc : o.cls = .type n) (hd : o.data = .fields vs)
    (hn : ["enumerate", "zip", "dict_itemiterator", "dict_reverseitemiterator", "odict_iterator", "itertools.zip_longest", "itertools.pairwise"].contains n = false) (hQ : Q () s) : wpAny M A (letOwnedTupleGo tg (.ref it) u) Q E s := by
  unfold letOwnedTupleGo
  cases tg <;> first
    | exact wpAny_pure hQ
    | (cases u <;> first
        | exact wpAny_pure hQ
        | (refine wpAny_bind (wpAny_load ho ?_)
           rw [hc, hd]
           show wpAny M A (if (["enumerate", "zip", "dict_itemiterator", "dict_reverseitemiterator", "odict_iterator", "itertools.zip_longest", "itertools.pairwise"].contains n && vs[0]? == some (rawInt _)) = true then _ else _) Q E s
           rw [if_neg (by intro h; rw [hn, Bool.false_and] at h; cases h)]
           exact wpAny_pure hQ))

/-- the list at a, as it stands at each turn (a loop may append to it) -/
def Itl (K : PySem.W.Frag) (a : Addr) : It :=
  ⟨fun i H => ∃ xs x, SqL K H a xs ∧ xs[i]? = some x, fun i H x H' => H' = H ∧ ∀ xs, SqL K H a xs → xs[i]? = some x, fun i H => ∃ xs, SqL K H a xs ∧ xs.length ≤ i⟩
/-- lo, lo + 1, .. (n of them) -/
def Itr (lo : Int) (n : Nat) : It := ⟨fun i _ => i < n, fun i H x H' => H' = H ∧ x = .int (lo + i), fun i _ => n ≤ i⟩
theorem turn_list {P : Program} {w : World} {K : PySem.W.Frag} {tg : Expr} (a it : Addr) : Turn P w K tg (Itl K a) [it] it (fun i h => h.IsListIter it a i) where
  mem := by simp
  obj := fun i h st b hb => by
    have e : b = it := by simpa using hb
    subst e
    obtain ⟨o, e, c, d⟩ := st
    exact ⟨o, e, fun v z => by rw [d] at z; cases z⟩
  keep := fun i h h' st k => st.at fun o e => k it (by simp) o e
  item := by
    intro X hP hw hK hc i pins s σ H E I hf st hg
    subst hP hw hK
    obtain ⟨xs, x, hq, hx⟩ := hg
    obtain ⟨its, rv, p, hz⟩ := I.list hq
    obtain ⟨u, hu, ru⟩ := rv.get hx
    obtain ⟨f0, f1, f2, f3, f4, f5⟩ := hf it (by simp)
    refine wpAny_pyNext_list_item st p.isList (x := u) (by simpa using hu) fun h' st' sb => ?_
    have I1 : Inv X pins σ H { s with heap := h' } := I.turned (t' := s.toks) (fun b o hb e => (sb.2 b hb).trans e) f0 f1 f3 f4 f5
    obtain ⟨o, e, c, d⟩ := id st'
    exact ⟨u, rfl, go_of (s := { s with heap := h' }) e c d (by decide) ⟨x, H, I1, ru, ⟨rfl, fun ys hy => by rw [I.list_inj hy hq]; exact hx⟩, st', fun b hb => (hf b hb).1⟩⟩
  done := by
    intro X hP hw hK hc i pins s σ H E I hf st hg
    subst hP hw hK
    obtain ⟨xs, hq, hx⟩ := hg
    obtain ⟨its, rv, p, hz⟩ := I.list hq
    obtain ⟨f0, f1, f2, f3, f4, f5⟩ := hf it (by simp)
    have hl := rv.length
    exact wpAny_pyNext_list_end (I.ok.hd hc) st p.isList (by simp; omega) fun h' eb => ⟨rfl, I.turned (t' := s.toks) (fun b o hb e => eb b o hb e) f0 f1 f3 f4 f5⟩
  self := fun _ _ _ _ _ st h => wpAny_pyIter_listiter st h
theorem turn_range {P : Program} {w : World} {K : PySem.W.Frag} {tg : Expr} (it : Addr) (lo : Int) (n : Nat) : Turn P w K tg (Itr lo n) [it] it (fun i h => IsRangeIter h it (lo + (i : Nat) * 1) ((n : Int) - (i : Nat)) 1) where
  mem := by simp
  obj := fun i h st b hb => by
    have e : b = it := by simpa using hb
    subst e
    exact ⟨_, st, fun v z => by
      have z' : Data.fields _ = Data.cell v := z
      cases z'⟩
  keep := fun i h h' st k => k it (by simp) _ st
  item := by
    intro X hP hw hK hc i pins s σ H E I hf st hg
    subst hP hw hK
    obtain ⟨f0, f1, f2, f3, f4, f5⟩ := hf it (by simp)
    have W := Walks.range (prog := X.prog) (w := X.w) (I.ok.hd hc) it lo 1 n
    refine W.item i s _ _ hg st fun v h' tk hv st' kk => ?_
    obtain ⟨t, rfl⟩ := hv
    have I1 : Inv X pins σ H { s with heap := h', toks := tk } := I.turned (fun b o hb e => kk b o (by simpa using hb) e) f0 f1 f3 f4 f5
    refine ⟨_, rfl, go_of (s := { s with heap := h', toks := tk }) (n := "range_iterator") st' rfl rfl (by decide) ⟨.int (lo + i), H, I1, ⟨t, ?_⟩, ⟨rfl, rfl⟩, st', fun b hb => (hf b hb).1⟩⟩
    rw [Int.mul_one]
  done := by
    intro X hP hw hK hc i pins s σ H E I hf st hg
    subst hP hw hK
    obtain ⟨f0, f1, f2, f3, f4, f5⟩ := hf it (by simp)
    exact wpAny_pyNext_range_end (I.ok.hd hc) st (by have : n ≤ i := hg; omega) fun h' eb => ⟨rfl, I.turned (t' := s.toks) (fun b o hb e => eb b o hb e) f0 f1 f3 f4 f5⟩
  self := fun _ _ _ _ _ st h => wpAny_pyIter_rangeiter st h
end L2

namespace L2
open PySem PySem.Spec PyProof.Rows
section
variable {X : Cx} {tg : Expr}
def iList (K : PySem.W.Frag) (tl : TE) : TI := fun σ H R => tl σ H fun x H1 => ∃ a, x = .ref a ∧ (∃ xs, SqL K H1 a xs) ∧ R (Itl K a) H1
theorem pi_list {l : Expr} {tl : TE} (hl : PE X l tl) : PI X tg l (iList X.K tl) := by
  intro pins s σ H R I h
  refine thn (hl pins s σ H _ I h) fun v s1 ⟨x, H1, I1, r1, q1⟩ => ?_
  obtain ⟨a, e, ⟨xs, hq⟩, q⟩ := q1
  subst e
  cases r1
  obtain ⟨its, rv, p, hz⟩ := I1.list hq
  refine wpAny_pyIter_list p.isList ?_
  refine ⟨s1.heap.objs.size, [s1.heap.objs.size], _, _, H1, rfl, I1.kept (t' := s1.toks) fun b o e => Heap.get?_push_of_some _ e, turn_list a _, ⟨_, Heap.get?_push_size _ rfl, rfl, rfl⟩, fun b hb => ?_, q⟩
  have e : b = s1.heap.objs.size := by simpa using hb
  subst e
  exact I1.fpOk (Nat.le_refl _) (I1.hok.fresh (Nat.le_refl _))
/-- a range object just made, walked -/
theorem range_it {pins : List (Addr × Obj)} {σ : St} {H : Hp} {s : Shared} {R : It → Hp → Prop} {E : Value → Shared → Prop} {lo hi : Int} {t u v : Tok} {tk : Nat} (I : Inv X pins σ H s) (h1 : -(2 ^ 62) ≤ lo) (h2 : lo < 2 ^ 62) (h3 : -(2 ^ 62) ≤ hi) (h4 : hi < 2 ^ 62)
    (q : R (Itr lo (hi - lo).toNat) H) : wpAny (model X.prog X.w) X.A (pyIter (.ref s.heap.objs.size)) (PIE X pins σ tg R) E { s with heap := s.heap.push { cls := .type "range", data := .fields #[.int lo t, .int hi u, .int 1 v] }, toks := tk } := by
  refine wpAny_pyIter_range (IsRange.new ..) (small_one h1 h2 h3 h4) ?_
  have I1 : Inv X pins σ H { s with heap := s.heap.push { cls := .type "range", data := .fields #[.int lo t, .int hi u, .int 1 v] }, toks := tk } := I.kept fun b o e => Heap.get?_push_of_some _ e
  refine ⟨(s.heap.push { cls := .type "range", data := .fields #[.int lo t, .int hi u, .int 1 v] }).objs.size, [(s.heap.push { cls := .type "range", data := .fields #[.int lo t, .int hi u, .int 1 v] }).objs.size], _, _, H, rfl,
    I1.kept (t' := tk) fun b o e => Heap.get?_push_of_some _ e, turn_range _ lo (hi - lo).toNat, ?_, fun b hb => ?_, q⟩
  · have e1 : lo + ((0 : Nat) : Int) * 1 = lo := by simp
    have e2 : (((hi - lo).toNat : Nat) : Int) - ((0 : Nat) : Int) = Builtin.Range.rangeSize lo hi 1 := by rw [rangeSize_one]; split <;> omega
    show IsRangeIter _ _ (lo + ((0 : Nat) : Int) * 1) ((((hi - lo).toNat : Nat) : Int) - ((0 : Nat) : Int)) 1
    rw [e1, e2]
    exact Heap.get?_push_size _ rfl
  · have e : b = (s.heap.push { cls := .type "range", data := .fields #[.int lo t, .int hi u, .int 1 v] }).objs.size := by simpa using hb
    subst e
    exact I1.fpOk (Nat.le_refl _) (I1.hok.fresh (Nat.le_refl _))
def iRng1 (ta : TA) : TI := fun σ H R => ta σ H fun vs H1 => ∃ j : Int, vs = [.int j] ∧ -(2 ^ 62) ≤ j ∧ j < 2 ^ 62 ∧ R (Itr 0 j.toNat) H1
theorem pi_range1 {a : Expr} {ta : TA} {p pos : Pos} (hg : Gl X "range") (hm : X.mg "range" = none) (ha : PA X [a] ta) (hs : starEach [a] X.env = [(false, eval a X.env)] := by rfl) : PI X tg (.Call (.Name "range" p) [a] [] pos) (iRng1 ta) := by
  intro pins s σ H R I h
  refine Call_ (ld_blt I hg hm boot_range (PyProof.Rows.callWith_type1 (thn (ha pos pins s σ H _ I h) fun us s1 ⟨vs, H1, I1, r1, q1⟩ => ?_) hs rfl))
  obtain ⟨j, e, q1, q2, q⟩ := q1
  subst e
  cases r1 with
  | cons r rr =>
    cases rr
    obtain ⟨t, rfl⟩ := r
    exact call_range_1 (range_it I1 (by omega) (by omega) q1 q2 (by simpa using q))

/-! ### for -/
/-- W: the invariant by the turn and a measure; N: what the body is to reach -/
def tFor (wi : TI) (g : TG) (tb : TS) : TS := fun D σ H => wi σ H fun J H1 => ∃ W : Nat → Nat → St → Hp → Prop, (∃ m, W 0 m σ H1) ∧ ∀ i m σ H, W i m σ H →
  (J.stop i H ∧ D.nx σ H) ∨ (J.go i H ∧ ∃ N : St → Hp → Prop, (∀ σ' H', N σ' H' → ∃ m', m' < m ∧ W (i + 1) m' σ' H') ∧ ∀ x H', J.yld i H x H' → g x σ H' fun σ2 H2 => tb { D with nx := N, ct := N, bk := D.nx } σ2 H2)
/-- the records at fp as they stand -/
def pinsAt (fp : List Addr) (h : Heap) : List (Addr × Obj) := fp.filterMap fun b => (h.get? b).map fun o => (b, o)
theorem mem_pinsAt {fp : List Addr} {h : Heap} {b : Addr} {o : Obj} (hb : b ∈ fp) (e : h.get? b = some o) : (b, o) ∈ pinsAt fp h := List.mem_filterMap.mpr ⟨b, hb, by rw [e]; rfl⟩
theorem of_pinsAt {fp : List Addr} {h : Heap} {p : Addr × Obj} (hp : p ∈ pinsAt fp h) : p.1 ∈ fp ∧ h.get? p.1 = some p.2 := by
  obtain ⟨b, hb, e⟩ := List.mem_filterMap.mp hp
  cases q : h.get? b with
  | none => rw [q] at e; cases e
  | some o =>
    rw [q] at e
    have e' : (b, o) = p := Option.some.inj e
    subst e'
    exact ⟨hb, q⟩
theorem Inv.pinned {pins : List (Addr × Obj)} {σ : St} {H : Hp} {s : Shared} {fp : List Addr} (I : Inv X pins σ H s) (hf : ∀ b ∈ fp, FpOk X pins H b) (ho : ∀ b ∈ fp, ∃ o, s.heap.get? b = some o ∧ ∀ v, o.data ≠ .cell v) : Inv X (pins ++ pinsAt fp s.heap) σ H s :=
  I.pins_of fun p hp => (List.mem_append.mp hp).elim (fun z => I.pin p (List.mem_append_right _ z)) fun z => by
    obtain ⟨hb, e⟩ := of_pinsAt z
    obtain ⟨f0, f1, f2, _⟩ := hf p.1 hb
    obtain ⟨o, e', d⟩ := ho p.1 hb
    rw [e] at e'; cases e'
    exact ⟨e, f0, f1, f2, d⟩
theorem Inv.unpinned {pins pl : List (Addr × Obj)} {σ : St} {H : Hp} {s : Shared} (I : Inv X (pins ++ pl) σ H s) : Inv X pins σ H s := I.pins_of fun p hp => I.pin p (List.mem_append_right _ (List.mem_append_left _ hp))
theorem ps_for {iter : Expr} {body : List Stmt} {wi : TI} {g : TG} {tb : TS} {pos : Pos} (hp : PassesOwn (model X.prog X.w) X.A X.env X.xe) (hc : X.calm = true) (hi : PI X tg iter wi) (hg : PG X tg g) (hb : PSs X body tb)
    (hs : ∀ x, foldedSetIterable iter X.env x = pure x := by intro _; rfl) : PS X (.For tg iter body [] pos) (tFor wi g tb) := by
  intro pins s σ H D I h
  refine wpAny_For (thn (hi pins s σ H _ I h) fun v s1 h1 => thn h1 fun itv s2 h2 => ?_) hs
  obtain ⟨it, fp, tn, J, H2, e, I2, T, st2, f2, W, ⟨m0, w0⟩, turn⟩ := h2
  subst e
  -- what stays true of the iterator's objects through the loop
  have stat : ∀ {H' : Hp}, (∀ b ∈ fp, H' b = none) → ∀ b ∈ fp, FpOk X pins H' b := fun hn b hb => ⟨hn b hb, (f2 b hb).2⟩
  refine codeAny_forLoop_any (fun n s' => ∃ i σ' H', Inv X pins σ' H' s' ∧ tn i s'.heap ∧ (∀ b ∈ fp, H' b = none) ∧ W i n σ' H') ?_ m0 ⟨0, σ, H2, I2, st2, fun b hb => (f2 b hb).1, w0⟩
  rintro n s3 ⟨i, σ3, H3, I3, st3, fr3, w3⟩
  rcases turn i n σ3 H3 w3 with ⟨stop, qn⟩ | ⟨go, N, hN, step⟩
  · refine wpAny_passesOwn hp (thn (T.done X rfl rfl rfl hc i pins s3 σ3 H3 X.xe I3 (stat fr3) st3 stop) fun r s4 ⟨hr, I4⟩ => ?_)
    subst hr
    exact wpAny_execs_nil ⟨σ3, H3, I4, qn⟩
  · refine wpAny_passesOwn hp (thn (T.item X rfl rfl rfl hc i pins s3 σ3 H3 X.xe I3 (stat fr3) st3 go) fun r s4 ⟨u, hr, h4⟩ => ?_)
    subst hr
    refine wpAny_passesOwn hp (thn h4 fun _ s5 ⟨x, H5, I5, r5, y5, st5, fr5⟩ => ?_)
    have I5' := I5.pinned (stat fr5) (T.obj _ _ st5)
    refine wpAny_passesOwn hp (thn (hg _ s5 σ3 H5 x u _ I5' r5 (step x H5 y5)) fun _ s6 ⟨σ6, H6, I6, q6⟩ => ?_)
    refine wpAny_passesOwn hp (thn (hb _ s6 σ6 H6 _ I6 q6) fun f s7 q7 => ?_)
    have again : ∀ {σ7 : St} {H7 : Hp}, Inv X (pins ++ pinsAt fp s5.heap) σ7 H7 s7 → N σ7 H7 → ∃ m, m < n ∧ ∃ i σ' H', Inv X pins σ' H' s7 ∧ tn i s7.heap ∧ (∀ b ∈ fp, H' b = none) ∧ W i m σ' H' := fun {σ7 H7} I7 n7 => by
      obtain ⟨m', hm, w7⟩ := hN σ7 H7 n7
      refine ⟨m', hm, i + 1, σ7, H7, I7.unpinned, T.keep _ _ _ st5 fun b hb o e => (I7.pin (b, o) (List.mem_append_right _ (List.mem_append_right _ (mem_pinsAt hb e)))).1, fun b hb => ?_, w7⟩
      obtain ⟨o, e, d⟩ := T.obj _ _ st5 b hb
      exact (I7.pin (b, o) (List.mem_append_right _ (List.mem_append_right _ (mem_pinsAt hb e)))).2.1
    cases f with
    | next => obtain ⟨σ7, H7, I7, n7⟩ := q7; exact again I7 n7
    | cont => obtain ⟨σ7, H7, I7, n7⟩ := q7; exact again I7 n7
    | brk => obtain ⟨σ7, H7, I7, q7⟩ := q7; exact ⟨σ7, H7, I7.unpinned, q7⟩
    | ret v => obtain ⟨x7, σ7, H7, I7, r7, q7⟩ := q7; exact ⟨x7, σ7, H7, I7.unpinned, r7, q7⟩
end

/-! ### the forms one uses -/
/-- over a list that the body leaves as it is -/
theorem for_list {K : PySem.W.Frag} {a : Addr} {xs : List V} {g : TG} {tb : TS} {D : Ends} {σ : St} {H : Hp} (Pv : Nat → St → Hp → Prop) (h0 : Pv 0 σ H) (hl : ∀ i σ H, i ≤ xs.length → Pv i σ H → SqL K H a xs)
    (hs : ∀ i x σ H, xs[i]? = some x → Pv i σ H → g x σ H fun σ2 H2 => tb { D with nx := Pv (i + 1), ct := Pv (i + 1), bk := D.nx } σ2 H2) (hd : ∀ σ H, Pv xs.length σ H → D.nx σ H) :
    ∃ W : Nat → Nat → St → Hp → Prop, (∃ m, W 0 m σ H) ∧ ∀ i m σ H, W i m σ H →
      ((Itl K a).stop i H ∧ D.nx σ H) ∨ ((Itl K a).go i H ∧ ∃ N : St → Hp → Prop, (∀ σ' H', N σ' H' → ∃ m', m' < m ∧ W (i + 1) m' σ' H') ∧ ∀ x H', (Itl K a).yld i H x H' → g x σ H' fun σ2 H2 => tb { D with nx := N, ct := N, bk := D.nx } σ2 H2) := by
  refine ⟨fun i m σ H => m = xs.length - i ∧ i ≤ xs.length ∧ Pv i σ H, ⟨xs.length, by simp, Nat.zero_le _, h0⟩, ?_⟩
  rintro i m σ H ⟨rfl, hi, p⟩
  have q := hl i σ H hi p
  by_cases hlt : i < xs.length
  · refine .inr ⟨⟨xs, xs[i], q, by simp [hlt]⟩, Pv (i + 1), fun σ' H' p' => ⟨xs.length - (i + 1), by omega, rfl, hlt, p'⟩, fun x H' y => ?_⟩
    obtain ⟨e, y⟩ := y
    subst e
    exact hs i x σ _ (y xs q) p
  · have e : i = xs.length := by omega
    subst e
    exact .inl ⟨⟨xs, q, Nat.le_refl _⟩, hd σ H p⟩
theorem for_range {lo : Int} {n : Nat} {g : TG} {tb : TS} {D : Ends} {σ : St} {H : Hp} (Pv : Nat → St → Hp → Prop) (h0 : Pv 0 σ H)
    (hs : ∀ i σ H, i < n → Pv i σ H → g (.int (lo + i)) σ H fun σ2 H2 => tb { D with nx := Pv (i + 1), ct := Pv (i + 1), bk := D.nx } σ2 H2) (hd : ∀ σ H, Pv n σ H → D.nx σ H) :
    ∃ W : Nat → Nat → St → Hp → Prop, (∃ m, W 0 m σ H) ∧ ∀ i m σ H, W i m σ H →
      ((Itr lo n).stop i H ∧ D.nx σ H) ∨ ((Itr lo n).go i H ∧ ∃ N : St → Hp → Prop, (∀ σ' H', N σ' H' → ∃ m', m' < m ∧ W (i + 1) m' σ' H') ∧ ∀ x H', (Itr lo n).yld i H x H' → g x σ H' fun σ2 H2 => tb { D with nx := N, ct := N, bk := D.nx } σ2 H2) := by
  refine ⟨fun i m σ H => m = n - i ∧ i ≤ n ∧ Pv i σ H, ⟨n, by simp, Nat.zero_le _, h0⟩, ?_⟩
  rintro i m σ H ⟨rfl, hi, p⟩
  by_cases hlt : i < n
  · refine .inr ⟨hlt, Pv (i + 1), fun σ' H' p' => ⟨n - (i + 1), by omega, rfl, hlt, p'⟩, fun x H' y => ?_⟩
    obtain ⟨e, y⟩ := y
    subst e y
    exact hs i σ _ hlt p
  · have e : i = n := by omega
    subst e
    exact .inl ⟨Nat.le_refl _, hd σ H p⟩
end L2

namespace L2
open PySem PySem.Spec PyProof.Rows

abbrev R2 := V → V → Hp → VK → Prop
/-- a two-place operation on values: f is binaryOp op, inplaceOp op or compareOp op -/
def OpR (X : Cx) (f : Value → Value → Sem Value) (r : R2) : Prop :=
  ∀ (pins : List (Addr × Obj)) (s : Shared) (σ : St) (H : Hp) (x y : V) (v u : Value) (Q : VK), Inv X pins σ H s → RelV x v → RelV y u → r x y H Q →
    wpAny (model X.prog X.w) X.A (f v u) (EP X pins σ Q) X.xe s
/-- a one-place operation -/
def UnR (X : Cx) (f : Value → Sem Value) (r : V → Hp → VK → Prop) : Prop :=
  ∀ (pins : List (Addr × Obj)) (s : Shared) (σ : St) (H : Hp) (x : V) (v : Value) (Q : VK), Inv X pins σ H s → RelV x v → r x H Q →
    wpAny (model X.prog X.w) X.A (f v) (EP X pins σ Q) X.xe s
/-- a call of a value that is known (a builtin, a type) with values -/
def CallR (X : Cx) (f : Value) (r : List V → Hp → VK → Prop) : Prop :=
  ∀ (pins : List (Addr × Obj)) (s : Shared) (σ : St) (H : Hp) (xs : List V) (us : List Value) (Q : VK), Inv X pins σ H s → Vals xs us → r xs H Q →
    wpAny (model X.prog X.w) X.A (call f us) (EP X pins σ Q) X.xe s
/-- a value's truth -/
def TruR (X : Cx) (r : V → Hp → (Bool → Hp → Prop) → Prop) : Prop :=
  ∀ (pins : List (Addr × Obj)) (s : Shared) (σ : St) (H : Hp) (x : V) (v : Value) (Q : Bool → Hp → Prop), Inv X pins σ H s → RelV x v → r x H Q →
    wpAny (model X.prog X.w) X.A (truthy v) (TP X pins σ Q) X.xe s

def tOp (r : R2) (ta tb : TE) : TE := fun σ H Q => ta σ H fun x H1 => tb σ H1 fun y H2 => r x y H2 Q
def tUn (r : V → Hp → VK → Prop) (ta : TE) : TE := fun σ H Q => ta σ H fun x H1 => r x H1 Q
/-- ints in, under C, and a value out -/
def rI (C : Int → Int → Prop) (g : Int → Int → V) : R2 := fun x y H Q => ∃ i j, x = .int i ∧ y = .int j ∧ C i j ∧ Q (g i j) H
def rI0 (g : Int → Int → V) : R2 := fun x y H Q => ∃ i j, x = .int i ∧ y = .int j ∧ Q (g i j) H
def rU (g : Int → V) : V → Hp → VK → Prop := fun x H Q => ∃ i, x = .int i ∧ Q (g i) H

section
variable {X : Cx} {a b c : Expr} {ta tb tc : TE} {pos : Pos}

theorem binT (ha : PE X a ta) (hb : PE X b tb) {pins : List (Addr × Obj)} {s : Shared} {σ : St} {H : Hp} {R : V → V → Hp → Prop} (I : Inv X pins σ H s)
    (h : ta σ H fun x H1 => tb σ H1 fun y H2 => R x y H2) {Q : Value → Shared → Prop} {f : Value → Value → Sem Value}
    (hf : ∀ v u s2 x y H2, Inv X pins σ H2 s2 → RelV x v → RelV y u → R x y H2 → wpAny (model X.prog X.w) X.A (f v u) Q X.xe s2) :
    wpAny (model X.prog X.w) X.A (eval a X.env) (fun v s₁ => wpAny (model X.prog X.w) X.A (eval b X.env) (fun u s₂ => wpAny (model X.prog X.w) X.A (f v u) Q X.xe s₂) X.xe s₁) X.xe s := by
  refine thn (ha pins s σ H _ I h) fun v s1 ⟨x, H1, I1, r1, q1⟩ => ?_
  refine thn (hb pins s1 σ H1 _ I1 q1) fun u s2 ⟨y, H2, I2, r2, q2⟩ => ?_
  exact hf v u s2 x y H2 I2 r1 r2 q2

theorem pe_op {op : Operator} {r : R2} (ho : OpR X (binaryOp op) r) (ha : PE X a ta) (hb : PE X b tb) : PE X (.BinOp a op b pos) (tOp r ta tb) := by
  intro pins s σ H Q I h
  exact wpAny_BinOp (binT ha hb I h fun v u s2 x y H2 I2 rx ry q => ho pins s2 σ H2 x y v u Q I2 rx ry q)
theorem pe_un {op : UnaryOp} {r : V → Hp → VK → Prop} (ho : UnR X (unaryOp op) r) (ha : PE X a ta) : PE X (.UnaryOp op a pos) (tUn r ta) := by
  intro pins s σ H Q I h
  exact UnaryOp_ (thn (ha pins s σ H _ I h) fun v s1 ⟨x, H1, I1, r1, q1⟩ => ho pins s1 σ H1 x v Q I1 r1 q1)

/-! ### ints -/
theorem opI {f : Value → Value → Sem Value} {C : Int → Int → Prop} {g : Int → Int → Int}
    (rule : ∀ (i j : Int) (t u : Tok) (s : Shared) (Q : Value → Shared → Prop) (E : Value → Shared → Prop), C i j → Q (.int (g i j) s.toks) { s with toks := s.toks + 1 } → wpAny (model X.prog X.w) X.A (f (.int i t) (.int j u)) Q E s) :
    OpR X f (rI C fun i j => .int (g i j)) := by
  intro pins s σ H x y v u Q I rx ry h
  obtain ⟨i, j, rfl, rfl, hc, q⟩ := h
  obtain ⟨t, rfl⟩ := rx
  obtain ⟨t', rfl⟩ := ry
  exact rule i j t t' s _ _ hc ⟨.int (g i j), H, I.tok _, ⟨_, rfl⟩, q⟩
theorem opI0 {f : Value → Value → Sem Value} {g : Int → Int → Int}
    (rule : ∀ (i j : Int) (t u : Tok) (s : Shared) (Q : Value → Shared → Prop) (E : Value → Shared → Prop), Q (.int (g i j) s.toks) { s with toks := s.toks + 1 } → wpAny (model X.prog X.w) X.A (f (.int i t) (.int j u)) Q E s) :
    OpR X f (rI0 fun i j => .int (g i j)) := by
  intro pins s σ H x y v u Q I rx ry h
  obtain ⟨i, j, rfl, rfl, q⟩ := h
  obtain ⟨t, rfl⟩ := rx
  obtain ⟨t', rfl⟩ := ry
  exact rule i j t t' s _ _ ⟨.int (g i j), H, I.tok _, ⟨_, rfl⟩, q⟩

def CDiv (i j : Int) : Prop := 0 < j ∧ j < 1073741824
def CMul (i j : Int) : Prop := (-(2 ^ 64) < i ∧ i < 2 ^ 64) ∨ (-(2 ^ 64) < j ∧ j < 2 ^ 64)
theorem CMul.ok {i j : Int} (h : CMul i j) : IntMulOk i j := by
  rcases h with ⟨h1, h2⟩ | ⟨h1, h2⟩
  · exact .of_left (intBits_le_64 h1 h2)
  · exact .of_right (intBits_le_64 h1 h2)

theorem op_add : OpR X (binaryOp .Add) (rI0 fun i j => .int (i + j)) := opI0 fun _ _ _ _ _ _ _ q => add_int q
theorem op_mul : OpR X (binaryOp .Mult) (rI CMul fun i j => .int (i * j)) := opI fun _ _ _ _ _ _ _ hc q => mul_int q hc.ok
/-- // by a positive divisor -/
theorem op_fdiv : OpR X (binaryOp .FloorDiv) (rI CDiv fun i j => .int (i / j)) := opI fun i j _ _ _ _ _ hc q => by
  have h1 : (0 : Int) < j := hc.1
  have h2 : j < 1073741824 := hc.2
  exact floordiv_int (by omega) (by rw [Int.fdiv_eq_ediv_of_nonneg i (by omega)]; exact q) (.inl (PyProof.noPylong_small (by omega)))
/-- % by a positive divisor of any size -/
theorem op_mod : OpR X (binaryOp .Mod) (rI (fun _ j => 0 < j) fun i j => .int (i % j)) := opI fun i j _ _ _ _ _ hc q => by
  have h1 : (0 : Int) < j := hc
  exact mod_int' (by omega) (by rw [Int.fmod_eq_emod_of_nonneg i (by omega)]; exact q)


theorem unI {f : Value → Sem Value} {g : Int → Int}
    (rule : ∀ (i : Int) (t : Tok) (s : Shared) (Q : Value → Shared → Prop) (E : Value → Shared → Prop), Q (.int (g i) s.toks) { s with toks := s.toks + 1 } → wpAny (model X.prog X.w) X.A (f (.int i t)) Q E s) :
    UnR X f (rU fun i => .int (g i)) := by
  intro pins s σ H x v Q I rx h
  obtain ⟨i, rfl, q⟩ := h
  obtain ⟨t, rfl⟩ := rx
  exact rule i t s _ _ ⟨.int (g i), H, I.tok _, ⟨_, rfl⟩, q⟩
theorem un_neg : UnR X (unaryOp .USub) (rU fun i => .int (-i)) := unI fun _ _ _ _ _ q => neg_int q

/-! ### bools among ints: n += (a < b) -/
end

/-! ### comparisons -/
/-- the scalars that == tells apart as data does -/
def scal : V → V → Bool
  | .non, .non => true | .non, .int _ => true | .int _, .non => true | .non, .bl _ => true | .bl _, .non => true | .non, .str _ => true | .str _, .non => true
  | .int _, .int _ => true | .bl _, .bl _ => true | .str _, .str _ => true | .byt _, .byt _ => true
  | .int _, .str _ => true | .str _, .int _ => true | .bl _, .str _ => true | .str _, .bl _ => true
  | _, _ => false
def rEq : R2 := fun x y H Q => scal x y = true ∧ Q (.bl (decide (x = y))) H
def rNe : R2 := fun x y H Q => scal x y = true ∧ Q (.bl (!decide (x = y))) H

theorem dec_int {i j : Int} : decide (V.int i = V.int j) = (i == j) := by
  rw [Bool.eq_iff_iff]
  simp
theorem dec_bl {i j : Bool} : decide (V.bl i = V.bl j) = (i == j) := by
  rw [Bool.eq_iff_iff]
  simp
theorem dec_str {i j : Str} : decide (V.str i = V.str j) = (i == j) := by
  rw [Bool.eq_iff_iff]
  simp
theorem dec_byt {i j : Array UInt8} : decide (V.byt i = V.byt j) = (i.toList == j.toList) := by
  rw [Bool.eq_iff_iff]
  cases i
  cases j
  simp

section
variable {X : Cx} {a b c : Expr} {ta tb tc : TE} {pos : Pos}
theorem fin_bl {pins : List (Addr × Obj)} {σ : St} {H : Hp} {s : Shared} {Q : VK} {k k' : Bool} (I : Inv X pins σ H s) (q : Q (.bl k) H) (e : k = k') : EP X pins σ Q (.bool k') s := by
  subst e
  exact ⟨.bl k, H, I, rfl, q⟩
theorem op_eq : OpR X (compareOp .Eq) rEq := by
  intro pins s σ H x y v u Q I rx ry h
  obtain ⟨hs, q⟩ := h
  cases x with
  | non =>
    cases rx
    cases y with
    | non => cases ry; exact PySem.EqNone.eq_none_none (fin_bl I q (by simp))
    | bl j => cases ry; exact PySem.EqNone.eq_none_bool (fin_bl I q (by simp))
    | int j => obtain ⟨t', rfl⟩ := ry; exact PySem.EqNone.eq_none_int (fin_bl I q (by simp))
    | str j => obtain ⟨t', rfl⟩ := ry; exact PySem.EqNone.eq_none_str (fin_bl I q (by simp))
    | _ => exact absurd (show false = true from hs) Bool.false_ne_true
  | bl i =>
    cases rx
    cases y with
    | non => cases ry; exact PySem.EqNone.eq_bool_none (fin_bl I q (by simp))
    | bl j => cases ry; exact eq_bool (fin_bl I q dec_bl)
    | str j => obtain ⟨t', rfl⟩ := ry; exact PySem.EqMixed.eq_bool_str (fin_bl I q (by simp))
    | _ => exact absurd (show false = true from hs) Bool.false_ne_true
  | int i =>
    obtain ⟨t, rfl⟩ := rx
    cases y with
    | non => cases ry; exact PySem.EqNone.eq_int_none (fin_bl I q (by simp))
    | int j => obtain ⟨t', rfl⟩ := ry; exact eq_int (fin_bl I q dec_int)
    | str j => obtain ⟨t', rfl⟩ := ry; exact PySem.EqMixed.eq_int_str (fin_bl I q (by simp))
    | _ => exact absurd (show false = true from hs) Bool.false_ne_true
  | str i =>
    obtain ⟨t, rfl⟩ := rx
    cases y with
    | non => cases ry; exact PySem.EqNone.eq_str_none (fin_bl I q (by simp))
    | bl j => cases ry; exact PySem.EqMixed.eq_str_bool (fin_bl I q (by simp))
    | int j => obtain ⟨t', rfl⟩ := ry; exact PySem.EqMixed.eq_str_int (fin_bl I q (by simp))
    | str j => obtain ⟨t', rfl⟩ := ry; exact eq_str (fin_bl I q dec_str)
    | _ => exact absurd (show false = true from hs) Bool.false_ne_true
  | byt i =>
    obtain ⟨t, rfl⟩ := rx
    cases y with
    | byt j => obtain ⟨t', rfl⟩ := ry; exact PySem.W.eq_bytes (fin_bl I q dec_byt)
    | _ => exact absurd (show false = true from hs) Bool.false_ne_true
  | _ => cases y <;> exact absurd (show false = true from hs) Bool.false_ne_true
theorem op_ne : OpR X (compareOp .NotEq) rNe := by
  intro pins s σ H x y v u Q I rx ry h
  obtain ⟨hs, q⟩ := h
  cases x with
  | non =>
    cases rx
    cases y with
    | non => cases ry; exact PySem.EqNone.ne_none_none (fin_bl I q (by simp))
    | bl j => cases ry; exact PySem.EqNone.ne_none_bool (fin_bl I q (by simp))
    | int j => obtain ⟨t', rfl⟩ := ry; exact PySem.EqNone.ne_none_int (fin_bl I q (by simp))
    | str j => obtain ⟨t', rfl⟩ := ry; exact PySem.EqNone.ne_none_str (fin_bl I q (by simp))
    | _ => exact absurd (show false = true from hs) Bool.false_ne_true
  | bl i =>
    cases rx
    cases y with
    | non => cases ry; exact PySem.EqNone.ne_bool_none (fin_bl I q (by simp))
    | bl j => cases ry; exact ne_bool (fin_bl I q (congrArg not dec_bl))
    | str j => obtain ⟨t', rfl⟩ := ry; exact PySem.EqMixed.ne_bool_str (fin_bl I q (by simp))
    | _ => exact absurd (show false = true from hs) Bool.false_ne_true
  | int i =>
    obtain ⟨t, rfl⟩ := rx
    cases y with
    | non => cases ry; exact PySem.EqNone.ne_int_none (fin_bl I q (by simp))
    | int j => obtain ⟨t', rfl⟩ := ry; exact ne_int (fin_bl I q (congrArg not dec_int))
    | str j => obtain ⟨t', rfl⟩ := ry; exact PySem.EqMixed.ne_int_str (fin_bl I q (by simp))
    | _ => exact absurd (show false = true from hs) Bool.false_ne_true
  | str i =>
    obtain ⟨t, rfl⟩ := rx
    cases y with
    | non => cases ry; exact PySem.EqNone.ne_str_none (fin_bl I q (by simp))
    | bl j => cases ry; exact PySem.EqMixed.ne_str_bool (fin_bl I q (by simp))
    | int j => obtain ⟨t', rfl⟩ := ry; exact PySem.EqMixed.ne_str_int (fin_bl I q (by simp))
    | str j => obtain ⟨t', rfl⟩ := ry; exact ne_str (fin_bl I q (congrArg not dec_str))
    | _ => exact absurd (show false = true from hs) Bool.false_ne_true
  | byt i =>
    obtain ⟨t, rfl⟩ := rx
    cases y with
    | byt j => obtain ⟨t', rfl⟩ := ry; exact PySem.W.ne_bytes (fin_bl I q (congrArg not dec_byt))
    | _ => exact absurd (show false = true from hs) Bool.false_ne_true
  | _ => cases y <;> exact absurd (show false = true from hs) Bool.false_ne_true


/-- is None, is not None: the right side a value none -/
theorem op_isN : OpR X (compareOp .Is) (fun x y H Q => y = .non ∧ Q (.bl (decide (x = .non))) H) := by
  intro pins s σ H x y v u Q I rx ry h
  obtain ⟨rfl, q⟩ := h
  cases ry
  refine is_none_gen (fin_bl I q ?_)
  cases x <;> first
    | (cases rx; rfl)
    | (obtain ⟨t, rfl⟩ := rx; rfl)
theorem op_notN : OpR X (compareOp .IsNot) (fun x y H Q => y = .non ∧ Q (.bl (!decide (x = .non))) H) := by
  intro pins s σ H x y v u Q I rx ry h
  obtain ⟨rfl, q⟩ := h
  cases ry
  refine isnot_none_gen (fin_bl I q ?_)
  cases x <;> first
    | (cases rx; rfl)
    | (obtain ⟨t, rfl⟩ := rx; rfl)



theorem nomark (b : Expr) {op : CmpOp} (h : op ≠ .In := by decide) (h2 : op ≠ .NotIn := by decide) : behindInMarks op b = false := by
  have e1 : (op == CmpOp.In) = false := by cases op <;> first | rfl | exact absurd rfl h
  have e2 : (op == CmpOp.NotIn) = false := by cases op <;> first | rfl | exact absurd rfl h2
  cases b <;> simp [behindInMarks, e1, e2]
/-- a comparison as a value; hm: nomark b, or (for in, not in) by with_unfolding_all rfl -/
theorem pe_cmpR {op : CmpOp} {r : R2} (ho : OpR X (compareOp op) r) (ha : PE X a ta) (hb : PE X b tb) (hm : behindInMarks op b = false) : PE X (.Compare a [op] [b] pos) (tOp r ta tb) := by
  intro pins s σ H Q I h
  exact wpAny_Compare1 (binT ha hb I h fun v u s2 x y H2 I2 rx ry q => ho pins s2 σ H2 x y v u Q I2 rx ry q) hm
/-- a reading of a value as a test -/
def tTest (t : TE) : TT := fun σ H Q => t σ H fun x H' => ∃ k, x = .bl k ∧ Q k H'
theorem pt_cmpR {op : CmpOp} {r : R2} (ho : OpR X (compareOp op) r) (ha : PE X a ta) (hb : PE X b tb) (hm : behindInMarks op b = false) : PT X (.Compare a [op] [b] pos) (tTest (tOp r ta tb)) := by
  intro pins s σ H Q I h
  refine wpAny_isTrue_Compare1 (thn (ha pins s σ H _ I h) fun v s1 ⟨x, H1, I1, r1, q1⟩ => thn (hb pins s1 σ H1 _ I1 q1) fun u s2 ⟨y, H2, I2, r2, q2⟩ =>
    thn (ho pins s2 σ H2 x y v u _ I2 r1 r2 q2) fun c s3 ⟨z, H3, I3, r3, k, e, q3⟩ => ?_) hm
  subst e
  cases r3
  exact wpAny_truthy_bool ⟨H3, I3, q3⟩

/-! ### truth -/
/-- a value's truth by the abstract heap -/
def TruV (K : PySem.W.Frag) (x : V) (H : Hp) (k : Bool) : Prop :=
  match x with
  | .non => k = false
  | .bl b => k = b
  | .int i => k = (i != 0)
  | .str y => y.length ≤ sizeLine ∧ k = ((y.length : Int) != 0)
  | .byt y => y.size ≤ sizeLine ∧ k = ((y.size : Int) != 0)
  | .ref p => (∃ xs, SqL K H p xs ∧ k = !xs.isEmpty) ∨ (∃ xs, SqT K H p xs ∧ k = !xs.isEmpty) ∨ ∃ kvs, H p = some (.dK kvs) ∧ k = !kvs.isEmpty
  | _ => False
theorem isEmpty_kv {κ : Type} {kvs : List (κ × V)} {vs : List (κ × Value)} (r : KV kvs vs) : (!vs.isEmpty) = !kvs.isEmpty := by
  cases r <;> rfl
theorem isEmpty_of {xs : List V} {its : List Value} (r : Vals xs its) : (!its.toArray.isEmpty) = !xs.isEmpty := by
  cases r <;> simp
theorem line63 : (sizeLine : Nat) < 2 ^ 63 := by rw [sizeLine_eq]; decide
theorem tru_ok : TruR X (fun x H Q => ∃ k, TruV X.K x H k ∧ Q k H) := by
  intro pins s σ H x v Q I rx h
  obtain ⟨k, e, q⟩ := h
  have hl := line63
  have hs : sizeLine = 16777216 := sizeLine_eq
  cases x with
  | non =>
    cases rx
    have e' : k = false := e
    subst e'
    exact truthy_none ⟨H, I, q⟩
  | bl b =>
    cases rx
    have e' : k = b := e
    subst e'
    exact wpAny_truthy_bool ⟨H, I, q⟩
  | int i =>
    obtain ⟨t, rfl⟩ := rx
    have e' : k = (i != 0) := e
    subst e'
    exact PySem.P.truthy_int ⟨H, I, q⟩
  | str y =>
    obtain ⟨t, rfl⟩ := rx
    obtain ⟨hy, e'⟩ : y.length ≤ sizeLine ∧ k = ((y.length : Int) != 0) := e
    subst e'
    exact PySem.P.truthy_str (by omega) ⟨H, I.tok _, q⟩
  | byt y =>
    obtain ⟨t, rfl⟩ := rx
    obtain ⟨hy, e'⟩ : y.size ≤ sizeLine ∧ k = ((y.size : Int) != 0) := e
    subst e'
    exact PySem.W.truthy_bytes (by omega) ⟨H, I.tok _, q⟩
  | ref p =>
    cases rx
    have e' : (∃ xs, SqL X.K H p xs ∧ k = !xs.isEmpty) ∨ (∃ xs, SqT X.K H p xs ∧ k = !xs.isEmpty) ∨ ∃ kvs, H p = some (.dK kvs) ∧ k = !kvs.isEmpty := e
    rcases e' with ⟨xs, hx, e'⟩ | ⟨xs, hx, e'⟩ | ⟨kvs, hx, e'⟩
    · subst e'
      obtain ⟨its, r, pl, hz⟩ := I.list hx
      have hlen := r.length
      exact wpAny_truthy_list pl.isList (by simp only [List.size_toArray]; omega) ⟨H, I.tok _, by rw [isEmpty_of r]; exact q⟩
    · subst e'
      obtain ⟨its, r, pl, hz⟩ := I.tuple hx
      have hlen := r.length
      exact truthy_tuple pl (by simp only [List.size_toArray]; omega) ⟨H, I.tok _, by rw [isEmpty_of r]; exact q⟩
    · subst e'
      obtain ⟨hz, hS, vs, r, m⟩ : kvs.length ≤ sizeLine ∧ (p == sysModules) = false ∧ ∃ vs, KV kvs vs ∧ s.heap.DictOf (mixKind X.prog X.w) p vs := I.hok p _ hx
      have hlen : kvs.length = vs.length := Paired.length r
      exact wpAny_truthy_dict hS m (by omega) ⟨H, I.tok _, by rw [isEmpty_kv r]; exact q⟩
  | _ => exact (show False from e).elim
/-- any expression whose test is its value's truth (a name, a call, a subscript, a field ..: he by fun _ => rfl) -/
theorem pt_truth (ha : PE X a ta) (he : ∀ whole, isTrue a X.env whole = (do let v ← whole; standAt a.pos; holding [v] (truthy v))) :
    PT X a (fun σ H Q => ta σ H fun x H' => ∃ k, TruV X.K x H' k ∧ Q k H') := by
  intro pins s σ H Q I h
  exact isTrue_plain (thn (ha pins s σ H _ I h) fun v s1 ⟨x, H1, I1, r1, q1⟩ => tru_ok pins s1 σ H1 x v Q I1 r1 q1) (he _)

/-! ### strs and bytes -/


/-! ### scalar builtins, by CallR -/
theorem vals1 {x : V} {us : List Value} (r : Vals [x] us) : ∃ u, us = [u] ∧ RelV x u := by
  cases r with
  | cons r1 r2 => cases r2; exact ⟨_, rfl, r1⟩
theorem vals2 {x y : V} {us : List Value} (r : Vals [x, y] us) : ∃ u w', us = [u, w'] ∧ RelV x u ∧ RelV y w' := by
  cases r with
  | cons r1 r2 =>
    cases r2 with
    | cons r3 r4 => cases r4; exact ⟨_, _, rfl, r1, r3⟩
theorem call_min2 (hc : X.calm = true) : CallR X (.builtin "min") (fun xs H Q => ∃ i j, xs = [.int i, .int j] ∧ Q (.int (if j < i then j else i)) H) := by
  intro pins s σ H xs us Q I r h
  obtain ⟨i, j, rfl, q⟩ := h
  obtain ⟨u, w', rfl, ⟨t, rfl⟩, ⟨t', rfl⟩⟩ := vals2 r
  refine min_two_ints (I.ok.hd hc) fun h' tk k => ⟨_, H, I.kept k, ?_, q⟩
  by_cases hj : j < i
  · rw [if_pos hj, if_pos hj]; exact ⟨_, rfl⟩
  · rw [if_neg hj, if_neg hj]; exact ⟨_, rfl⟩
end
end L2

namespace L2
open PySem PySem.Spec PyProof.Rows

/-! ### an instance, its attributes a map -/
structure ObjM (h : Heap) (x dx C : Addr) (mA : Str → Option Value) : Prop where
  obj : h.get? x = some (PySem.W.instObj C dx)
  ns : h.Ns1 dx mA
  ne : dx ≠ x

theorem lookIn_ns {h : Heap} {dx : Addr} {mA : Str → Option Value} (n : h.Ns1 dx mA) : ∃ od, h.get? dx = some od ∧ ∀ name, PySem.W.lookIn name od = some (mA name) := by
  obtain ⟨o, es, ep, ho, hd, hk, _, hm⟩ := n
  refine ⟨o, ho, fun name => ?_⟩
  have e := hm name
  unfold nsFind findBy at e
  rw [← Array.find?_toList] at e
  unfold PySem.W.lookIn
  rw [hd]
  dsimp only
  split
  · rename_i y q
    rw [q] at e
    exact congrArg some e
  · rename_i q
    rw [q] at e
    have a : es.toList.any (·.refKey) = false := by
      rw [List.any_eq_false]
      intro y hy
      obtain ⟨z, t, hkey⟩ := hk y (Array.mem_toList_iff.mp hy)
      simp [DictEntry.refKey, hkey]
    have a' : ¬ es.toList.any (·.refKey) = true := by rw [a]; exact Bool.false_ne_true
    rw [if_neg a']
    exact congrArg some e

theorem ObjM.look {h : Heap} {x dx C : Addr} {mA : Str → Option Value} (I : ObjM h x dx C mA) : ∃ od, PySem.W.InstAt h x (PySem.W.instObj C dx) C (some od) ∧ ∀ name, PySem.W.lookIn name od = some (mA name) :=
  let ⟨od, ho, hl⟩ := lookIn_ns I.ns
  ⟨od, ⟨I.obj, rfl, rfl, ho⟩, hl⟩

section
variable {prog : Program} {w : World} {A : Around} {E : Value → Shared → Prop} {s : Shared} {K : PySem.W.Frag} {x dx C f : Addr} {mA : Str → Option Value} {name : Str} {v : Value}

theorem get_map {expr : Bool} {Q : Value → Shared → Prop} (X : K.In s.heap) (I : ObjM s.heap x dx C mA) (hg : PySem.W.plainGet K C name = true) (hh : PySem.W.hasDictIn K C = true)
    (ha : PySem.W.findIn K (.ref C) name = some none) (hv : mA name = some v) (hv' : PySem.W.handedIn v = true) (h : Q v { s with toks := s.toks + 1 }) :
    wpAny (model prog w) A (getAttr (.ref x) name expr) Q E s := by
  obtain ⟨od, J, hl⟩ := I.look
  exact PySem.W.get_value X J (PySem.W.plainGet_of hg).1 (PySem.W.findObj_own hh ha rfl (by rw [hl, hv])) hv' h


theorem get_meth {pl : Sem Bool} {Q : Value × List Value → Shared → Prop} (X : K.In s.heap) (I : ObjM s.heap x dx C mA) (hg : PySem.W.plainGet K C name = true)
    (hf : PySem.W.findIn K (.ref C) name = some (some (.ref f))) (ht : PySem.W.isFn K (.ref f) = true) (hv : mA name = none) (h : Q (.ref f, [.ref x]) s) :
    wpAny (model prog w) A (getMethod (.ref x) name pl) Q E s := by
  obtain ⟨od, J, hl⟩ := I.look
  exact PySem.W.method_fn X J (PySem.W.plainGet_of hg).1 (PySem.W.plainGet_of hg).2 hf (beq_iff_eq.mp ht) (by show (PySem.W.lookIn name od).map (·.isSome) = some false; rw [hl, hv]; rfl) h

theorem set_map {ns : List Str} {Q : Unit → Shared → Prop} (X : K.In s.heap) (I : ObjM s.heap x dx C mA)
    (hs : PySem.W.findIn K (.ref C) "__setattr__" = some (some (.builtin "object.__setattr__"))) (hp : PySem.W.plainOver K C = true) (ht : PySem.W.takerIn K C name = some none) (hh : PySem.W.hasDictIn K C = true)
    (hw : PySem.Within mA ns) (hsz : ns.length ≤ sizeLine)
    (h : ∀ h', ObjM h' x dx C (fun y => if y = name then some v else mA y) → Heap.SameBut dx s.heap h' → Q () { s with heap := h', toks := s.toks + 2 }) :
    wpAny (model prog w) A (setAttr (.ref x) name v) Q E s := by
  obtain ⟨od, J, hl⟩ := I.look
  refine PySem.W.set_plain X J hs (PySem.W.osa_open (s := { s with toks := s.toks + 1 }) (r := none) X J hp ht fun b => ?_)
  obtain ⟨cd, hc, hd'⟩ := PySem.W.any_some hh
  have hx : s.heap.get? x = some ⟨.ref C, some dx, .plain, #[]⟩ := I.obj
  refine wpAny_bind (wpAny_pure (wpAny_bind (wpAny_bind (wpAny_loadPart hx (wpAny_bind (PySem.W.Looks.here (s := { s with toks := s.toks + 1 }) (PySem.W.looks_clsIn X hc) ?_))))))
  rw [hd']
  refine wpAny_pure (a := some dx) (wpAny_bind (wpAny_pure (wpAny_bind ?_)))
  refine wpAny_nsSet1 (s := { s with toks := s.toks + 1 }) I.ns fun h' hn2 hs2 => ?_
  obtain ⟨oD, esD, epD, hoD, hdD, hcD⟩ := hn2.count (PySem.Within.cons name v hw)
  refine wpAny_bind (wpAny_lookBehind hoD (by rw [hdD]; exact pastItsLine_dict (Nat.le_trans hcD (by rw [List.length_cons]; omega))) ?_)
  exact wpAny_pure (h _ ⟨(hs2.2 _ (Ne.symm I.ne)).trans I.obj, hn2, I.ne⟩ hs2)

/-- C(..): the dict at the heap's end, the instance behind it; then its __init__ -/
theorem make_map {R : Result → Shared → Prop} {vs : List Value} {kw : List (Str × Value)} (X : K.In s.heap) (hm : PySem.W.makesIn K C = true)
    (hi : PySem.W.findIn K (.ref C) "__init__" = some (some (.ref f))) (hf : PySem.W.typeIn K (.ref f) = some (.type "function"))
    (h : codeAny (model prog w) (A.under (.builtin "type.__call__" ⟨.ref C :: vs, kw⟩)) (.call (.ref f) ⟨.ref (s.heap.objs.size + 1) :: vs, kw⟩) (PySem.W.InitBack (s.heap.objs.size + 1) R)
      { s with heap := (s.heap.push PySem.W.emptyDict).push (PySem.W.instObj C s.heap.objs.size) }) :
    codeAny (model prog w) A (.call (.ref C) ⟨vs, kw⟩) R s := by
  obtain ⟨hh, g, d, t, os⟩ := s
  exact PySem.W.make_core (PySem.W.makes_of X hm) (PySem.W.looks_findIn X hi) (fun self => PySem.W.bind_fn X self hf) (.inl rfl) h
end

/-! ### the attributes as a list of pairs -/
def putF (f : Str) (v : V) : List (Str × V) → List (Str × V)
  | [] => [(f, v)]
  | (g, x) :: r => if g = f then (g, v) :: r else (g, x) :: putF f v r
theorem lookup_putF (f g : Str) (v : V) : ∀ fs : List (Str × V), (putF f v fs).lookup g = if g = f then some v else fs.lookup g
  | [] => by
    show List.lookup g [(f, v)] = _
    by_cases h : g = f
    · have hb : (g == f) = true := beq_iff_eq.mpr h
      simp only [List.lookup, hb, if_pos h]
    · have hb : (g == f) = false := beq_eq_false_iff_ne.mpr h
      simp only [List.lookup, hb, if_neg h]
  | (k, x) :: r => by
    have ih := lookup_putF f g v r
    rw [show putF f v ((k, x) :: r) = (if k = f then (k, v) :: r else (k, x) :: putF f v r) from rfl]
    by_cases hk : k = f
    · rw [if_pos hk]
      by_cases h : g = k
      · have hb : (g == k) = true := beq_iff_eq.mpr h
        simp only [List.lookup, hb, if_pos (h.trans hk)]
      · have hb : (g == k) = false := beq_eq_false_iff_ne.mpr h
        simp only [List.lookup, hb, if_neg (fun e : g = f => h (e.trans hk.symm))]
    · rw [if_neg hk]
      by_cases h : g = k
      · have hb : (g == k) = true := beq_iff_eq.mpr h
        simp only [List.lookup, hb, if_neg (fun e : g = f => hk (h.symm.trans e))]
      · have hb : (g == k) = false := beq_eq_false_iff_ne.mpr h
        simp only [List.lookup, hb]
        exact ih
theorem keys_putF (f : Str) (v : V) : ∀ fs : List (Str × V), f ∈ (putF f v fs).map (·.1) ∧ ∀ g, g ∈ fs.map (·.1) → g ∈ (putF f v fs).map (·.1)
  | [] => ⟨by simp [putF], fun g h => by simp at h⟩
  | (k, x) :: r => by
    obtain ⟨i1, i2⟩ := keys_putF f v r
    rw [show putF f v ((k, x) :: r) = (if k = f then (k, v) :: r else (k, x) :: putF f v r) from rfl]
    by_cases hk : k = f
    · rw [if_pos hk]
      subst hk
      exact ⟨by simp, fun g h => by simpa using h⟩
    · rw [if_neg hk]
      refine ⟨?_, fun g h => ?_⟩
      · rw [List.map_cons]
        exact List.mem_cons_of_mem _ i1
      · rw [List.map_cons] at h ⊢
        rcases List.mem_cons.mp h with e | e
        · exact List.mem_cons.mpr (.inl e)
        · exact List.mem_cons_of_mem _ (i2 g e)
theorem length_putF (f : Str) (v : V) : ∀ fs : List (Str × V), (putF f v fs).length ≤ fs.length + 1
  | [] => by simp [putF]
  | (k, x) :: r => by
    have ih := length_putF f v r
    rw [show putF f v ((k, x) :: r) = (if k = f then (k, v) :: r else (k, x) :: putF f v r) from rfl]
    by_cases hk : k = f
    · rw [if_pos hk, List.length_cons, List.length_cons]; omega
    · rw [if_neg hk, List.length_cons, List.length_cons]; omega

theorem RelO.some_of {v : V} {o : Option Value} (r : RelO (some v) o) : ∃ u, o = some u ∧ RelV v u := by
  cases o with
  | none => exact (show False from r).elim
  | some u => exact ⟨u, rfl, r⟩
theorem RelO.none_of {o : Option Value} (r : RelO none o) : o = none := by
  cases o with
  | none => rfl
  | some u => exact (show False from r).elim
theorem handed_of {v : V} {u : Value} (r : RelV v u) : PySem.W.handedIn u = true := by
  cases v with
  | non => cases (show u = Value.none from r); rfl
  | bl b => cases (show u = Value.bool b from r); rfl
  | int i => obtain ⟨t, e⟩ := (show ∃ t, u = Value.int i t from r); cases e; rfl
  | str x => obtain ⟨t, e⟩ := (show ∃ t, u = Value.str x t from r); cases e; rfl
  | byt b => obtain ⟨t, e⟩ := (show ∃ t, u = Value.bytes b t from r); cases e; rfl
  | flt b => obtain ⟨t, e⟩ := (show ∃ t, u = Value.float b t from r); cases e; rfl
  | ref a => cases (show u = Value.ref a from r); rfl
  | ty n => cases (show u = Value.type n from r); rfl

section
variable {P : Program} {w : World} {H H' : Hp} {h h' : Heap} {a C dx : Addr} {fs fs' : List (Str × V)}
theorem ins_get (hok : HOk P w H h) (e : H a = some (.ins C dx fs)) : ∃ mA, ObjM h a dx C mA ∧ (∀ f, RelO (fs.lookup f) (mA f)) ∧ PySem.Within mA (fs.map (·.1)) ∧ fs.length ≤ 1000 ∧ H dx = some (.own a) := by
  obtain ⟨d, z, ne, ob, mA, n, r, q⟩ := (show ObjOk P w H h a (.ins C dx fs) from hok a _ e)
  exact ⟨mA, ⟨ob, n, ne⟩, r, q, z, d⟩
end

/-! ### what of the text a class must have -/
structure Cls (K : PySem.W.Frag) (C : Addr) : Prop where
  pg : PySem.W.plainGet K C Str.empty = true
  hd : PySem.W.hasDictIn K C = true
  po : PySem.W.plainOver K C = true
  sa : PySem.W.findIn K (.ref C) "__setattr__" = some (some (.builtin "object.__setattr__"))
theorem Cls.get {K : PySem.W.Frag} {C : Addr} (c : Cls K C) (f : Str) : PySem.W.plainGet K C f = true := c.pg
/-- no class of it has the name -/
def NoAttr (K : PySem.W.Frag) (C : Addr) (f : Str) : Prop := PySem.W.findIn K (.ref C) f = some none
theorem NoAttr.taker {K : PySem.W.Frag} {C : Addr} {f : Str} (n : NoAttr K C f) : PySem.W.takerIn K C f = some none := by
  unfold PySem.W.takerIn
  rw [show PySem.W.findIn K (.ref C) f = some none from n]
  rfl
/-- a method: a plain def of the class or of one above it -/
structure Meth (K : PySem.W.Frag) (C : Addr) (m : Str) (f : Addr) : Prop where
  at_ : PySem.W.findIn K (.ref C) m = some (some (.ref f))
  fn : PySem.W.isFn K (.ref f) = true
  kp : PySem.W.keepIn K (.ref f) = true

section
variable {X : Cx} {pins : List (Addr × Obj)} {σ : St} {H : Hp} {s : Shared} {a C dx : Addr} {fs : List (Str × V)} {f : Str} {v : V} {A : Around} {E : Value → Shared → Prop}

theorem getattr_ok {b : Bool} {Q : Value → Shared → Prop} (I : Inv X pins σ H s) (e : H a = some (.ins C dx fs)) (c : Cls X.K C) (n : NoAttr X.K C f) (l : fs.lookup f = some v)
    (h : ∀ u s', Inv X pins σ H s' → RelV v u → Q u s') : wpAny (model X.prog X.w) A (getAttr (.ref a) f b) Q E s := by
  obtain ⟨mA, O, r, _, _, _⟩ := ins_get I.hok e
  obtain ⟨u, hu, ru⟩ := RelO.some_of (v := v) (o := mA f) (by rw [← l]; exact r f)
  exact get_map I.kIn O (c.get f) c.hd n hu (handed_of ru) (h u _ (I.tok _) ru)


theorem getmeth_ok {m : Str} {g : Addr} {pl : Sem Bool} {Q : Value × List Value → Shared → Prop} (I : Inv X pins σ H s) (e : H a = some (.ins C dx fs)) (c : Cls X.K C) (k : Meth X.K C m g) (l : fs.lookup m = none)
    (h : Q (.ref g, [.ref a]) s) : wpAny (model X.prog X.w) A (getMethod (.ref a) m pl) Q E s := by
  obtain ⟨mA, O, r, _, _, _⟩ := ins_get I.hok e
  have hn : mA m = none := RelO.none_of (by rw [← l]; exact r m)
  exact get_meth I.kIn O (c.get m) k.at_ k.fn hn h

theorem setattr_ok {y : V} {u : Value} {Q : Unit → Shared → Prop} (I : Inv X pins σ H s) (e : H a = some (.ins C dx fs)) (c : Cls X.K C) (n : NoAttr X.K C f) (hl : fs.length < 1000) (ry : RelV y u)
    (h : ∀ s', Inv X pins σ (upd H a (.ins C dx (putF f y fs))) s' → Q () s') : wpAny (model X.prog X.w) A (setAttr (.ref a) f u) Q E s := by
  obtain ⟨mA, O, r, wi, _, ho⟩ := ins_get I.hok e
  have hz : (fs.map (·.1)).length ≤ sizeLine := by rw [List.length_map, sizeLine_eq]; omega
  refine set_map I.kIn O c.sa c.po n.taker c.hd wi hz fun h' O' sb => h _ ?_
  have hd : ∃ o, h'.get? dx = some o := let ⟨o, _, _, e', _⟩ := O'.ns; ⟨o, e'⟩
  refine I.write (x := a) (e := dx) (by rw [e]; exact True.intro) (.inr ho) (fun b q hb z => (sb.2 b hb).trans z) hd ?_
  refine ⟨by rw [upd_ne O.ne]; exact ho, ?_, O.ne, O'.obj, _, O'.ns, fun g => ?_, fun g hg => ?_⟩
  · have := length_putF f y fs; omega
  · show RelO ((putF f y fs).lookup g) (if g = f then some u else mA g)
    rw [lookup_putF]
    by_cases q : g = f
    · rw [if_pos q, if_pos q]; exact ry
    · rw [if_neg q, if_neg q]; exact r g
  · by_cases q : g = f
    · rw [q]; exact (keys_putF f y fs).1
    · refine (keys_putF f y fs).2 g (wi g fun z => hg ?_)
      show (if g = f then some u else mA g) = none
      rw [if_neg q]; exact z

/-- a new instance, tracked, without attributes -/
theorem Inv.made (I : Inv X pins σ H s) : Inv X pins σ (upd (upd H s.heap.objs.size (.own (s.heap.objs.size + 1))) (s.heap.objs.size + 1) (.ins C s.heap.objs.size []))
    { s with heap := (s.heap.push PySem.W.emptyDict).push (PySem.W.instObj C s.heap.objs.size) } := by
  have e1 : (s.heap.push PySem.W.emptyDict).get? s.heap.objs.size = some PySem.W.emptyDict := Heap.get?_push_size s.heap rfl
  have e2 : ((s.heap.push PySem.W.emptyDict).push (PySem.W.instObj C s.heap.objs.size)).get? (s.heap.objs.size + 1) = some (PySem.W.instObj C s.heap.objs.size) := by
    have := Heap.get?_push_size (s.heap.push PySem.W.emptyDict) (o := PySem.W.instObj C s.heap.objs.size) rfl
    rwa [Heap.size_push] at this
  have e3 : (s.heap.push PySem.W.emptyDict).Ns s.heap.objs.size (fun _ => none) := ⟨PySem.W.emptyDict, #[], _, e1, rfl, (fun e he => absurd he (by simp)), fun _ => rfl⟩
  have I1 := I.laid (a := s.heap.objs.size) (o := .own (s.heap.objs.size + 1)) (h' := s.heap.push PySem.W.emptyDict) (t' := s.toks) (fun b u q => Heap.get?_push_of_some _ q) (Nat.le_refl _) ⟨_, e1⟩
  refine I1.laid (a := s.heap.objs.size + 1) (o := .ins C s.heap.objs.size []) (t' := s.toks) (fun b u q => Heap.get?_push_of_some _ q) (Nat.le_of_eq (Heap.size_push _ _)) ?_
  have ne : s.heap.objs.size ≠ s.heap.objs.size + 1 := Nat.ne_of_lt (Nat.lt_succ_self _)
  refine ⟨by rw [upd_ne ne, upd_same], Nat.zero_le _, ne, e2, fun _ => none, (Heap.Ns1.of_empty e3).at fun o q => Heap.get?_push_of_some _ q, fun _ => True.intro, fun y hy => absurd rfl hy⟩

/-- e.f where nothing but the object is asked: through attributeBase (super) and the last hold -/
theorem attr_of {prog : Program} {w : World} {env : Env} {e : Expr} {f : Str} {pos : Pos} {s : Shared} {Q : Value → Shared → Prop} (hb : attributeBase e f env (eval e env) = eval e env)
    (h : wpAny (model prog w) A (eval e env) (fun o s₁ => wpAny (model prog w) A (getAttr o f true) Q E s₁) E s) : wpAny (model prog w) A (eval (.Attribute e f pos) env) Q E s :=
  Attribute_any_ h (by rw [arm_eval_Attribute, hb])
end

/-! ### readings and rules -/
/-- e.f, an attribute of the instance -/
def tFld (K : PySem.W.Frag) (ta : TE) (f : Str) : TE := fun σ H Q => ta σ H fun x H1 => ∃ a C dx fs v, x = .ref a ∧ H1 a = some (.ins C dx fs) ∧ Cls K C ∧ NoAttr K C f ∧ fs.lookup f = some v ∧ Q v H1
/-- e.f = value -/
def sFld (K : PySem.W.Frag) (ta tv : TE) (f : Str) : TS := fun D σ H => tv σ H fun y H1 => ta σ H1 fun x H2 => ∃ a C dx fs, x = .ref a ∧ H2 a = some (.ins C dx fs) ∧ Cls K C ∧ NoAttr K C f ∧ fs.length < 1000 ∧
  D.nx σ (upd H2 a (.ins C dx (putF f y fs)))

section
variable {X : Cx} {o e value : Expr} {f : Str} {pos pos' tpos : Pos} {ta tv : TE}
theorem pe_fld (he : PE X e ta) (hb : attributeBase e f X.env (eval e X.env) = eval e X.env) : PE X (.Attribute e f pos) (tFld X.K ta f) := by
  intro pins s σ H Q I h
  refine attr_of hb (thn (he pins s σ H _ I h) fun u s1 ⟨x, H1, I1, rx, a, C, dx, fs, v, ex, ea, c, n, l, q⟩ => ?_)
  subst ex
  obtain rfl : u = Value.ref a := rx
  exact getattr_ok I1 ea c n l fun u' s2 I2 ru => ⟨v, H1, I2, ru, q⟩
theorem ps_fld (ha : PE X o ta) (hv : PE X value tv) (hs : swapsWith value (some (.Attribute o f pos')) pos.line X.env = pure false) : PS X (.Assign [.Attribute o f pos'] value pos) (sFld X.K ta tv f) := by
  intro pins s σ H D I h
  refine plainObj_wpAny_Assign_Attribute (thn (hv pins s σ H _ I h) fun u s1 ⟨y, H1, I1, ry, q⟩ => thn (ha pins s1 σ H1 _ I1 q) fun ov s2 ⟨x, H2, I2, rx, a, C, dx, fs, ex, ea, c, n, l, q2⟩ => ?_) hs
  subst ex
  obtain rfl : ov = Value.ref a := rx
  exact setattr_ok I2 ea c n l ry fun s3 I3 => ⟨σ, _, I3, q2⟩

end

/-! ### isinstance -/
section
variable {X : Cx} {pins : List (Addr × Obj)} {σ : St} {H : Hp} {s : Shared} {A : Around} {E : Value → Shared → Prop} {Q : Value → Shared → Prop} {c : Value} {b : Bool}
/-- the type of a value, as the fragment's deciders take it; for an instance its class -/
inductive TyOf (K : PySem.W.Frag) (H : Hp) : V → Value → Prop where
  | non : TyOf K H .non (.type "NoneType")
  | bl (x : Bool) : TyOf K H (.bl x) (.type "bool")
  | int (i : Int) : TyOf K H (.int i) (.type "int")
  | str (x : Str) : TyOf K H (.str x) (.type "str")
  | flt (x : UInt64) : TyOf K H (.flt x) (.type "float")
  | lst {a : Addr} {xs : List V} (e : H a = some (.lst xs)) : TyOf K H (.ref a) (.type "list")
  | frz {a : Addr} {o : Obj} {xs : List V} (e : H a = some (.frz o (.lst xs))) : TyOf K H (.ref a) (.type "list")
  | tup {a : Addr} {xs : List V} (e : H a = some (.tup xs)) : TyOf K H (.ref a) (.type "tuple")
  | dK {a : Addr} {kvs : List (Key × V)} (e : H a = some (.dK kvs)) : TyOf K H (.ref a) (.type "dict")
  | dT {a : Addr} {kvs : List (List Key × V)} (e : H a = some (.dT kvs)) : TyOf K H (.ref a) (.type "dict")
  | ins {a C dx : Addr} {fs : List (Str × V)} (e : H a = some (.ins C dx fs)) (cl : Cls K C) (ha : PySem.W.findIn K (.ref C) "__class__" = some (some (.builtin "object.__class__")))
      (hn : PySem.W.specialIn K (.builtin "object.__class__") "__get__" = some (some (.builtin "getset_descriptor.__get__"))) (htk : PySem.W.takesIn K (.builtin "object.__class__") = some true)
      (hm : PySem.W.mroIn K C (.type "object") = some true) : TyOf K H (.ref a) (.ref C)
/-- isinstance(x, c) for one class c, a built-in or an own one: kitOne's answer -/
theorem isinst_ok {x : V} {u t : Value} (I : Inv X pins σ H s) (rx : RelV x u) (ty : TyOf X.K H x t) (e : PySem.W.kitOne X.K t c = some b) (h : ∀ tk, Q (.bool b) { s with toks := tk }) :
    wpAny (model X.prog X.w) A (call (.builtin "isinstance") [u, c]) Q E s := by
  cases ty with
  | non => cases (show u = Value.none from rx); exact PySem.W.kia_one PySem.W.kitx_none I.kIn True.intro e (fun z => nomatch z) h
  | bl y => cases (show u = Value.bool y from rx); exact PySem.W.kia_one PySem.W.kitx_bool I.kIn True.intro e (fun z => nomatch z) h
  | int i => obtain ⟨t, q⟩ := (show ∃ t, u = Value.int i t from rx); cases q; exact PySem.W.kia_one PySem.W.kitx_int I.kIn True.intro e (fun z => nomatch z) h
  | str y => obtain ⟨t, q⟩ := (show ∃ t, u = Value.str y t from rx); cases q; exact PySem.W.kia_one PySem.W.kitx_str I.kIn True.intro e (fun z => nomatch z) h
  | flt y => obtain ⟨t, q⟩ := (show ∃ t, u = Value.float y t from rx); cases q; exact PySem.W.kia_one PySem.W.kitx_float I.kIn True.intro e (fun z => nomatch z) h
  | @lst a xs ea =>
    cases (show u = Value.ref a from rx)
    obtain ⟨_, _, n, _, h1⟩ := (show ObjOk X.prog X.w H s.heap a (.lst xs) from I.hok a _ ea)
    exact PySem.W.kia_one PySem.W.kitx_list I.kIn ⟨_, h1, rfl⟩ e (fun z => nomatch z) h
  | @frz a ob xs ea =>
    cases (show u = Value.ref a from rx)
    obtain ⟨_, _, _, n, _, h1⟩ := (show ObjOk X.prog X.w H s.heap a (.frz ob (.lst xs)) from I.hok a _ ea)
    exact PySem.W.kia_one PySem.W.kitx_list I.kIn ⟨_, h1, rfl⟩ e (fun z => nomatch z) h
  | @tup a xs ea =>
    cases (show u = Value.ref a from rx)
    obtain ⟨_, _, _, p⟩ := (show ObjOk X.prog X.w H s.heap a (.tup xs) from I.hok a _ ea)
    obtain ⟨o, h1, h2, _⟩ := p
    exact PySem.W.kia_one PySem.W.kitx_tuple I.kIn ⟨o, h1, h2⟩ e (fun z => nomatch z) h
  | @dK a kvs ea =>
    cases (show u = Value.ref a from rx)
    obtain ⟨_, _, vs, _, p⟩ := (show ObjOk X.prog X.w H s.heap a (.dK kvs) from I.hok a _ ea)
    obtain ⟨o, es, ep, h1, h2, _⟩ := p
    exact PySem.W.kia_one PySem.W.kitx_dict I.kIn ⟨o, h1, h2.1⟩ e (fun z => nomatch z) h
  | @dT a kvs ea =>
    cases (show u = Value.ref a from rx)
    obtain ⟨_, _, xs, _, o, es, ep, h1, h2, _⟩ := (show ObjOk X.prog X.w H s.heap a (.dT kvs) from I.hok a _ ea)
    exact PySem.W.kia_one PySem.W.kitx_dict I.kIn ⟨o, h1, h2.1⟩ e (fun z => nomatch z) h
  | @ins a C dx fs ea cl ha hn htk hm =>
    cases (show u = Value.ref a from rx)
    obtain ⟨mA, O, _⟩ := ins_get I.hok ea
    obtain ⟨od, J, _⟩ := O.look
    exact PySem.W.kia_one (PySem.W.kitx_own (cl.get _) cl.hd ha hn htk hm) I.kIn J e (fun z => nomatch z) h
end
end L2

namespace L2
open PySem PySem.Spec PyProof.Rows

/-! ### room -/
structure Room (k : Nat) (A : Around) : Prop where
  hd : A.handled = none
  dp : A.depth + 3 * k + 5 < recursionLimit
  un : A.units + 16 * k + 200 < cLine
theorem Room.mono {j k : Nat} {A : Around} (r : Room k A) (h : j ≤ k) : Room j A := ⟨r.hd, by have := r.dp; omega, by have := r.un; omega⟩
theorem Room.deeper {k : Nat} {A : Around} (r : Room (k + 1) A) (env : Env) : Room k (A.deeper env) :=
  ⟨r.hd, by have := r.dp; show A.depth + 1 + 3 * k + 5 < _; omega, by have := r.un; show A.units + 3 + 16 * k + 200 < _; omega⟩
theorem make_depth {A : Around} {C : Addr} {us : List Value} {kw : List (Str × Value)} : (A.under (.builtin "type.__call__" ⟨.ref C :: us, kw⟩)).depth = A.depth + 1 := by
  first | rfl | simp [Around.under, Code.weight, Code.isCreation, Code.isGuard, Code.isCaller, Code.frames, Code.isFrame, guardIds]
theorem make_units {A : Around} {C : Addr} {us : List Value} {kw : List (Str × Value)} : (A.under (.builtin "type.__call__" ⟨.ref C :: us, kw⟩)).units = A.units + 1 := by
  first | rfl | simp [Around.under, Code.cUnits, Code.frames, Code.isFrame]
theorem Room.make {k : Nat} {A : Around} (r : Room (k + 1) A) (C : Addr) (us : List Value) (kw : List (Str × Value)) : Room k (A.under (.builtin "type.__call__" ⟨.ref C :: us, kw⟩)) :=
  ⟨r.hd, by have := r.dp; rw [make_depth]; omega, by have := r.un; rw [make_units]; omega⟩
theorem Room.depth {k : Nat} {A : Around} (r : Room k A) : A.depth < recursionLimit := by have := r.dp; omega
theorem Room.units0 {k : Nat} {A : Around} (r : Room k A) : A.units < cLine := by have := r.un; omega

/-! ### argument lists and displays -/
def tNil : TA := fun _ H Q => Q [] H
def tCons (ta : TE) (tr : TA) : TA := fun σ H Q => ta σ H fun x H1 => tr σ H1 fun xs H2 => Q (x :: xs) H2
section
variable {X : Cx} {e : Expr} {es : List Expr} {te : TE} {t : TA} {pos : Pos}
theorem pa_nil : PA X [] tNil := fun _ _ _ _ H Q I h => Calls.spliced_nil ⟨[], H, I, .nil, h⟩
theorem pa_cons (ha : PE X e te) (hr : PA X es t) (hs : starEach (e :: es) X.env = (false, eval e X.env) :: starEach es X.env := by rfl) : PA X (e :: es) (tCons te t) := by
  intro pos pins s σ H Q I h
  rw [hs]
  show wpAny _ _ (spliced ((false, eval e X.env) :: backTo pos (starEach es X.env))) _ _ s
  refine Calls.spliced_cons (thn (ha pins s σ H _ I h) fun u s1 ⟨x, H1, I1, r1, q1⟩ => ?_)
  exact thn (hr pos pins s1 σ H1 _ I1 q1) fun us s2 ⟨xs, H2, I2, r2, q2⟩ => ⟨x :: xs, H2, I2, .cons r1 r2, q2⟩

/-- a tuple, a list of written items -/
def tTup (t : TA) : TE := fun σ H Q => t σ H fun xs H1 => xs.length ≤ sizeLine ∧ ∀ p, H1 p = none → Q (.ref p) (upd H1 p (.tup xs))
def tLst (t : TA) : TE := fun σ H Q => t σ H fun xs H1 => xs.length ≤ sizeLine ∧ ∀ p, H1 p = none → Q (.ref p) (upd H1 p (.lst xs))
theorem pe_tup {x1} (h : PA X es t) : PE X (.Tuple es x1 pos) (tTup t) := by
  intro pins s σ H Q I hq
  refine wpAny_Tuple_spliced (thn (h pos pins s σ H _ I hq) fun us s1 ⟨xs, H1, I1, r, z, q⟩ => ⟨by rw [← r.length]; exact z, ?_⟩)
  have hf : H1 s1.heap.objs.size = none := I1.hok.fresh (Nat.le_refl _)
  refine ⟨.ref s1.heap.objs.size, upd H1 s1.heap.objs.size (.tup xs), I1.laid (t' := s1.toks) (fun b u e => Heap.get?_push_of_some _ e) (Nat.le_refl _) ?_, rfl, q _ hf⟩
  exact ⟨z, us, r, ⟨_, Heap.get?_push_size _ rfl, rfl, _, rfl⟩⟩
theorem pe_lst (h : PA X es t) : PE X (.List es pos) (tLst t) := by
  intro pins s σ H Q I hq
  refine wpAny_List_spliced (thn (h pos pins s σ H _ I hq) fun us s1 ⟨xs, H1, I1, r, z, q⟩ => ⟨by rw [← r.length]; exact z, ?_⟩)
  have hf : H1 s1.heap.objs.size = none := I1.hok.fresh (Nat.le_refl _)
  refine ⟨.ref s1.heap.objs.size, upd H1 s1.heap.objs.size (.lst xs), I1.laid (t' := s1.toks) (fun b u e => Heap.get?_push_of_some _ e) (Nat.le_refl _) ?_, rfl, q _ hf⟩
  exact ⟨z, us, 0, r, Heap.get?_push_size _ rfl⟩
end

/-! ### what a def promises -/
/-- a def's promise: the bound arguments in the parameters' order, the heap, the wanted end, the wanted exception -/
abbrev Sp := List V → Hp → VK → XK → Prop
/-- how an exception lies behind a call (file 08 gives it): the callers' frames, abstract heap and state ahead of the call, the wish, the exception, the state -/
abbrev CXT := List Env → Hp → Shared → XK → Value → Shared → Prop

/-- the state at a call -/
structure Env0 (P : Program) (w : World) (K : PySem.W.Frag) (mg : Str → Option Value) (base : Heap) (A : Around) (outer : List Env) (s : Shared) (H : Hp) : Prop where
  frames : A.frames = some outer
  mod : Mod K mg base
  bs : ∀ b o, base.get? b = some o → s.heap.get? b = some o ∧ H b = none
  bsz : base.objs.size ≤ s.heap.objs.size
  funs : s.heap.FunFrames base outer
  frf : ∀ b ∈ frs outer, H b = none
  hok : HOk P w H s.heap
  bare : AllBare s.gens
/-- a call's end -/
def CE (outer : List Env) (P : Program) (w : World) (H : Hp) (s : Shared) (Q : VK) (u : Value) (s' : Shared) : Prop :=
  ∃ v H', s'.os = s.os ∧ AllBare s'.gens ∧ Un (frs outer) [] H H' s.heap s'.heap ∧ HOk P w H' s'.heap ∧ RelV v u ∧ Q v H'
def CR (CX : CXT) (outer : List Env) (P : Program) (w : World) (H : Hp) (s : Shared) (Q : VK) (E : XK) (r : Result) (s' : Shared) : Prop :=
  match r with
  | .ok (.ret u) => CE outer P w H s Q u s'
  | .ok _ => False
  | .error e => CX outer H s E e s'
structure FnOk (P : Program) (w : World) (K : PySem.W.Frag) (mg : Str → Option Value) (base : Heap) (CX : CXT) (k : Nat) (f : Addr) (fd : FuncData) (ps : List Str) (sp : Sp) : Prop where
  len : ∀ vs H Q E, sp vs H Q E → vs.length = ps.length
  run : ∀ (A : Around) (outer : List Env) (s : Shared) (H : Hp) (args : Args) (us : List Value) (vs : List V) (Q : VK) (E : XK), Room k A → Env0 P w K mg base A outer s H → BindsTo s fd args (ps.zip us) → Vals vs us → sp vs H Q E →
    codeAny (model P w) A (.call (.ref f) args) (CR CX outer P w H s Q E) s

theorem Env0.make {P : Program} {w : World} {K : PySem.W.Frag} {mg : Str → Option Value} {base : Heap} {A : Around} {outer : List Env} {s : Shared} {H : Hp} (e : Env0 P w K mg base A outer s H) (C : Addr) (us : List Value) (kw : List (Str × Value)) :
    Env0 P w K mg base (A.under (.builtin "type.__call__" ⟨.ref C :: us, kw⟩)) outer s H := ⟨by first | exact e.frames | (simpa [Around.under, Code.envs, Code.isFrame, pushEnvs] using e.frames), e.mod, e.bs, e.bsz, e.funs, e.frf, e.hok, e.bare⟩

section
variable {X : Cx} {pins : List (Addr × Obj)} {σ : St} {H : Hp} {s s' : Shared}
/-- from a body: what a callee wants -/
theorem Inv.env0 (I : Inv X pins σ H s) : Env0 X.prog X.w X.K X.mg X.base X.A X.stack s H :=
  ⟨I.ok.frames, I.ok.mod, I.bs, Nat.le_trans I.ok.bsz I.sz, I.stack, I.stkFree, I.hok, I.bare⟩
/-- behind a call -/
theorem Inv.after {Q : VK} {u : Value} (I : Inv X pins σ H s) (h : CE X.stack X.prog X.w H s Q u s') : EP X pins σ Q u s' := by
  obtain ⟨v, H', os, bare, un, hok, r, q⟩ := h
  obtain ⟨hh, g, d, t, os'⟩ := s'
  obtain rfl : os' = s.os := os
  exact ⟨v, H', I.call (h' := hh) (g' := g) (d' := d) (t' := t) (ch := []) un hok bare (fun b z => absurd z (by simp)), r, q⟩
end

/-! ### calls -/
/-- f(..): the written arguments, then the defaults dvs; E: what is wanted of an exception -/
def tCall (sp : Sp) (dvs : List V) (E : XK) (t : TA) : TE := fun σ H Q => t σ H fun vs H1 => sp (vs ++ dvs) H1 Q E
/-- o.m(..) of an instance of the class at C -/
def tMeth (C : Addr) (m : Str) (sp : Sp) (dvs : List V) (E : XK) (ta : TE) (t : TA) : TE := fun σ H Q => ta σ H fun x H1 => ∃ a dx fs, x = .ref a ∧ H1 a = some (.ins C dx fs) ∧ fs.lookup m = none ∧
  t σ H1 fun vs H2 => sp (x :: (vs ++ dvs)) H2 Q E
/-- C(..): a new instance and its dict, then __init__ -/
def tMake (C : Addr) (sp : Sp) (dvs : List V) (E : XK) (t : TA) : TE := fun σ H Q => t σ H fun vs H1 => ∀ x dx, H1 x = none → H1 dx = none → dx ≠ x →
  sp (.ref x :: (vs ++ dvs)) (upd (upd H1 dx (.own x)) x (.ins C dx [])) (fun v H2 => v = .non ∧ Q (.ref x) H2) E

/-- how the parameters are bound: us the positional arguments, kw the keywords' values by name, ds the defaults that fill up -/
def Binds (K : PySem.W.Frag) (fd : FuncData) (ps : List Str) (ds : List Value) : Prop :=
  ∀ (s : Shared) (us : List Value), K.In s.heap → (us ++ ds).length = ps.length → BindsTo s fd ⟨us, []⟩ (ps.zip (us ++ ds))
/-- every parameter is given -/
theorem Binds.all {K : PySem.W.Frag} {fd : FuncData} {ps : List Str} (h : ∀ us : List Value, us.length = ps.length → bindArgs fd ⟨us, []⟩ = pure (ps.zip us)) : Binds K fd ps [] := fun s us _ hl => by
  rw [List.append_nil] at hl ⊢
  exact .of_eq (h us hl)

/-- an exception of a callee reaches what this body wants of exceptions -/
def Passes (CX : CXT) (X : Cx) (E : XK) : Prop := ∀ (pins : List (Addr × Obj)) (σ : St) (H : Hp) (s : Shared) (e : Value) (s' : Shared), Inv X pins σ H s → CX X.stack H s E e s' → X.xe e s'

section
variable {X : Cx} {CX : CXT} {k : Nat} {f C : Addr} {fd : FuncData} {ps : List Str} {sp : Sp} {dvs : List V} {ds : List Value} {E : XK} {x m : Str} {p pos apos : Pos} {e o : Expr} {es : List Expr} {ta : TE} {t : TA}

/-- the callee runs -/
theorem run_fn {pins : List (Addr × Obj)} {σ : St} {H : Hp} {s : Shared} {Q : VK} {us : List Value} {vs : List V} (F : FnOk X.prog X.w X.K X.mg X.base CX k f fd ps sp) (hr : Room k X.A) (hb : Binds X.K fd ps ds) (hd : Vals dvs ds) (hx : Passes CX X E)
    (I : Inv X pins σ H s) (r : Vals vs us) (h : sp (vs ++ dvs) H Q E) : wpAny (model X.prog X.w) X.A (call (.ref f) us) (EP X pins σ Q) X.xe s := by
  have r2 : Vals (vs ++ dvs) (us ++ ds) := r.append hd
  have hl : (us ++ ds).length = ps.length := by rw [← r2.length]; exact F.len _ _ _ _ h
  refine wpAny_call (codeAny_mono (F.run X.A X.stack s H ⟨us, []⟩ (us ++ ds) (vs ++ dvs) Q E hr I.env0 (hb s us I.kIn hl) r2 h) fun r s' hq => ?_)
  cases r with
  | error e => exact hx pins σ H s e s' I hq
  | ok fl =>
    cases fl with
    | ret u => exact I.after hq
    | next => exact False.elim hq
    | brk => exact False.elim hq
    | cont => exact False.elim hq

theorem pe_call (F : FnOk X.prog X.w X.K X.mg X.base CX k f fd ps sp) (hr : Room k X.A) (hg : Gl X x) (hm : X.mg x = some (.ref f)) (hk : PySem.W.keepIn X.K (.ref f) = true) (hb : Binds X.K fd ps ds) (hd : Vals dvs ds) (hx : Passes CX X E)
    (ha : PA X (e :: es) t) (hdb : (x == ("__debug__" : Str)) = false := by decide) (he : starEach (e :: es) X.env = (false, eval e X.env) :: starEach es X.env := by rfl) (hpl : (backTo pos (starEach es X.env)).any (·.1) = false := by rfl) :
    PE X (.Call (.Name x p) (e :: es) [] pos) (tCall sp dvs E t) := by
  intro pins s σ H Q I h
  refine wpAny_Call_Name_kw (ld_glob I hg hm ?_ hdb)
  refine PySem.W.callWith_K (h₀ := X.base) I.ok.mod.kin hk (thn (ha pos pins s σ H _ I h) fun us s1 ⟨vs, H1, I1, r, q⟩ => ⟨I1.kIn, ?_⟩) he hpl
  exact run_fn F hr hb hd hx I1 r q

/-- o.m(e, ..) -/
theorem pe_meth {pl : Sem Bool} (he : PE X o ta) (c : Cls X.K C) (hm : Meth X.K C m f) (F : FnOk X.prog X.w X.K X.mg X.base CX k f fd ps sp) (hr : Room k X.A) (hb : Binds X.K fd ps ds) (hd : Vals dvs ds) (hx : Passes CX X E) (ha : PA X (e :: es) t)
    (hst : starEach (e :: es) X.env = (false, eval e X.env) :: starEach es X.env := by rfl) (hpl : (backTo pos (starEach es X.env)).any (·.1) = false := by rfl)
    (ht : eval (.Call (.Attribute o m apos) (e :: es) [] pos) X.env = (do
      let ov ← eval o X.env
      standAt apos.atName
      let (f, first) ← holding [ov] (getMethod ov m pl)
      callWith pos f first (backTo pos (starEach (e :: es) X.env)) (backToKw pos (keywordEach [] X.env))) := by rfl) :
    PE X (.Call (.Attribute o m apos) (e :: es) [] pos) (tMeth C m sp dvs E ta t) := by
  intro pins s σ H Q I h
  refine PySem.W.methodCall_KW (pl := pl) (thn (he pins s σ H _ I h) fun u s1 ⟨x, H1, I1, rx, a, dx, fs, ex, ea, l, q⟩ => ?_) ht
  subst ex
  obtain rfl : u = Value.ref a := rx
  refine getmeth_ok I1 ea c hm l ?_
  refine PySem.W.callWith_K (first := [.ref a]) (h₀ := X.base) I.ok.mod.kin hm.kp (thn (ha pos pins s1 σ H1 _ I1 q) fun us s2 ⟨vs, H2, I2, r, q2⟩ => ⟨I2.kIn, ?_⟩) hst hpl
  exact run_fn (us := .ref a :: us) (vs := .ref a :: vs) F hr hb hd hx I2 (.cons rfl r) q2

/-- what a class must have to be made -/
structure Mk (K : PySem.W.Frag) (C f : Addr) : Prop where
  makes : PySem.W.makesIn K C = true
  init : PySem.W.findIn K (.ref C) "__init__" = some (some (.ref f))
  fn : PySem.W.isFn K (.ref f) = true
  kp : PySem.W.keepIn K (.ref C) = true

theorem run_make {pins : List (Addr × Obj)} {σ : St} {H : Hp} {s : Shared} {Q : VK} {us : List Value} {vs : List V} (M : Mk X.K C f) (F : FnOk X.prog X.w X.K X.mg X.base CX k f fd ps sp) (hr : Room (k + 1) X.A) (hb : Binds X.K fd ps ds) (hd : Vals dvs ds)
    (hx : Passes CX X E) (I : Inv X pins σ H s) (r : Vals vs us)
    (h : ∀ x dx, H x = none → H dx = none → dx ≠ x → sp (.ref x :: (vs ++ dvs)) (upd (upd H dx (.own x)) x (.ins C dx [])) (fun v H2 => v = .non ∧ Q (.ref x) H2) E) :
    wpAny (model X.prog X.w) X.A (call (.ref C) us) (EP X pins σ Q) X.xe s := by
  have hq := h (s.heap.objs.size + 1) s.heap.objs.size (I.hok.fresh (Nat.le_succ _)) (I.hok.fresh (Nat.le_refl _)) (Nat.ne_of_lt (Nat.lt_succ_self _))
  have I2 := Inv.made (C := C) I
  have r2 : Vals (V.ref (s.heap.objs.size + 1) :: (vs ++ dvs)) (Value.ref (s.heap.objs.size + 1) :: (us ++ ds)) := .cons rfl (r.append hd)
  have hl : (Value.ref (s.heap.objs.size + 1) :: us ++ ds).length = ps.length := by
    have e := r2.length
    rw [F.len _ _ _ _ hq] at e
    exact e.symm
  refine wpAny_call (make_map (f := f) I.kIn M.makes M.init (beq_iff_eq.mp M.fn) (codeAny_mono (F.run _ X.stack _ _ ⟨Value.ref (s.heap.objs.size + 1) :: us, []⟩ (Value.ref (s.heap.objs.size + 1) :: (us ++ ds)) _ _ E (hr.make C us [])
    (I2.env0.make C us []) (hb _ (Value.ref (s.heap.objs.size + 1) :: us) I2.kIn hl) r2 hq) fun r s' hq' => ?_))
  cases r with
  | error e => exact hx pins σ _ _ e s' I2 hq'
  | ok fl =>
    cases fl with
    | ret u =>
      obtain ⟨v, H', I3, rv, ev, q3⟩ := I2.after hq'
      subst ev
      exact ⟨rv, ⟨V.ref (s.heap.objs.size + 1), H', I3, rfl, q3⟩⟩
    | next => exact False.elim hq'
    | brk => exact False.elim hq'
    | cont => exact False.elim hq'
theorem pe_make0 (M : Mk X.K C f) (F : FnOk X.prog X.w X.K X.mg X.base CX k f fd ps sp) (hr : Room (k + 1) X.A) (hg : Gl X x) (hm : X.mg x = some (.ref C)) (hb : Binds X.K fd ps ds) (hd : Vals dvs ds) (hx : Passes CX X E)
    (hdb : (x == ("__debug__" : Str)) = false := by decide) : PE X (.Call (.Name x p) [] [] pos) (tMake C sp dvs E tNil) := by
  intro pins s σ H Q I h
  refine wpAny_Call_Name_kw (ld_glob I hg hm ?_ hdb)
  exact PySem.W.callWith_K0 I.kIn M.kp (run_make (us := []) M F hr hb hd hx I .nil h)
end

/-! ### keywords -/
section
variable {X : Cx} {CX : CXT} {k : Nat} {f C : Addr} {fd : FuncData} {ps ks : List Str} {sp : Sp} {E : XK} {x m : Str} {p pos apos kpos : Pos} {e o : Expr} {es : List Expr} {kws : List Keyword} {te ta : TE} {t tk : TA} {nm : Option Str}

variable {g : List Value → List Value → List Value} {gV : List V → List V → List V}
end

/-! ### a def's body keeps its promise -/
/-- names: the parameters first -/
structure FnScope (N P : List Str) (sc : Scope) : Prop where
  kind : sc.kind = .function
  co : sc.isCoroutine = false
  gen : sc.isGenerator = false
  nd : N.Nodup
  pre : N.take P.length = P
  par : ∀ x ∈ P, sc.names.lookup x = some .local ∨ sc.names.lookup x = some .cell
  nofree : ∀ y ∈ sc.names, y.2 ≠ .free

theorem bindL_out {kindOf : Str → Option NameKind} {x : Str} : ∀ {binds : List (Str × Value)} {m : Str → Option Value}, (∀ v, (x, v) ∉ binds) → bindL kindOf binds m x = m x
  | [], _, _ => rfl
  | (n, v) :: r, m, h => by
    unfold bindL
    rw [bindL_out fun w hw => h w (List.mem_cons_of_mem _ hw)]
    split
    · have : x ≠ n := by rintro rfl; exact h v List.mem_cons_self
      simp [this]
    · rfl
theorem bindC_out {kindOf : Str → Option NameKind} {x : Str} : ∀ {binds : List (Str × Value)} {m : Str → Option Value}, (∀ v, (x, v) ∉ binds) → bindC kindOf binds m x = m x
  | [], _, _ => rfl
  | (n, v) :: r, m, h => by
    unfold bindC
    rw [bindC_out fun w hw => h w (List.mem_cons_of_mem _ hw)]
    split
    · rfl
    · have : x ≠ n := by rintro rfl; exact h v List.mem_cons_self
      simp [this]
theorem bindL_get {kindOf : Str → Option NameKind} {x : Str} {v : Value} : ∀ {P : List Str} {vs : List Value} {i : Nat} {m : Str → Option Value}, P.Nodup → P[i]? = some x → vs[i]? = some v → kindOf x = some .local →
    bindL kindOf (P.zip vs) m x = some v
  | [], _, _, _, _, h, _, _ => by simp at h
  | _ :: _, [], _, _, _, _, h, _ => by simp at h
  | p :: P, w :: vs, 0, m, nd, h1, h2, hk => by
    simp at h1 h2; subst h1; subst h2
    show bindL kindOf ((p, w) :: P.zip vs) m p = _
    unfold bindL
    rw [bindL_out fun v hv => (List.nodup_cons.mp nd).1 (List.of_mem_zip hv).1, if_pos hk]
    simp
  | p :: P, w :: vs, i + 1, m, nd, h1, h2, hk => by
    show bindL kindOf ((p, w) :: P.zip vs) m x = _
    unfold bindL
    exact bindL_get (i := i) (List.nodup_cons.mp nd).2 (by simpa using h1) (by simpa using h2) hk
theorem bindC_get {kindOf : Str → Option NameKind} {x : Str} {v : Value} : ∀ {P : List Str} {vs : List Value} {i : Nat} {m : Str → Option Value}, P.Nodup → P[i]? = some x → vs[i]? = some v → kindOf x ≠ some .local →
    bindC kindOf (P.zip vs) m x = some v
  | [], _, _, _, _, h, _, _ => by simp at h
  | _ :: _, [], _, _, _, _, h, _ => by simp at h
  | p :: P, w :: vs, 0, m, nd, h1, h2, hk => by
    simp at h1 h2; subst h1; subst h2
    show bindC kindOf ((p, w) :: P.zip vs) m p = _
    unfold bindC
    rw [bindC_out fun v hv => (List.nodup_cons.mp nd).1 (List.of_mem_zip hv).1, if_neg hk]
    simp
  | p :: P, w :: vs, i + 1, m, nd, h1, h2, hk => by
    show bindC kindOf ((p, w) :: P.zip vs) m x = _
    unfold bindC
    exact bindC_get (i := i) (List.nodup_cons.mp nd).2 (by simpa using h1) (by simpa using h2) hk

/-- the names' values at the entry -/
def start (N : List Str) (vs : List V) : St := vs.map some ++ List.replicate (N.length - vs.length) none

/-- the context of a def's body, at its entry; an exception leaves the frame, then lies as CX says -/
def cxOf (CX : CXT) (P : Program) (w : World) (K : PySem.W.Frag) (mg : Str → Option Value) (base : Heap) (N : List Str) (qual : Str) (scope : Scope) (f : Addr) (cd : Value) (A : Around) (outer : List Env) (s : Shared) (H : Hp) (E : XK) : Cx where
  prog := P
  w := w
  K := K
  mg := mg
  base := base
  A := A.deeper (envOfC qual scope s.heap.objs.size f cd)
  N := N
  s₀ := s
  H₀ := H
  env := envOfC qual scope s.heap.objs.size f cd
  outer := outer
  stack := envOfC qual scope s.heap.objs.size f cd :: outer
  ex := []
  calm := true
  fn := fun _ => true
  pn := []
  xe := fun e s' => wpAny (model P w) (A.deeper (envOfC qual scope s.heap.objs.size f cd)) (leaving (envOfC qual scope s.heap.objs.size f cd) e) (fun _ s'' => CX outer H s E e s'') (fun e' s'' => CX outer H s E e' s'') s'

theorem cell_has {sc : Scope} {n : Nat} {x : Str} (h : sc.names.lookup x = some .cell) : ∃ c, (cellsFrom n sc.names []).lookup x = some c := by
  have q := PySem.W.cellsFrom_some sc.names n [] (.inl h)
  exact Option.isSome_iff_exists.mp q

theorem inv_start {CX : CXT} {P : Program} {w : World} {K : PySem.W.Frag} {mg : Str → Option Value} {base : Heap} {N ps : List Str} {qual : Str} {scope : Scope} {f : Addr} {cd : Value} {A : Around} {outer : List Env} {s s1 : Shared} {H : Hp} {E : XK} {us : List Value} {vs : List V}
    (S : FnScope N ps scope) (hd : A.handled = none) (e0 : Env0 P w K mg base A outer s H) (hl : vs.length = ps.length) (r : Vals vs us)
    (x : InCallC s s.heap.objs.size (bindL (envOfC qual scope s.heap.objs.size f cd).kindOf (ps.zip us) fun _ => none) (cellsFrom (s.heap.objs.size + 1) scope.names []) (bindC (envOfC qual scope s.heap.objs.size f cd).kindOf (ps.zip us) fun _ => none) s1) :
    Inv (cxOf CX P w K mg base N qual scope f cd A outer s H E) [] (start N vs) H s1 := by
  have hpl : ps.length ≤ N.length := by have := congrArg List.length S.pre; rw [List.length_take] at this; omega
  obtain ⟨h1, tk, rfl, hk⟩ := x.done
  have noA : ∀ b : Addr, b ∉ (cxOf CX P w K mg base N qual scope f cd A outer s H E).ex := fun b z => absurd (show b ∈ ([] : List Addr) from z) (by simp)
  refine ⟨⟨e0.mod, S.kind, rfl, rfl, Nat.le_refl _, fun y z c h1 h2 => ?_, fun y hy => ?_, fun y c _ h => ?_, fun _ => hd, Around.frames_deeper e0.frames, .inr ⟨rfl, rfl⟩, fun b z => absurd z (noA b), e0.bs, e0.bsz, fun b _ _ => noA b, fun b z => absurd z (noA b), e0.funs, e0.frf⟩,
    rfl, e0.bare, Un.kept hk, ⟨_, x.toInCall.ns, fun i y v h1 h2 h3 => ?_⟩, fun y c h => ⟨_, x.cell y c h⟩, e0.hok.fresh (Nat.le_refl _), fun y c h => ?_, fun p hp => absurd (show p ∈ ([] : List (Addr × Obj)) from hp) (by simp), e0.hok.kept hk, ?_⟩
  · exact name_of_addr x.apart (PySem.mem_of_lookup h1) (PySem.mem_of_lookup h2)
  · have hy : scope.names.lookup y = some .cell ∨ scope.names.lookup y = some .free := hy
    rcases hy with hy | hy
    · exact cell_has hy
    · exact absurd rfl (S.nofree _ (PySem.mem_of_lookup hy))
  · exact Nat.le_of_lt (x.above y c (PySem.mem_of_lookup h))
  · have hi : i < vs.length := by
      unfold start at h2
      by_cases hi : i < vs.length
      · exact hi
      · rw [List.getElem?_append_right (by simpa using hi)] at h2
        rw [List.getElem?_replicate] at h2
        split at h2 <;> cases h2
    have ha : vs[i]? = some v := by
      unfold start at h2
      rw [List.getElem?_append_left (by simpa using hi), List.getElem?_map] at h2
      cases e : vs[i]? with
      | none => rw [e] at h2; cases h2
      | some a => rw [e] at h2; cases h2; rfl
    obtain ⟨u, hu, rv⟩ := r.get ha
    have hp : ps[i]? = some y := by
      rw [← S.pre, List.getElem?_take_of_lt (by omega)]; exact h1
    have ndP : ps.Nodup := by rw [← S.pre]; exact S.nd.sublist (List.take_sublist _ _)
    refine ⟨u, rv, ?_⟩
    rcases S.par y (List.mem_of_getElem? hp) with k | k
    · exact .inl ⟨k, bindL_get ndP hp hu k⟩
    · obtain ⟨c, e⟩ := cell_has (n := s.heap.objs.size + 1) k
      refine .inr ⟨.inl k, c, e, ?_⟩
      have q := x.cell y c e
      rw [bindC_get ndP hp hu (by show scope.names.lookup y ≠ _; rw [k]; decide)] at q
      exact q
  · exact e0.hok.fresh (Nat.le_of_lt (x.above y c (PySem.mem_of_lookup h)))
  · unfold start
    show _ = N.length
    rw [List.length_append, List.length_map, List.length_replicate]
    omega

/-- THE RULE: a def (or a method) of the text, by its body. The body's reading t is chosen for each entry; it is run at the parameters' values -/
theorem fn_of {CX : CXT} {P : Program} {w : World} {K : PySem.W.Frag} {mg : Str → Option Value} {base : Heap} {k : Nat} {f : Addr} {name qual : Str} {params : Arguments} {body : List Stmt} {scope : Scope} {dV kV doc pm cdv ct oc : Value} {an od : Option Addr}
    {osl : Array (Option Value)} {N ps : List Str} {sp : Sp} (lk : K.lookup f = some ⟨oc, od, .func (PySem.W.fnOf name qual params body scope dV kV doc pm an cdv ct), osl⟩) (hcd : PySem.W.codeIn K cdv qual = true) (S : FnScope N ps scope)
    (len : ∀ vs H Q E, sp vs H Q E → vs.length = ps.length)
    (hbody : ∀ (A : Around) (outer : List Env) (s : Shared) (H : Hp) (vs : List V) (Q : VK) (E : XK), Room k (A.deeper (envOfC qual scope s.heap.objs.size f cdv)) → sp vs H Q E →
      ∃ t, PSs (cxOf CX P w K mg base N qual scope f cdv A outer s H E) body t ∧ t { nx := fun _ H' => Q .non H', rt := Q } (start N vs) H) :
    FnOk P w K mg base CX (k + 1) f (PySem.W.fnOf name qual params body scope dV kV doc pm an cdv ct) ps sp := by
  refine ⟨len, fun A outer s H args us vs Q E hr e0 hb r hsp => ?_⟩
  have hl := len _ _ _ _ hsp
  have KX : K.In s.heap := e0.mod.kin.keeps fun b o e => (e0.bs b o e).1
  have lim : s.heap.NoLimit := e0.mod.nolimit.keeps fun b o e => (e0.bs b o e).1
  have hkind : ∀ y ∈ ps.zip us, scope.names.lookup y.1 = some .local ∨ (scope.names.lookup y.1 = some .cell ∧ ((cellsFrom (s.heap.objs.size + 1) scope.names []).lookup y.1).isSome = true) := fun ⟨n, v⟩ hy => by
    rcases S.par n (List.of_mem_zip hy).1 with q | q
    · exact .inl q
    · exact .inr ⟨q, PySem.W.cellsFrom_some _ _ _ (.inl q)⟩
  refine codeAny_call_function hr.depth (KX _ _ lk) rfl S.co S.gen rfl (PySem.W.codeRec_of KX hcd) (hb _ _ _ _ ?_)
  refine wpAny_newFunctionEnv_cells S.kind hkind fun env he s1 x => ?_
  subst he
  refine ⟨lim.keeps x.toInCall.keep, codeAny_func ?_⟩
  obtain ⟨t, ht, hq⟩ := hbody A outer s H vs Q E (hr.deeper _) hsp
  have I : Inv (cxOf CX P w K mg base N qual scope f cdv A outer s H E) [] (start N vs) H s1 := inv_start S hr.hd e0 hl r x
  refine wpAny_mono (ht [] s1 (start N vs) H _ I hq) (fun fl s' hs => ?_) fun e s' hs => hs
  have fin : ∀ {σ' : St} {H' : Hp} {v : V} {u : Value}, Inv (cxOf CX P w K mg base N qual scope f cdv A outer s H E) [] σ' H' s' → RelV v u → Q v H' → CE outer P w H s Q u s' :=
    fun {σ' H' v u} J rv q => ⟨v, H', J.os, J.bare, J.base, J.hok, rv, q⟩
  cases fl with
  | ret u =>
    obtain ⟨v, σ', H', J, rv, q⟩ := hs
    exact fin J rv q
  | next =>
    obtain ⟨σ', H', J, q⟩ := hs
    exact fin (v := V.non) (u := Value.none) J rfl q
  | brk =>
    obtain ⟨_, _, _, q⟩ := hs
    exact False.elim q
  | cont =>
    obtain ⟨_, _, _, q⟩ := hs
    exact False.elim q
end L2

namespace L2
open PySem PySem.Spec PyProof.Rows
section
variable {X : Cx} {x : Str} {p pos : Pos} {e : Expr} {es : List Expr} {t : TA} {id T : String} {r : List V → Hp → VK → Prop}

def tCB (r : List V → Hp → VK → Prop) (t : TA) : TE := fun σ H Q => t σ H fun vs H1 => r vs H1 Q
/-- f(e, ..), f a built-in function -/
theorem pe_callB (hc : CallR X (.builtin id) r) (hg : Gl X x) (hm : X.mg x = none) (hv : bootBuiltins x = some (.builtin id)) (ha : PA X (e :: es) t) (hn : x ≠ "__name__" := by decide) (hdb : (x == ("__debug__" : Str)) = false := by decide)
    (he : starEach (e :: es) X.env = (false, eval e X.env) :: starEach es X.env := by rfl) (hpl : (backTo pos (starEach es X.env)).any (·.1) = false := by rfl) : PE X (.Call (.Name x p) (e :: es) [] pos) (tCB r t) := by
  intro pins s σ H Q I h
  refine wpAny_Call_Name_kw (ld_blt I hg hm hv ?_ hn hdb)
  exact PyProof.Rows.callWith_builtin1 (thn (ha pos pins s σ H _ I h) fun us s1 ⟨vs, H1, I1, r1, q1⟩ => hc pins s1 σ H1 vs us Q I1 r1 q1) he hpl
/-- T(e, ..), T a built-in type -/
theorem pe_callTy (hc : CallR X (.type T) r) (hg : Gl X x) (hm : X.mg x = none) (hv : bootBuiltins x = some (.type T)) (ha : PA X (e :: es) t) (hn : x ≠ "__name__" := by decide) (hdb : (x == ("__debug__" : Str)) = false := by decide)
    (he : starEach (e :: es) X.env = (false, eval e X.env) :: starEach es X.env := by rfl) (hpl : (backTo pos (starEach es X.env)).any (·.1) = false := by rfl) : PE X (.Call (.Name x p) (e :: es) [] pos) (tCB r t) := by
  intro pins s σ H Q I h
  refine wpAny_Call_Name_kw (ld_blt I hg hm hv ?_ hn hdb)
  exact PyProof.Rows.callWith_type1 (thn (ha pos pins s σ H _ I h) fun us s1 ⟨vs, H1, I1, r1, q1⟩ => hc pins s1 σ H1 vs us Q I1 r1 q1) he hpl
end
end L2

namespace HT
open PySem PyProof.Rows



section
open PySem.SeqAt
open PySem.AutoSeq1 (wpAny_loadPart')
open PySem.MeetsSeq PySem.MeetsSeq2 PySem.MeetsSeq3

end

section
variable {prog : Program} {w : World} {A : Around} {E : Value → Shared → Prop} {s : Shared}


/-- t + u, t not empty -/
theorem cat_tup {t b : Addr} {vs ws : List Value} {Q : Value → Shared → Prop} (ht : IsTup s.heap t vs.toArray) (hb : IsTup s.heap b ws.toArray) (hv : vs ≠ [])
    (h1 : ws = [] → Q (.ref t) s) (h2 : ws ≠ [] → Q (.ref s.heap.objs.size) { s with heap := s.heap.push { cls := .type "tuple", data := .seq (vs ++ ws).toArray } })
    (hsz : vs.length + ws.length ≤ sizeLine) : wpAny (model prog w) A (binaryOp .Add (.ref t) (.ref b)) Q E s := by
  obtain ⟨⟨cls, dd, data, sl⟩, ho, hc, n, hd⟩ := id ht
  obtain ⟨⟨cls2, dd2, data2, sl2⟩, ho2, hc2, n2, hd2⟩ := id hb
  simp only at hc hd hc2 hd2
  subst hc hd hc2 hd2
  have e : vs.toArray ++ ws.toArray = (vs ++ ws).toArray := by simp
  by_cases hw : ws = []
  · exact concat_meets ⟨_, ho, rfl⟩ ⟨_, ho2, rfl⟩ noFill_tuple_add seq_tuple_add PySem.F.slot_tuple_add PySem.F.entry_tuple_add (PySem.F.args_tuple_add_2 _ _)
      (tuple_addW1 t b vs.toArray ws.toArray n n2 dd dd2 sl sl2 (by simpa using hv) (by simp [hw])) ⟨ho, ho2, h1 hw⟩
  · refine concat_meets ⟨_, ho, rfl⟩ ⟨_, ho2, rfl⟩ noFill_tuple_add seq_tuple_add PySem.F.slot_tuple_add PySem.F.entry_tuple_add (PySem.F.args_tuple_add_2 _ _)
      (tuple_addW2 t b vs.toArray ws.toArray n n2 dd dd2 sl sl2 (by simpa using hv) (by simpa using hw) (by rw [List.size_toArray, List.size_toArray]; exact hsz)) ⟨ho, ho2, ?_⟩
    rw [e]
    exact h2 hw

/-! ### t[a:b], not the whole -/
/-- a slice's bound as a place among n (d where it is left out) -/
def sIx (n d : Nat) : Option Int → Nat
  | none => d
  | some v => if v < 0 then (v + (n : Int)).toNat else min v.toNat n
theorem sIx_nat (n d k : Nat) : sIx n d (some (k : Int)) = min k n := by
  show (if (k : Int) < 0 then ((k : Int) + (n : Int)).toNat else min (k : Int).toNat n) = min k n
  rw [if_neg (by omega), Int.toNat_natCast]
theorem sIx_le (n d : Nat) (hd : d ≤ n) (o : Option Int) : sIx n d o ≤ n := by
  cases o with
  | none => exact hd
  | some v =>
    show (if v < 0 then (v + (n : Int)).toNat else min v.toNat n) ≤ n
    by_cases hv : v < 0
    · rw [if_pos hv]; omega
    · rw [if_neg hv]; exact Nat.min_le_right _ _
theorem clip_eq (v : Int) (n d : Nat) : (if v < 0 then max (v + (n : Int)) 0 else min v (n : Int)) = ((sIx n d (some v) : Nat) : Int) := by
  show (if v < 0 then max (v + (n : Int)) 0 else min v (n : Int)) = (((if v < 0 then (v + (n : Int)).toNat else min v.toNat n) : Nat) : Int)
  by_cases hv : v < 0
  · simp only [if_pos hv]; omega
  · simp only [if_neg hv]; omega
theorem adjust_gen (lo hi : Option Int) (n : Nat) : Builtin.Slice.sliceAdjust lo hi 1 (n : Int) = (((sIx n 0 lo : Nat) : Int), ((sIx n n hi : Nat) : Int)) := by
  have h1 : ¬ ((1 : Int) < 0) := by omega
  unfold Builtin.Slice.sliceAdjust
  simp only [h1, if_false]
  refine Prod.ext ?_ ?_
  · cases lo with
    | none => rfl
    | some v => exact clip_eq v n 0
  · cases hi with
    | none => rfl
    | some v => exact clip_eq v n n
theorem places_gen (i j : Nat) : Builtin.Slice.slicePlaces (i : Int) (j : Int) 1 = j - i := by
  unfold Builtin.Slice.slicePlaces
  have h1 : (1 : Int) > 0 := by omega
  simp only [h1, if_true, Int.ediv_one]
  split <;> omega
theorem slicePart_ {v : Value} {o : Option Int} {Q : Option Int → Shared → Prop} (p : IsPart v o) (h : Q o s) : wpAny (model prog w) A (Builtin.Slice.slicePartIndex v) Q E s := by
  cases p with
  | none => exact slicePart_none h
  | int i t => exact slicePart_int h
theorem sliceApplied_gen {sl : Addr} {vl vu : Value} {lo hi : Option Int} {n : Nat} {Q : Int × Int × Nat → Shared → Prop} (hs : s.heap.IsSliceOf sl vl vu .none) (pl : IsPart vl lo) (pu : IsPart vu hi)
    (h : Q (((sIx n 0 lo : Nat) : Int), 1, sIx n n hi - sIx n 0 lo) s) : wpAny (model prog w) A (Builtin.Slice.sliceApplied (.ref sl) (pure (n : Int))) Q E s := by
  obtain ⟨os, hos, hcs, hds⟩ := id hs
  unfold Builtin.Slice.sliceApplied Builtin.Slice.sliceFields
  refine wpAny_bind (wpAny_bind (wpAny_field hos hds (x := vl) rfl (wpAny_bind (wpAny_field hos hds (x := vu) rfl (wpAny_bind (wpAny_field hos hds (x := .none) rfl (wpAny_pure ?_)))))))
  refine wpAny_bind (slicePart_none ?_)
  show wpAny _ _ (if ((1 : Int) == 0) = true then _ else _) _ _ s
  rw [if_neg (by decide)]
  refine wpAny_bind (slicePart_ pl (wpAny_bind (slicePart_ pu (wpAny_bind (wpAny_pure ?_)))))
  show wpAny _ _ (match Builtin.Slice.sliceAdjust lo hi 1 (n : Int) with | (lo, hi) => pure (lo, (1 : Int), Builtin.Slice.slicePlaces lo hi 1)) _ _ s
  rw [adjust_gen lo hi n]
  show wpAny _ _ (pure (((sIx n 0 lo : Nat) : Int), (1 : Int), Builtin.Slice.slicePlaces ((sIx n 0 lo : Nat) : Int) ((sIx n n hi : Nat) : Int) 1)) _ _ s
  rw [places_gen]
  exact wpAny_pure h
theorem pick_gen (xs : Array Value) (i k : Nat) : ((List.range k).filterMap fun (m : Nat) => xs[((i : Int) + (m : Int) * 1).toNat]?).toArray = ((xs.toList.drop i).take k).toArray := by
  have e : (fun (m : Nat) => xs[((i : Int) + (m : Int) * 1).toNat]?) = fun m => xs[i + m]? := by
    funext m
    have : ((i : Int) + (m : Int) * 1).toNat = i + m := by omega
    rw [this]
  rw [e]
  have := pick_run xs i k
  rw [List.filterMap_map] at this
  have e2 : ((fun x => xs[x]?) ∘ fun x => i + x) = fun m => xs[i + m]? := rfl
  rw [e2] at this
  rw [this]

theorem getItem_tuple_cut {t sl : Addr} {items : Array Value} {vl vu : Value} {lo hi : Option Int} {Q : Value → Shared → Prop} (ht : IsTup s.heap t items) (hs : s.heap.IsSliceOf sl vl vu .none) (pl : IsPart vl lo) (pu : IsPart vu hi)
    (hw : ¬ (sIx items.size 0 lo = 0 ∧ sIx items.size items.size hi = items.size))
    (h : Q (.ref s.heap.objs.size) { s with heap := s.heap.push { cls := .type "tuple", data := .seq ((items.toList.drop (sIx items.size 0 lo)).take (sIx items.size items.size hi - sIx items.size 0 lo)).toArray } })
    (hsz : items.size ≤ sizeLine) : wpAny (model prog w) A (getItem (.ref t) (.ref sl)) Q E s := by
  have htake : sizeOk (.seq ((items.toList.drop (sIx items.size 0 lo)).take (sIx items.size items.size hi - sIx items.size 0 lo)).toArray) := by
    show ((items.toList.drop (sIx items.size 0 lo)).take (sIx items.size items.size hi - sIx items.size 0 lo)).toArray.size ≤ sizeLine
    rw [List.size_toArray, List.length_take, List.length_drop, Array.length_toList]
    omega
  have hj : sIx items.size items.size hi ≤ items.size := sIx_le _ _ (Nat.le_refl _) hi
  obtain ⟨os, hos, hcs, hds⟩ := id hs
  have hTs : s.TypeIs (.ref sl) "slice" := ⟨os, hos, hcs⟩
  unfold getItem
  try with_reducible refine wpAny_holding ?_
  first | refine wpAny_bind (wpAny_pure ?_) | skip
  refine wpAny_bind (wpAny_sequenceKey ht.typeIs (by decide) ?_)
  refine wpAny_bind (wpAny_callSpecial?_slot (name := Str.ofString "__getitem__") ht.typeIs PyProof.Rows.slot_tuple_getitem
    (wpAny_call_entry PyProof.Rows.slot_tuple_getitem ht.typeIs entry_tuple_getitem ?_ (args_tuple_getitem _ _)))
  show wpAny _ _ (Builtin.Tuple.tupleItemsOf (.ref t) >>= _) _ _ s
  refine wpAny_bind (tupleItemsOf_ ht ?_)
  refine wpAny_bind (wpAny_typeOf hTs ?_)
  rw [if_pos (by decide)]
  refine wpAny_bind (sliceApplied_gen hs pl pu ?_)
  have hno : ¬ ((((sIx items.size 0 lo : Nat) : Int) == 0 && (1 : Int) == 1 && (sIx items.size items.size hi - sIx items.size 0 lo) == items.size) = true) := by
    intro q
    rw [Bool.and_eq_true, Bool.and_eq_true] at q
    have q1 : ((sIx items.size 0 lo : Nat) : Int) = 0 := eq_of_beq q.1.1
    have q2 : sIx items.size items.size hi - sIx items.size 0 lo = items.size := eq_of_beq q.2
    exact hw ⟨by omega, by omega⟩
  show wpAny _ _ (if (((sIx items.size 0 lo : Nat) : Int) == 0 && (1 : Int) == 1 && (sIx items.size items.size hi - sIx items.size 0 lo) == items.size) = true then _ else _) _ _ s
  rw [if_neg hno, pick_gen]
  first
    | exact wpAny_bind (m := Builtin.Tuple.tupleExact _) (wpAny_newObj_type (wpAny_pure ⟨_, rfl, wpAny_pure h⟩) htake)
    | exact wpAny_bind (m := Builtin.Tuple.tupleExact _) (wpAny_newObj_type (wpAny_bind (wpAny_pure (wpAny_pure ⟨_, rfl, wpAny_pure h⟩))) htake)
    | exact wpAny_bind (wpAny_bind (m := Builtin.Tuple.tupleExact _) (wpAny_newObj_type (wpAny_pure (wpAny_pure ⟨_, rfl, wpAny_pure h⟩)) htake))
    | exact wpAny_bind (wpAny_bind (m := Builtin.Tuple.tupleExact _) (wpAny_newObj_type (wpAny_pure ⟨_, rfl, wpAny_pure h⟩) htake))
end
end HT

namespace L2
open PySem PySem.Spec PyProof.Rows

/-! ### the parts of a slice -/
abbrev TO := St → Hp → (Option Int → Hp → Prop) → Prop
/-- a slice's part (left out, or an int) -/
def PO (X : Cx) (e : Option Expr) (t : TO) : Prop :=
  ∀ (pins : List (Addr × Obj)) (s : Shared) (σ : St) (H : Hp) (Q : Option Int → Hp → Prop), Inv X pins σ H s → t σ H Q →
    wpAny (model X.prog X.w) X.A (evalPart e X.env) (fun u s' => ∃ o H', Inv X pins σ H' s' ∧ IsPart u o ∧ Q o H') X.xe s
def tNoPart : TO := fun _ H Q => Q none H
def tPart (t : TE) : TO := fun σ H Q => t σ H fun x H1 => ∃ i, x = .int i ∧ Q (some i) H1

theorem intsAre_of {ns : List Int} : ∀ {us : List Value}, Vals (ns.map V.int) us → IntsAre us ns := by
  induction ns with
  | nil => intro us r; rw [List.map_nil] at r; cases r; exact .nil
  | cons n ns ih =>
    intro us r
    rw [List.map_cons] at r
    cases r with
    | cons r1 r2 =>
      obtain ⟨t, e⟩ := r1
      subst e
      exact .cons n t (ih r2)

section
variable {X : Cx} {e : Expr} {te : TE} {lo hi : Option Expr} {tl th : TO} {pos p2 : Pos}

theorem po_none : PO X none tNoPart := by
  intro pins s σ H Q I h
  rw [evalPart_none]
  exact wpAny_pure ⟨none, H, I, .none, h⟩
theorem po_some (h : PE X e te) : PO X (some e) (tPart te) := by
  intro pins s σ H Q I hw
  rw [evalPart_some]
  refine thn (h pins s σ H _ I hw) fun u s1 ⟨x, H1, I1, r1, q1⟩ => ?_
  obtain ⟨i, rfl, q⟩ := q1
  obtain ⟨t, rfl⟩ := r1
  exact ⟨some i, H1, I1, .int i t, q⟩

/-- what a slice of a value is, by values: the slice object stands at sl -/
def SlR (X : Cx) (r : V → Option Int → Option Int → Hp → VK → Prop) : Prop :=
  ∀ (pins : List (Addr × Obj)) (s : Shared) (σ : St) (H : Hp) (x : V) (v vl vu : Value) (lo hi : Option Int) (sl : Addr) (Q : VK), Inv X pins σ H s → RelV x v → s.heap.IsSliceOf sl vl vu .none → IsPart vl lo → IsPart vu hi → r x lo hi H Q →
    ∃ T id, typeLookup (.type T) "__getitem__" = pure (some (.builtin id)) ∧ s.TypeIs v T ∧ wpAny (model X.prog X.w) X.A (getItem v (.ref sl)) (EP X pins σ Q) X.xe s
def tSl (r : V → Option Int → Option Int → Hp → VK → Prop) (te : TE) (tl th : TO) : TE := fun σ H Q => te σ H fun x H1 => tl σ H1 fun l H2 => th σ H2 fun u H3 => r x l u H3 Q
/-- a[lo:hi], any a -/
theorem pe_slice {r : V → Option Int → Option Int → Hp → VK → Prop} (hr : SlR X r) (he : PE X e te) (hl : PO X lo tl) (hu : PO X hi th) : PE X (.Subscript e (.Slice lo hi none p2) pos) (tSl r te tl th) := by
  intro pins s σ H Q I h
  refine Subscript_ (thn (he pins s σ H _ I h) fun v s1 ⟨x, H1, I1, r1, q1⟩ => ?_)
  refine wpAny_Slice (thn (hl pins s1 σ H1 _ I1 q1) fun vl s2 ⟨l, H2, I2, pl, q2⟩ => thn (hu pins s2 σ H2 _ I2 q2) fun vu s3 ⟨u, H3, I3, pu, q3⟩ => ?_)
  rw [evalPart_none]
  refine wpAny_pure ?_
  have I4 : Inv X pins σ H3 { s3 with heap := s3.heap.push { cls := .type "slice", data := .fields #[vl, vu, .none] } } := I3.kept (t' := s3.toks) fun b ob q => Heap.get?_push_of_some _ q
  obtain ⟨T, id, hT, ht, hg⟩ := hr pins { s3 with heap := s3.heap.push { cls := .type "slice", data := .fields #[vl, vu, .none] } } σ H3 x v vl vu l u s3.heap.objs.size Q I4 r1 (Heap.IsSliceOf.new ..) pl pu q3
  show wpAny (model X.prog X.w) X.A (subscriptTail e (.Slice lo hi none p2) v (.ref s3.heap.objs.size)) (EP X pins σ Q) X.xe { s3 with heap := s3.heap.push { cls := .type "slice", data := .fields #[vl, vu, .none] } }
  exact tail_any (ops := [.ref s3.heap.objs.size, v]) ht hT hg (by with_unfolding_all rfl)

/-- the items of xs[lo:hi] -/
def cutV (xs : List V) (lo hi : Option Int) : List V := (xs.drop (HT.sIx xs.length 0 lo)).take (HT.sIx xs.length xs.length hi - HT.sIx xs.length 0 lo)
theorem cutV_length (xs : List V) (lo hi : Option Int) : (cutV xs lo hi).length ≤ xs.length := by
  unfold cutV
  rw [List.length_take, List.length_drop]
  omega
/-- t[lo:hi], not the whole of it (the whole would be t itself) -/
def rSlT (K : PySem.W.Frag) : V → Option Int → Option Int → Hp → VK → Prop := fun x lo hi H Q => ∃ a xs, x = .ref a ∧ SqT K H a xs ∧
  ¬ (HT.sIx xs.length 0 lo = 0 ∧ HT.sIx xs.length xs.length hi = xs.length) ∧ ∀ p, H p = none → Q (.ref p) (upd H p (.tup (cutV xs lo hi)))
theorem sl_tup : SlR X (rSlT X.K) := by
  intro pins s σ H x v vl vu lo hi sl Q I rx hs pl pu h
  obtain ⟨a, xs, rfl, hx, hw, q⟩ := h
  cases rx
  obtain ⟨its, r, ht, hz⟩ := I.tuple hx
  have hlen : its.toArray.size = xs.length := by rw [List.size_toArray]; exact r.length.symm
  refine ⟨"tuple", _, PyProof.Rows.slot_tuple_getitem.lookup, ht.typeIs, ?_⟩
  refine HT.getItem_tuple_cut ht hs pl pu (by rw [hlen]; exact hw) ?_ (by rw [hlen]; exact hz)
  rw [hlen]
  refine ⟨.ref s.heap.objs.size, _, I.laid (t' := s.toks) (o := .tup (cutV xs lo hi)) (fun b ob q => Heap.get?_push_of_some _ q) (Nat.le_refl _) ?_, rfl, q _ (I.hok.fresh (Nat.le_refl _))⟩
  exact ⟨Nat.le_trans (cutV_length xs lo hi) hz, _, (r.drop (HT.sIx xs.length 0 lo)).take (HT.sIx xs.length xs.length hi - HT.sIx xs.length 0 lo), IsTup.new _ _⟩

/-! ### t < u, t + u -/
/-- t + u, t not empty: u empty gives t itself -/
def rCatT (K : PySem.W.Frag) : R2 := fun x y H Q => ∃ a b xs ys, x = .ref a ∧ y = .ref b ∧ SqT K H a xs ∧ SqT K H b ys ∧ xs ≠ [] ∧ xs.length + ys.length ≤ sizeLine ∧
  (ys = [] → Q (.ref a) H) ∧ (ys ≠ [] → ∀ p, H p = none → Q (.ref p) (upd H p (.tup (xs ++ ys))))
theorem Vals.nil_iff {xs : List V} {us : List Value} (r : Vals xs us) : us = [] ↔ xs = [] := by
  cases r with
  | nil => simp
  | cons _ _ => simp
theorem op_catT : OpR X (binaryOp .Add) (rCatT X.K) := by
  intro pins s σ H x y v u Q I rx ry h
  obtain ⟨a, b, xs, ys, rfl, rfl, ha, hb, hx, hz, q1, q2⟩ := h
  cases rx
  cases ry
  obtain ⟨its, r1, p1, _⟩ := I.tuple ha
  obtain ⟨its2, r2, p2, _⟩ := I.tuple hb
  refine HT.cat_tup p1 p2 (fun z => hx (r1.nil_iff.mp z)) (fun z => ⟨.ref a, H, I, rfl, q1 (r2.nil_iff.mp z)⟩) (fun z => ?_) (by rw [← r1.length, ← r2.length]; exact hz)
  refine ⟨.ref s.heap.objs.size, _, I.laid (t' := s.toks) (o := .tup (xs ++ ys)) (fun b ob q => Heap.get?_push_of_some _ q) (Nat.le_refl _) ?_, rfl, q2 (fun w => z (r2.nil_iff.mpr w)) _ (I.hok.fresh (Nat.le_refl _))⟩
  exact ⟨by rw [List.length_append]; exact hz, _, r1.append r2, IsTup.new _ _⟩
end
end L2

namespace L2
open PySem PySem.Spec PyProof.Rows

/-! ### places -/
/-- the place that an index of any sign means -/
def ixN (n : Nat) (i : Int) : Option Nat := if 0 ≤ i then (if i < n then some i.toNat else none) else if -(n : Int) ≤ i then some (i + n).toNat else none
def atI {α : Type} (xs : List α) (i : Int) : Option α := (ixN xs.length i).bind fun j => xs[j]?
theorem ixN_seq {n : Nat} {i : Int} {j : Nat} (h : ixN n i = some j) : seqIndex? i n = some j ∧ j < n ∧ -(n : Int) ≤ i ∧ i < n := by
  unfold ixN at h
  by_cases h0 : 0 ≤ i
  · rw [if_pos h0] at h
    by_cases h1 : i < n
    · rw [if_pos h1] at h
      have e : i.toNat = j := Option.some.inj h
      exact ⟨by rw [seqIndex_of h0 h1, e], by omega, by omega, h1⟩
    · rw [if_neg h1] at h; cases h
  · rw [if_neg h0] at h
    by_cases h1 : -(n : Int) ≤ i
    · rw [if_pos h1] at h
      have e : (i + n).toNat = j := Option.some.inj h
      exact ⟨by rw [seqIndex_neg (by omega) h1, e], by omega, h1, by omega⟩
    · rw [if_neg h1] at h; cases h
theorem atI_get {α : Type} {xs : List α} {i : Int} {v : α} (h : atI xs i = some v) : ∃ j, seqIndex? i xs.length = some j ∧ xs[j]? = some v ∧ j < xs.length ∧ -(xs.length : Int) ≤ i ∧ i < xs.length := by
  unfold atI at h
  cases e : ixN xs.length i with
  | none => rw [e] at h; cases h
  | some j =>
    rw [e] at h
    obtain ⟨h1, h2, h3, h4⟩ := ixN_seq e
    exact ⟨j, h1, h, h2, h3, h4⟩
theorem atI_nat {α : Type} {xs : List α} {j : Nat} {v : α} (h : xs[j]? = some v) : atI xs (j : Int) = some v := by
  have hj : j < xs.length := (List.getElem?_eq_some_iff.mp h).1
  have e : ixN xs.length (j : Int) = some j := by
    unfold ixN
    rw [if_pos (by omega), if_pos (by omega)]; simp
  unfold atI; rw [e]; exact h

/-! ### what may be subscripted -/
/-- what stands as an index of a plain subscript -/
def PlainIx (b : Expr) : Prop := ∀ o i, subscripted b false o i = operate [o, i] (getItem o i)
/-- a subscript by values -/
def IxR (X : Cx) (r : R2) : Prop :=
  ∀ (value slice : Expr) (pins : List (Addr × Obj)) (s : Shared) (σ : St) (H : Hp) (x y : V) (v u : Value) (Q : VK), Inv X pins σ H s → RelV x v → RelV y u → r x y H Q →
    subscripted slice false v u = operate [v, u] (getItem v u) → wpAny (model X.prog X.w) X.A (subscriptTail value slice v u) (EP X pins σ Q) X.xe s
/-- a call of a builtin's method by values: the receiver, the arguments -/
def MtR (X : Cx) (id : String) (r : V → List V → Hp → VK → Prop) : Prop :=
  ∀ (pins : List (Addr × Obj)) (s : Shared) (σ : St) (H : Hp) (x : V) (xs : List V) (v : Value) (us : List Value) (Q : VK), Inv X pins σ H s → RelV x v → Vals xs us → r x xs H Q →
    wpAny (model X.prog X.w) X.A (call (.builtin id) (v :: us)) (EP X pins σ Q) X.xe s
section
variable {X : Cx} {a b : Expr} {ta tb : TE} {pos : Pos}
theorem IxR.or {r r' : R2} (h : IxR X r) (h' : IxR X r') : IxR X (fun x y H Q => r x y H Q ∨ r' x y H Q) := by
  intro value slice pins s σ H x y v u Q I rx ry q hs
  rcases q with q | q
  · exact h value slice pins s σ H x y v u Q I rx ry q hs
  · exact h' value slice pins s σ H x y v u Q I rx ry q hs
/-- a[b] -/
theorem pe_ix {r : R2} (hr : IxR X r) (ha : PE X a ta) (hb : PE X b tb) (hs : PlainIx b) : PE X (.Subscript a b pos) (tOp r ta tb) := by
  intro pins s σ H Q I h
  exact Subscript_ (binT ha hb I h fun v u s2 x y H2 I2 rx ry q => hr a b pins s2 σ H2 x y v u Q I2 rx ry q (hs _ _))

def rIxL (K : PySem.W.Frag) : R2 := fun x y H Q => ∃ p xs i v, x = .ref p ∧ y = .int i ∧ SqL K H p xs ∧ atI xs i = some v ∧ Q v H
def rIxT (K : PySem.W.Frag) : R2 := fun x y H Q => ∃ p xs i v, x = .ref p ∧ y = .int i ∧ SqT K H p xs ∧ atI xs i = some v ∧ Q v H
def rIxS : R2 := fun x y H Q => ∃ z i c, x = .str z ∧ y = .int i ∧ z.length ≤ sizeLine ∧ atI z.cps.toList i = some c ∧ Q (.str ⟨#[c]⟩) H
theorem ix_list : IxR X (rIxL X.K) := by
  intro value slice pins s σ H x y v u Q I rx ry h hs
  obtain ⟨p, xs, i, z, rfl, rfl, hq, he, q⟩ := h
  cases rx
  obtain ⟨t, rfl⟩ := ry
  obtain ⟨its, r, pl, hz⟩ := I.list hq
  obtain ⟨j, h1, h2, h3, h4, h5⟩ := atI_get he
  obtain ⟨w, ew, rw'⟩ := r.get h2
  have hl := r.length
  have hn := line63
  have fin : EP X pins σ Q w s := ⟨z, H, I, rw', q⟩
  by_cases h0 : 0 ≤ i
  · have hj : i.toNat = j := by
      rw [seqIndex_of h0 h5] at h1
      exact Option.some.inj h1
    exact item_listR pl.isList h0 (by omega) (by rw [hj]; simpa using ew) fin hs
  · have hj : (i + (its.toArray.size : Int)).toNat = j := by
      rw [seqIndex_neg (by omega) h4] at h1
      rw [List.size_toArray, ← hl]
      exact Option.some.inj h1
    exact subscriptTail_builtinR (x := w) pl.isList.typeIs slot_list_getitem.lookup
      (wpAny_getItem_list_neg (Q := fun r s' => r = w ∧ EP X pins σ Q r s') pl.isList (by omega) (by rw [List.size_toArray] <;> omega) (by omega) (by rw [hj]; simpa using ew) ⟨rfl, fin⟩) hs
theorem ix_tup : IxR X (rIxT X.K) := by
  intro value slice pins s σ H x y v u Q I rx ry h hs
  obtain ⟨p, xs, i, z, rfl, rfl, hq, he, q⟩ := h
  cases rx
  obtain ⟨t, rfl⟩ := ry
  obtain ⟨its, r, pl, hz⟩ := I.tuple hq
  obtain ⟨j, h1, h2, h3, h4, h5⟩ := atI_get he
  obtain ⟨w, ew, rw'⟩ := r.get h2
  have hl := r.length
  have hn := line63
  have fin : EP X pins σ Q w s := ⟨z, H, I, rw', q⟩
  exact subscriptTail_builtinR (x := w) pl.typeIs slot_tuple_getitem.lookup
    (getItem_tuple (j := j) (Q := fun r s' => r = w ∧ EP X pins σ Q r s') pl (by omega) (by omega) (by rw [List.size_toArray, ← hl]; exact h1) (by simpa using ew) ⟨rfl, fin⟩) hs
theorem ix_str : IxR X rIxS := by
  intro value slice pins s σ H x y v u Q I rx ry h hs
  obtain ⟨z, i, c, rfl, rfl, hz, he, q⟩ := h
  obtain ⟨t, rfl⟩ := rx
  obtain ⟨t', rfl⟩ := ry
  obtain ⟨j, h1, h2, h3, h4, h5⟩ := atI_get he
  have hl : z.cps.toList.length = z.length := by simp [Str.length]
  rw [hl] at h1 h4 h5
  have hn := line63
  exact tail_any (typeIs_str s z t) slot_str_getitem.lookup (getItem_str (c := c) (by
    have e1 : decide (i < -(2 ^ 63 : Int)) = false := decide_eq_false (by omega)
    have e2 : decide (i ≥ 2 ^ 63) = false := decide_eq_false (by omega)
    rw [e1, e2, Bool.or_false]) (by rw [h1]; simpa using h2) ⟨.str ⟨#[c]⟩, H, I.tok _, ⟨_, rfl⟩, q⟩) hs
/-- list, tuple or str -/
def rIx (K : PySem.W.Frag) : R2 := fun x y H Q => rIxL K x y H Q ∨ rIxT K x y H Q ∨ rIxS x y H Q
theorem ix_seq : IxR X (rIx X.K) := ix_list.or (ix_tup.or ix_str)

/-! ### xs[i] = v, any sign -/
/-- the list's object behind a store -/
theorem mapSeq_set (its : List Value) (n j : Nat) (u : Value) : Obj.mapSeq (·.setIfInBounds j u) { cls := .type "list", data := .seq its.toArray n } = { cls := .type "list", data := .seq (its.set j u).toArray n } := by
  simp [Obj.mapSeq]
theorem Inv.lst {pins : List (Addr × Obj)} {σ : St} {H : Hp} {s : Shared} {p : Addr} {xs : List V} (I : Inv X pins σ H s) (h : H p = some (.lst xs)) :
    ∃ (its : List Value) (n : Nat), Vals xs its ∧ s.heap.get? p = some { cls := .type "list", data := .seq its.toArray n } ∧ xs.length ≤ sizeLine := by
  obtain ⟨z, its, n, r, e⟩ := I.hok p _ h
  exact ⟨its, n, r, e, z⟩
/-- the list at p is written by an update of its object -/
theorem Inv.lstUpd {pins : List (Addr × Obj)} {σ : St} {H : Hp} {s : Shared} {p : Addr} {xs ys : List V} {its its' : List Value} {n n' : Nat} {f : Obj → Obj} (I : Inv X pins σ H s) (h : H p = some (.lst xs))
    (ho : s.heap.get? p = some { cls := .type "list", data := .seq its.toArray n }) (hf : f { cls := .type "list", data := .seq its.toArray n } = { cls := .type "list", data := .seq its'.toArray n' }) (r : Vals ys its') (hz : ys.length ≤ sizeLine) (t : Nat) :
    Inv X pins σ (upd H p (.lst ys)) { s with heap := s.heap.update p f, toks := t } := by
  have e : (s.heap.update p f).get? p = some { cls := .type "list", data := .seq its'.toArray n' } := by
    rw [Heap.get?_update_self f ho (by rw [hf] <;> rfl), hf]
  refine I.write (x := p) (e := p) (by rw [h]; trivial) (.inl rfl) (fun b u hb q => (Heap.get?_update_other _ _ (Ne.symm hb)).trans q) ⟨_, e⟩ ?_
  exact ⟨hz, its', n', r, e⟩
def rSetL : V → V → V → Hp → (Hp → Prop) → Prop := fun o i v H Q => ∃ p xs k j, o = .ref p ∧ i = .int k ∧ H p = some (.lst xs) ∧ ixN xs.length k = some j ∧ Q (upd H p (.lst (xs.set j v)))
theorem set_list : PSet X rSetL := by
  intro pins s σ H o i v ov iv u Q I ro ri rv h
  obtain ⟨p, xs, k, j, rfl, rfl, hp, hj, q⟩ := h
  cases ro
  obtain ⟨t, rfl⟩ := ri
  obtain ⟨its, n, r, ho, hz⟩ := I.lst hp
  obtain ⟨h1, h2, h3, h4⟩ := ixN_seq hj
  have hl := r.length
  have hn := line63
  have I' : Inv X pins σ (upd H p (.lst (xs.set j v))) { s with heap := s.heap.update p (Obj.mapSeq (·.setIfInBounds j u)) } :=
    I.lstUpd hp ho (mapSeq_set its n j u) (r.set rv j) (by rw [List.length_set]; exact hz) s.toks
  by_cases h0 : 0 ≤ k
  · have hk : k.toNat = j := by
      rw [seqIndex_of h0 h4] at h1
      exact Option.some.inj h1
    exact PySem.W.ki_setAt ho h0 (by omega) (by rw [List.size_toArray, ← hl]; exact h4) (by rw [hk]; exact ⟨_, I', q⟩)
  · have hk : (k + (its.toArray.size : Int)).toNat = j := by
      rw [seqIndex_neg (by omega) h3] at h1
      rw [List.size_toArray, ← hl]
      exact Option.some.inj h1
    exact PySem.W.ki_setBack ho (by omega) (by rw [List.size_toArray, ← hl]; exact h3) (by omega) (by rw [hk]; exact ⟨_, I', q⟩)

/-! ### slices -/
theorem slice_bounds (lo hi : Option Int) (n : Nat) : (sliceBounds lo hi none n).1 = ((HT.sIx n 0 lo : Nat) : Int) ∧ (sliceBounds lo hi none n).2.1 = ((HT.sIx n n hi : Nat) : Int) ∧ (sliceBounds lo hi none n).2.2 = 1 := by
  refine ⟨?_, ?_, rfl⟩
  · cases lo with
    | none => simp [sliceBounds, HT.sIx]
    | some i =>
      simp only [sliceBounds, HT.sIx, Option.getD_none, show (1 : Int) > 0 by decide, if_true]
      by_cases h : i < 0
      · simp only [h, if_true] <;> omega
      · simp only [h, if_false] <;> omega
  · cases hi with
    | none => simp [sliceBounds, HT.sIx]
    | some i =>
      simp only [sliceBounds, HT.sIx, Option.getD_none, show (1 : Int) > 0 by decide, if_true]
      by_cases h : i < 0
      · simp only [h, if_true] <;> omega
      · simp only [h, if_false] <;> omega
theorem slicePick_cut (its : List Value) (lo hi : Option Int) : slicePick its.toArray lo hi none = ((its.drop (HT.sIx its.length 0 lo)).take (HT.sIx its.length its.length hi - HT.sIx its.length 0 lo)).toArray := by
  obtain ⟨h1, h2, h3⟩ := slice_bounds lo hi its.toArray.size
  unfold slicePick
  rw [h1, h2, h3]
  simp only [sliceRange_one, pick_run, List.size_toArray] <;> rfl
/-- xs[lo:hi] of a list: a new list -/
def rSlL (K : PySem.W.Frag) : V → Option Int → Option Int → Hp → VK → Prop := fun x lo hi H Q => ∃ a xs, x = .ref a ∧ SqL K H a xs ∧ ∀ p, H p = none → Q (.ref p) (upd H p (.lst (cutV xs lo hi)))
theorem sl_list : SlR X (rSlL X.K) := by
  intro pins s σ H x v vl vu lo hi sl Q I rx hs pl pu h
  obtain ⟨a, xs, rfl, hx, q⟩ := h
  cases rx
  obtain ⟨its, r, ht, hz⟩ := I.list hx
  have hlen := r.length
  refine ⟨"list", _, slot_list_getitem.lookup, ht.isList.typeIs, ?_⟩
  refine wpAny_getItem_list_slice ht.isList hs pl pu .none (by simp) ?_ (by rw [List.size_toArray] <;> omega)
  rw [slicePick_cut, ← hlen]
  refine ⟨.ref s.heap.objs.size, _, I.laid (t' := s.toks) (o := .lst (cutV xs lo hi)) (fun b ob q => Heap.get?_push_of_some _ q) (Nat.le_refl _) ?_, rfl, q _ (I.hok.fresh (Nat.le_refl _))⟩
  exact ⟨Nat.le_trans (cutV_length xs lo hi) hz, _, 0, (r.drop (HT.sIx xs.length 0 lo)).take (HT.sIx xs.length xs.length hi - HT.sIx xs.length 0 lo), Heap.get?_push_size _ rfl⟩

/-! ### in, not in: flat items -/

/-! ### len, list(x), tuple(x) of any list or tuple that is read -/
theorem call_len_seq : CallR X (.builtin "len") (fun xs H Q => ∃ p ys, xs = [.ref p] ∧ (SqL X.K H p ys ∨ SqT X.K H p ys) ∧ Q (.int ys.length) H) := by
  intro pins s σ H xs us Q I r h
  obtain ⟨p, ys, rfl, hq, q⟩ := h
  obtain ⟨u, rfl, rx⟩ := vals1 r
  cases rx
  have hn := line63
  rcases hq with hq | hq
  · obtain ⟨its, r', pl, hz⟩ := I.list hq
    have hlen := r'.length
    exact Calls.call_len_list pl.isList (by simp only [List.size_toArray] <;> omega) ⟨.int ys.length, H, I.tok _, ⟨s.toks + 1, by rw [List.size_toArray, hlen]⟩, q⟩
  · obtain ⟨its, r', pl, hz⟩ := I.tuple hq
    have hlen := r'.length
    exact len_tuple pl (by simp only [List.size_toArray] <;> omega) ⟨.int ys.length, H, I.tok _, ⟨s.toks + 1, by rw [List.size_toArray, hlen]⟩, q⟩
theorem call_list_of : CallR X (.type "list") (fun xs H Q => ∃ p ys, xs = [.ref p] ∧ (SqL X.K H p ys ∨ SqT X.K H p ys) ∧ ∀ l, H l = none → Q (.ref l) (upd H l (.lst ys))) := by
  intro pins s σ H xs us Q I r h
  obtain ⟨p, ys, rfl, hq, q⟩ := h
  obtain ⟨u, rfl, rx⟩ := vals1 r
  cases rx
  have fin : ∀ (its : List Value), Vals ys its → ys.length ≤ sizeLine → ∀ (h' : Heap) (c' : Nat), (∀ b o', s.heap.get? b = some o' → h'.get? b = some o') →
      h'.get? s.heap.objs.size = some { cls := .type "list", dict := none, data := .seq its.toArray c', slots := #[] } → EP X pins σ Q (.ref s.heap.objs.size) { s with heap := h' } := fun its r' hz h' c' kp e =>
    ⟨.ref s.heap.objs.size, _, I.laid (t' := s.toks) kp (Nat.le_refl _) (show ObjOk X.prog X.w _ h' _ (.lst ys) from ⟨hz, its, c', r', e⟩), rfl, q _ (I.hok.fresh (Nat.le_refl _))⟩
  rcases hq with hq | hq
  · obtain ⟨its, r', pl, hz⟩ := I.list hq
    have hlen := r'.length
    obtain ⟨o, ho, hc, n, hd⟩ := pl.isList
    exact call_list_seq p (.inl rfl) ho hc hd (fun h' c' kp e => fin its r' hz h' c' kp e) (by simp only [List.size_toArray] <;> omega)
  · obtain ⟨its, r', pl, hz⟩ := I.tuple hq
    have hlen := r'.length
    obtain ⟨o, ho, hc, n, hd⟩ := pl
    exact call_list_seq p (.inr rfl) ho hc hd (fun h' c' kp e => fin its r' hz h' c' kp e) (by simp only [List.size_toArray] <;> omega)

/-! ### the call of a builtin's method: o.m(..) -/
/-- the value is of that builtin type -/
def tyV (K : PySem.W.Frag) (T : String) (x : V) (H : Hp) : Prop := match x with
  | .str _ => T = "str"
  | .int _ => T = "int"
  | .ref p => (T = "list" ∧ ∃ xs, SqL K H p xs) ∨ (T = "tuple" ∧ ∃ o, K.lookup p = some o ∧ o.cls = .type "tuple" ∧ o.dict = none) ∨
      (T = "dict" ∧ ((∃ kvs, H p = some (.dK kvs)) ∨ ∃ kvs, H p = some (.dT kvs))) ∨ (T = "set" ∧ ∃ S n, H p = some (.set S n))
  | _ => False
theorem tyV_is {pins : List (Addr × Obj)} {σ : St} {H : Hp} {s : Shared} {T : String} {x : V} {v : Value} (I : Inv X pins σ H s) (r : RelV x v) (ty : tyV X.K T x H) :
    s.TypeIs v T ∧ ∀ a, v = .ref a → ∃ ob, s.heap.get? a = some ob ∧ ob.dict = none := by
  cases x with
  | str z =>
    obtain ⟨t, rfl⟩ := r
    cases (show T = "str" from ty)
    exact ⟨typeIs_str s z t, fun _ e => nomatch e⟩
  | int i =>
    obtain ⟨t, rfl⟩ := r
    cases (show T = "int" from ty)
    exact ⟨typeIs_int s i t, fun _ e => nomatch e⟩
  | ref p =>
    cases r
    rcases ty with ⟨rfl, xs, hq⟩ | ⟨rfl, o, hk, hc, hd⟩ | ⟨rfl, hk⟩ | ⟨rfl, S, n, hk⟩
    · obtain ⟨its, _, pl, _⟩ := I.list hq
      refine ⟨pl.isList.typeIs, fun a e => ?_⟩
      cases e
      obtain ⟨o, n, e, c, hd, _⟩ := pl
      exact ⟨o, e, hd⟩
    · refine ⟨⟨o, I.kIn p o hk, hc⟩, fun a e => ?_⟩
      cases e
      exact ⟨o, I.kIn _ o hk, hd⟩
    · have z : ∃ o, s.heap.get? p = some o ∧ o.ExactDict := by
        rcases hk with ⟨kvs, hk⟩ | ⟨kvs, hk⟩
        · obtain ⟨_, _, _, _, o, _, _, e, ex, _⟩ := I.hok p _ hk
          exact ⟨o, e, ex⟩
        · obtain ⟨_, _, _, _, o, _, _, e, ex, _⟩ := I.hok p _ hk
          exact ⟨o, e, ex⟩
      obtain ⟨o, e, ex⟩ := z
      refine ⟨⟨o, e, ex.1⟩, fun a e2 => ?_⟩
      cases e2
      exact ⟨o, e, ex.2.1⟩
    · obtain ⟨o, _, _, _, e, ex, _⟩ := I.hok p _ hk
      refine ⟨⟨o, e, ex.1⟩, fun a e2 => ?_⟩
      cases e2
      exact ⟨o, e, ex.2.1⟩
  | _ => exact False.elim ty
def tBM0 (K : PySem.W.Frag) (T : String) (r : V → List V → Hp → VK → Prop) (to : TE) : TE := fun σ H Q => to σ H fun x H1 => tyV K T x H1 ∧ r x [] H1 Q
def tBM (K : PySem.W.Frag) (T : String) (r : V → List V → Hp → VK → Prop) (to : TE) (t : TA) : TE := fun σ H Q => to σ H fun x H1 => tyV K T x H1 ∧ t σ H1 fun xs H2 => r x xs H2 Q
variable {o e : Expr} {es : List Expr} {to : TE} {t : TA} {name : Str} {apos cpos : Pos} {T id : String} {r : V → List V → Hp → VK → Prop}
theorem pe_bm0 (pa : PlainAttrs T) (slot : Slot T name id) (hty : typeOf (.builtin id) = pure (.type "method_descriptor")) (hm : MtR X id r) (ho : PE X o to)
    (hbase : attributeBase o name X.env (eval o X.env) = eval o X.env := by rfl) (hline : (apos.endLine == cpos.line) = true := by rfl) : PE X (.Call (.Attribute o name apos) [] [] cpos) (tBM0 X.K T r to) := by
  intro pins s σ H Q I h
  refine wpAny_Call_method0_late hbase hline (thn (ho pins s σ H _ I h) fun v s1 ⟨x, H1, I1, r1, ty, q1⟩ => ?_)
  obtain ⟨h1, h2⟩ := tyV_is I1 r1 ty
  exact ⟨T, id, pa, slot, hty, h1, h2, Calls.callWith_builtin rfl (PySem.evalArgs_none (hm pins s1 σ H1 x [] v [] Q I1 r1 .nil q1))⟩
theorem pe_bm (pa : PlainAttrs T) (slot : Slot T name id) (hty : typeOf (.builtin id) = pure (.type "method_descriptor")) (hm : MtR X id r) (ho : PE X o to) (ha : PA X (e :: es) t)
    (hbase : attributeBase o name X.env (eval o X.env) = eval o X.env := by rfl)
    (hfew : ((backTo cpos (starEach (e :: es) X.env)).all (fun x => !x.1) && (backToKw cpos (keywordEach [] X.env)).all (fun x => x.1.isSome)
      && decide ((e :: es).length + ([] : List Keyword).length + (if ([] : List Keyword).isEmpty then 0 else 1) < 30)) = true := by rfl)
    (hline : (apos.endLine == cpos.line) = true := by rfl) (hs : starEach (e :: es) X.env = (false, eval e X.env) :: starEach es X.env := by rfl) (hplain : (backTo cpos (starEach es X.env)).any (·.1) = false := by rfl) :
    PE X (.Call (.Attribute o name apos) (e :: es) [] cpos) (tBM X.K T r to t) := by
  intro pins s σ H Q I h
  refine wpAny_Call_method_late hbase hfew hline rfl (thn (ho pins s σ H _ I h) fun v s1 ⟨x, H1, I1, r1, ty, q1⟩ => ?_)
  obtain ⟨h1, h2⟩ := tyV_is I1 r1 ty
  refine ⟨T, id, pa, slot, hty, h1, h2, ?_⟩
  have hA := ha cpos pins s1 σ H1 _ I1 q1
  rw [hs] at hA ⊢
  refine Calls.callWith_builtin (by show (false || (backTo cpos (starEach es X.env)).any (·.1)) = false; rw [hplain] <;> rfl) (Calls.evalArgs_plain ?_)
  exact thn hA fun us s2 ⟨vs, H2, I2, r2, q2⟩ => hm pins s2 σ H2 x vs v us Q I2 r1 r2 q2
/- xs.append(e), list.index on a module's tuple .. are MtR facts of 06m -/
end
end L2

namespace L2
open PySem PySem.Spec PyProof.Rows

def MtM (X : Cx) (id : String) (r : V → List V → Hp → VK → Prop) : Prop :=
  ∀ (pins : List (Addr × Obj)) (s : Shared) (σ : St) (H : Hp) (x : V) (xs : List V) (v : Value) (us : List Value) (Q : VK), Inv X pins σ H s → RelV x v → Vals xs us → r x xs H Q →
    wpAny (model X.prog X.w) X.A (call (.builtin id) (v :: us)) (EP X pins σ Q) X.xe s

/-! ### lists of values -/
theorem Vals.one : ∀ {x : V} {us : List Value}, Vals [x] us → ∃ u, us = [u] ∧ RelV x u
  | _, _, .cons r .nil => ⟨_, rfl, r⟩
theorem Vals.two : ∀ {x y : V} {us : List Value}, Vals [x, y] us → ∃ u v, us = [u, v] ∧ RelV x u ∧ RelV y v
  | _, _, _, .cons r (.cons q .nil) => ⟨_, _, rfl, r, q⟩
theorem Vals.zero : ∀ {us : List Value}, Vals [] us → us = []
  | _, .nil => rfl
theorem Vals.dropLast {xs : List V} {us : List Value} (h : Vals xs us) : Vals xs.dropLast us.dropLast := by
  induction h with
  | nil => exact .nil
  | cons r t ih =>
    cases t with
    | nil => exact .nil
    | cons q t' => exact .cons r ih
theorem Vals.rep {xs : List V} {us : List Value} (h : Vals xs us) : ∀ k : Nat, Vals (List.replicate k xs).flatten (List.replicate k us).flatten
  | 0 => .nil
  | k + 1 => by
    rw [List.replicate_succ, List.replicate_succ, List.flatten_cons, List.flatten_cons]
    exact Vals.append h (Vals.rep h k)
theorem erase_last {α : Type} (l : List α) : l.eraseIdx (l.length - 1) = l.dropLast := by
  induction l with
  | nil => rfl
  | cons a r ih =>
    cases r with
    | nil => rfl
    | cons b r =>
      have e : (a :: b :: r).length - 1 = ((b :: r).length - 1) + 1 := by
        have h1 : (a :: b :: r).length = r.length + 2 := rfl
        have h2 : (b :: r).length = r.length + 1 := rfl
        omega
      rw [e, List.eraseIdx_cons_succ, ih]
      all_goals rfl
theorem foldl_rep (its : List Value) : ∀ (k : Nat) (acc : List Value),
    List.foldl (fun x1 x2 => x1 ++ x2) acc.toArray (List.replicate k its.toArray) = (acc ++ (List.replicate k its).flatten).toArray
  | 0, acc => by simp
  | k + 1, acc => by
    have e : acc.toArray ++ its.toArray = (acc ++ its).toArray := by simp
    have e2 : (acc ++ its) ++ (List.replicate k its).flatten = acc ++ (List.replicate (k + 1) its).flatten := by
      rw [List.replicate_succ, List.flatten_cons, List.append_assoc]
    rw [← e2, ← foldl_rep its k (acc ++ its), ← e, List.replicate_succ, List.foldl_cons]

section
variable {X : Cx} {pins : List (Addr × Obj)} {σ : St} {H : Hp} {s : Shared} {l b : Addr} {xs ys zs : List V}

/-! ### the two steps: a tracked list is rewritten, a new list is laid -/
theorem Inv.lset {its its' : List Value} {n : Nat} {f : Array Value → Array Value} {t' : Nat} (I : Inv X pins σ H s) (hH : H l = some (.lst xs))
    (e : s.heap.get? l = some { cls := .type "list", data := .seq its.toArray n }) (hf : f its.toArray = its'.toArray) (hv : Vals ys its') (hz : ys.length ≤ sizeLine) :
    Inv X pins σ (upd H l (.lst ys)) { s with heap := s.heap.update l (Obj.mapSeq f), toks := t' } := by
  have q := PySem.IsL.update e f
  rw [hf] at q
  refine I.write (x := l) (e := l) (by rw [hH]; exact trivial) (.inl rfl) (fun b' u hb hu => (Heap.get?_update_other s.heap (Obj.mapSeq f) (Ne.symm hb)).trans hu) ⟨_, q⟩ ?_
  exact ⟨hz, its', _, hv, q⟩
theorem Inv.lnew {its : List Value} {t' : Nat} (I : Inv X pins σ H s) (hv : Vals ys its) (hz : ys.length ≤ sizeLine) :
    Inv X pins σ (upd H s.heap.objs.size (.lst ys)) { s with heap := s.heap.push { cls := .type "list", data := .seq its.toArray }, toks := t' } :=
  I.laid (fun _ _ q => Heap.get?_push_of_some _ q) (Nat.le_refl _) ⟨hz, its, 0, hv, Heap.get?_push_size _ rfl⟩
theorem Inv.fresh (I : Inv X pins σ H s) : H s.heap.objs.size = none := I.hok.fresh (Nat.le_refl _)
theorem Inv.lstM (I : Inv X pins σ H s) (hH : H l = some (.lst xs)) : xs.length ≤ sizeLine ∧ ∃ (its : List Value) (n : Nat), Vals xs its ∧ xs.length = its.length ∧ s.heap.get? l = some { cls := .type "list", data := .seq its.toArray n } := by
  obtain ⟨z, its, n, r, e⟩ := I.hok l _ hH
  exact ⟨z, its, n, r, r.length, e⟩

theorem notLongL {n : Nat} (h : n ≤ sizeLine) : Builtin.List.listTooLong n = false := by
  unfold Builtin.List.listTooLong
  exact decide_eq_false (by omega)
end

section
variable {X : Cx}

/-! ### methods -/
def rAppend : V → List V → Hp → VK → Prop := fun x vs H Q => ∃ l xs y, x = .ref l ∧ vs = [y] ∧ H l = some (.lst xs) ∧ xs.length < sizeLine ∧ Q .non (upd H l (.lst (xs ++ [y])))
theorem mt_append : MtM X "list.append" rAppend := by
  intro pins s σ H x vs v us Q I rx rv h
  obtain ⟨l, xs, y, rfl, rfl, hH, hz, q⟩ := h
  cases rx
  obtain ⟨u, rfl, ru⟩ := rv.one
  obtain ⟨z, its, n, r, hl, e⟩ := I.lstM hH
  refine call_meets F.slot_list_append ⟨_, e, rfl⟩ F.entry_list_append (F.args_list_append_2 _ _) (PySem.list_append l its.toArray n u (by rw [List.size_toArray]; omega)) ⟨e, ?_⟩
  refine ⟨.non, _, I.lset (its' := its ++ [u]) hH e (by simp) (r.append (.cons ru .nil)) ?_, rfl, q⟩
  rw [List.length_append, List.length_singleton]
  omega


def rPop : V → List V → Hp → VK → Prop := fun x vs H Q => ∃ l xs y, x = .ref l ∧ vs = [] ∧ H l = some (.lst xs) ∧ xs[xs.length - 1]? = some y ∧ Q y (upd H l (.lst xs.dropLast))
theorem mt_pop : MtM X "list.pop" rPop := by
  intro pins s σ H x vs v us Q I rx rv h
  obtain ⟨l, xs, y, rfl, rfl, hH, hy, q⟩ := h
  cases rx
  have hus := rv.zero
  subst hus
  obtain ⟨z, its, n, r, hl, e⟩ := I.lstM hH
  obtain ⟨u, hu, ru⟩ := r.get hy
  have hy' : its.toArray[its.toArray.size - 1]? = some u := by
    show its.toArray[its.length - 1]? = some u
    rw [← Array.getElem?_toList, ← hl]
    exact hu
  refine call_meets F.slot_list_pop ⟨_, e, rfl⟩ F.entry_list_pop (F.args_list_pop_1 _) (MeetsSeq.list_pop_last l its.toArray n u hy' (by rw [List.size_toArray]; omega)) ⟨e, ?_⟩
  refine ⟨y, _, I.lset (its' := its.dropLast) hH e ?_ r.dropLast ?_, ru, q⟩
  · show its.toArray.eraseIdxIfInBounds (its.toArray.size - 1) = its.dropLast.toArray
    rw [List.size_toArray, List.eraseIdxIfInBounds_toArray, erase_last]
  · rw [List.length_dropLast]
    omega




/-! ### list + list, list += list, list * int -/
def rCat : R2 := fun x y H Q => ∃ l b xs zs, x = .ref l ∧ y = .ref b ∧ H l = some (.lst xs) ∧ H b = some (.lst zs) ∧ xs.length + zs.length ≤ sizeLine ∧ ∀ p, H p = none → Q (.ref p) (upd H p (.lst (xs ++ zs)))
theorem op_cat : OpR X (binaryOp .Add) rCat := by
  intro pins s σ H x y v u Q I rx ry h
  obtain ⟨l, b, xs, zs, rfl, rfl, hH, hB, hz, q⟩ := h
  cases rx
  cases ry
  obtain ⟨z, its, n, r, hl, e⟩ := I.lstM hH
  obtain ⟨z2, its2, n2, r2, hl2, e2⟩ := I.lstM hB
  refine PySem.P.add_list e e2 ?_ (by rw [List.size_toArray, List.size_toArray]; omega)
  have ea : its.toArray ++ its2.toArray = (its ++ its2).toArray := by simp
  rw [ea]
  exact ⟨.ref _, _, I.lnew (t' := s.toks) (r.append r2) (by rw [List.length_append]; omega), rfl, q _ I.fresh⟩
/-- a list times an int (a negative one is nothing) -/
def rRep : R2 := fun x y H Q => ∃ l k xs, x = .ref l ∧ y = .int k ∧ H l = some (.lst xs) ∧ -(2 ^ 63) ≤ k ∧ k < 2 ^ 63 ∧ xs.length * k.toNat ≤ sizeLine ∧
  ∀ p, H p = none → Q (.ref p) (upd H p (.lst (List.replicate k.toNat xs).flatten))
theorem len_rep {α : Type} (xs : List α) (k : Nat) : (List.replicate k xs).flatten.length = k * xs.length := by
  induction k with
  | zero => simp
  | succ k ih => rw [List.replicate_succ, List.flatten_cons, List.length_append, ih, Nat.succ_mul, Nat.add_comm]
theorem op_rep : OpR X (binaryOp .Mult) rRep := by
  intro pins s σ H x y v u Q I rx ry h
  obtain ⟨l, k, xs, rfl, rfl, hH, h1, h2, hz, q⟩ := h
  cases rx
  obtain ⟨t, rfl⟩ := ry
  obtain ⟨z, its, n, r, hl, e⟩ := I.lstM hH
  have hlen : its.toArray.size * k.toNat ≤ sizeLine := by rw [List.size_toArray, ← hl]; exact hz
  have hcap : ¬ its.toArray.size * k.toNat > (2 ^ 63 - 1) / 8 := by
    have : (sizeLine : Nat) ≤ (2 ^ 63 - 1) / 8 := by decide
    omega
  have hfit : ¬ (!Builtin.List.listFitsIndex k) = true := by
    rw [fitsIndex_both h1 h2]
    exact Bool.false_ne_true
  have hlong : ¬ Builtin.List.listTooLong (its.toArray.size * k.toNat) = true := by
    rw [notLongL hlen]
    exact Bool.false_ne_true
  have hnew : List.foldl (fun x1 x2 => x1 ++ x2) #[] (List.replicate (if its.toArray.isEmpty = true then 0 else k.toNat) its.toArray) = (List.replicate k.toNat its).flatten.toArray := by
    have f0 : ∀ m : Nat, List.foldl (fun x1 x2 => x1 ++ x2) #[] (List.replicate m its.toArray) = (List.replicate m its).flatten.toArray := fun m => by
      have := foldl_rep its m []
      rw [List.nil_append] at this
      exact this
    rw [f0]
    cases its with
    | nil => simp
    | cons a r' => rw [if_neg (by simp)]
  refine wpAny_binaryOp_repeat_ref (T := "list") (U := "int") (by decide) ⟨_, e, rfl⟩ (fun s' => typeIs_int s' k t) noFill_list_mul F.fills_int_mul F.slot_int_rmul repeat_list F.slot_int_index.lookup
    (call_meets F.slot_int_rmul (typeIs_int s k t) F.entry_int_rmul (F.args_int_rmul_2 _ _) (int___rmul___int_list k t l its.toArray n)
      ⟨e, rfl, ⟨_, e, rfl⟩, call_meets F.slot_list_mul ⟨_, e, rfl⟩ F.entry_list_mul (F.args_list_mul_2 _ _) (AutoListH.list___mul___list_int_3 l its.toArray n k t hfit hcap hlong) ⟨e, ?_⟩⟩)
  rw [hnew]
  exact ⟨.ref _, _, I.lnew (t' := s.toks) (r.rep k.toNat) (by rw [len_rep, Nat.mul_comm]; exact hz), rfl, q _ I.fresh⟩

/-! ### del xs[i] -/
end

/-! ### xs[a:b] = ys -/
section
variable {prog : Program} {w : World} {A : Around} {E : Value → Shared → Prop} {s : Shared}
set_option maxRecDepth 100000 in
end

section
variable {X : Cx}
end
end L2

namespace Att
open PySem PySem.W PySem.Calls PyProof.Rows

/-! ### the script -/
theorem ints_of_wellAll {P : Params} {h : Heap} : ∀ (ns : List Int) (vs : List Value), WellAll P h vs (ns.map WData.int) → IntsAre vs ns := by
  intro ns
  induction ns with
  | nil =>
    intro vs w
    rw [List.map_nil] at w
    cases w
    exact .nil
  | cons n ns ih =>
    intro vs w
    rw [List.map_cons] at w
    cases w with
    | cons a b =>
      cases a
      exact .cons _ _ (ih _ b)

theorem script_of {l : OpenLaw} {n : Nat} (hn : l.most = some n) {P : Params} {h : Heap} {args : List WData} {vals : List Value}
    (hpre : l.row.toRowW.claim.pre args = true) (hwl : WellAll P h vals args) :
    ∃ a vs ns, vals = [Value.ref a] ∧ args = [WData.list (ns.map WData.int)] ∧ h.get? a = some { cls := .type "list", data := .seq vs.toArray } ∧ IntsAre vs ns ∧ ns.length ≤ n := by
  have hsh : WShape.hasAll [] args [.list .int] = true := (pre_splitW hpre).1
  have hc : l.pre.holds [] { args := args } = true := (pre_splitW hpre).2
  obtain ⟨d, r, rfl, h1, h2⟩ := hasAllW_cons hsh
  obtain rfl := hasAllW_nil h2
  obtain ⟨xs, rfl, h3⟩ := hasW_list h1
  obtain ⟨ns, rfl⟩ := items_int h3
  have hlen : ns.length ≤ n := by
    unfold OpenLaw.pre at hc
    have h4 : (WTm.not (.lt (.lit (.int (n : Int))) (.len (.arg 0)))).holds [] { args := [.list (ns.map .int)] } = true := by
      have h4 := (holds_andW hc).1
      rw [hn] at h4
      exact h4
    have h5 := condW_of h4 (w_not (w_lt w_lit (w_len_list (w_arg rfl))))
    rw [List.length_map] at h5
    refine Nat.le_of_not_lt fun q => ?_
    have q' : (n : Int) < ((ns.length : Nat) : Int) := by omega
    first
      | (rw [decide_eq_true q'] at h5; exact absurd h5 (by decide))
      | (simp at h5; omega)
  cases hwl with
  | cons w1 w2 =>
    cases w2
    cases w1 with
    | list ho hall => exact ⟨_, _, ns, rfl, rfl, ho, ints_of_wellAll ns _ hall, hlen⟩

theorem post_true (l : OpenLaw) (args : List WData) : l.row.toRowW.claim.post args (.bool true) args = true :=
  postW_of (r := l.row.toRowW) (X := (true == true))
    (show WShape.has [] (.bool true) .bool = true by first | rfl | decide | simp [WShape.has, WShape.arms, WShape.armsAll])
    (show (WTm.eq .res (.lit (.bool true))).value [] { args := args, res := some (.bool true), after := args } = some (.bool (true == true)) from w_eq_bool (w_res rfl) w_lit) rfl

/-! ### the attachment: holds_open's last premise (the goal 'hc' behind k_head) from a wpAny of the law's body -/

/-- the same from a codeAny of the CALL (for a layer whose function contracts speak of calls) -/
theorem attach_call {l : OpenLaw} {n : Nat} {q : Program} {loose : List Str} {XP : (Str → Option Value) → Heap → Prop} {YP : World → Heap → Prop} {d : DefRec}
    (hn : l.most = some n) (hdf : d.params.defaults = [])
    (call : ∀ (w : World) (s₀ s₁ : Shared) (mg mb : Str → Option Value) (fa : Addr) (o : Obj) (pm cd doc : Value) (a : Addr) (vs : List Value) (ns : List Int),
      Ground q loose [] XP w s₀ mg mb s₁.heap → YP w s₁.heap →
      s₁.heap.get? fa = some o → o.data = .func (docDef d.name d.params d.body d.scope pm cd doc) → s₁.heap.CodeRec cd d.name → mg d.name = some (.ref fa) →
      s₁.heap.get? a = some { cls := .type "list", data := .seq vs.toArray } → IntsAre vs ns → ns.length ≤ n → s₁.gens = #[] →
      codeAny (model l.prog w) callerA (.call (.ref fa) ⟨[.ref a], []⟩) (fun r s' => r = .ok (.ret (.bool true)) ∧ OldK s₁.heap s'.heap ∧ s'.os = s₁.os ∧ AllBare s'.gens) s₁) :
    WalkO q loose XP YP l.row.toRowW d [] (fun f vs => PySem.call f vs) := by
  intro w s₀ s₁ mg mb G Y fa o pm cd doc dV kV ho hd hcd hD hmg hg args vals as hpre hlay hrd hwl hlo
  obtain rfl : dV = .none := Dflts.none hD hdf
  obtain rfl : kV = .none := Dflts.noKw hD
  obtain ⟨a, vs, ns, rfl, rfl, hobj, hints, hlen⟩ := script_of hn hpre hwl
  refine enter_call (codeAny_mono (call w s₀ s₁ mg mb fa o pm cd doc a vs ns G Y ho (fd_plain hd) hcd hmg hobj hints hlen hg) fun r s' hq => ?_)
  obtain ⟨rfl, h2, h3, h4⟩ := hq
  exact ⟨.inl ⟨.bool true, .bool true, [], rfl, fun _ => rfl, .bool true, post_true l _, fun _ => ⟨List.Pairwise.nil, fun _ hm => (nomatch hm)⟩⟩, h2, h3, h4⟩


/-! ### rules over ANY heap (no ledger) from facts about the written part K: the library's own take a ledger (News) for what they write -/
section
variable {prog : Program} {w : World} {A : Around} {E : Value → Shared → Prop} {s : Shared} {K : Frag}





/-! the whole heap as the ledger: makes every rule that writes through a ledger a rule over any heap -/

end
end Att

namespace L2
open PySem PySem.Spec PyProof.Rows

theorem vals_ints : ∀ {vs : List Value} {ns : List Int}, IntsAre vs ns → Vals (ns.map V.int) vs
  | _, _, .nil => .nil
  | _, _, .cons n t h => .cons ⟨t, rfl⟩ (vals_ints h)

/-- nothing is tracked but the script, known to the object (or it is an object of the module) -/
def Only (H : Hp) : Prop := ∀ b, H b = none ∨ ∃ o xs, H b = some (.frz o (.lst xs))

/-- THE HEAD: the law's promise, at the heap behind the top. F, the promise of the law's def, may use that base is part of the heap (so K.In base, base.Ns mainGlobals mg stand in Mod) -/
theorem law_call {P : Program} {w : World} {K : PySem.W.Frag} {mg mb : Str → Option Value} {CX : CXT} {k : Nat} {fa a : Addr} {fd : FuncData} {x : Str} {sp : Sp} {s₁ : Shared} {vs : List Value} {ns : List Int}
    (KX : K.In s₁.heap) (hns : s₁.heap.Ns mainGlobals mg) (hb : s₁.heap.Ns builtinsNs mb) (hbb : ∀ x : Str, x ≠ "__name__" → mb x = bootBuiltins x) (hlim : s₁.heap.NoLimit) (hg : s₁.gens = #[])
    (ha : s₁.heap.get? a = some { cls := .type "list", data := .seq vs.toArray }) (hi : IntsAre vs ns) (hl : ns.length ≤ sizeLine) (hr : Room k callerA)
    (F : ∀ base : Heap, K.In base → base.Ns mainGlobals mg → FnOk P w K mg base CX k fa fd [x] sp) (hbind : ∀ (s : Shared) (u : Value), BindsTo s fd ⟨[u], []⟩ [(x, u)])
    (hsp : ∀ H : Hp, Only H → SqL K H a (ns.map V.int) → sp [.ref a] H (fun v _ => v = .bl true) fun _ _ _ => False)
    (hCX : ∀ H e s', CX [] H s₁ (fun _ _ _ => False) e s' → False) :
    codeAny (model P w) callerA (.call (.ref fa) ⟨[.ref a], []⟩) (fun r s' => r = .ok (.ret (.bool true)) ∧ OldK s₁.heap s'.heap ∧ s'.os = s₁.os ∧ AllBare s'.gens) s₁ := by
  have rv := vals_ints hi
  have lenV := hi.length
  -- from an abstract heap in which nothing but the script may be tracked
  have core : ∀ H : Hp, Only H → SqL K H a (ns.map V.int) → HOk P w H s₁.heap → (∀ b, H b ≠ none → b = a) → (H a ≠ none → K.lookup a = none) →
      codeAny (model P w) callerA (.call (.ref fa) ⟨[.ref a], []⟩) (fun r s' => r = .ok (.ret (.bool true)) ∧ OldK s₁.heap s'.heap ∧ s'.os = s₁.os ∧ AllBare s'.gens) s₁ := by
    intro H hO hS hok hA hK
    have base_of : ∀ {b : Addr} {o : Obj}, s₁.heap.get? b = some o → H b = none → (hidT s₁.heap H).get? b = some o := fun e n => hidT_get e n
    have noA : ∀ {b : Addr} {o : Obj} {es : Array DictEntry} {ep : Nat}, s₁.heap.get? b = some o → o.data = .dict es ep → H b = none := fun {b o es ep} e d => by
      cases q : H b with
      | none => rfl
      | some u =>
        have e' : b = a := hA b (by rw [q]; simp)
        subst e'
        rw [ha] at e; cases e
        have d' : Data.seq vs.toArray _ = Data.dict es ep := d
        cases d'
    have nsK : ∀ {b : Addr} {m : Str → Option Value}, s₁.heap.Ns b m → (hidT s₁.heap H).Ns b m := fun {b m} ⟨o, es, ep, e, d, r⟩ => ⟨o, es, ep, base_of e (noA e d), d, r⟩
    have hKb : K.In (hidT s₁.heap H) := fun b o e => base_of (KX b o e) (by
      cases q : H b with
      | none => rfl
      | some u =>
        have e' : b = a := hA b (by rw [q]; simp)
        subst e'
        rw [hK (by rw [q]; simp)] at e; cases e)
    have hM : Mod K mg (hidT s₁.heap H) := ⟨hKb, nsK hns, ⟨mb, nsK hb, hbb⟩, let ⟨mc, h1, h2⟩ := hlim; ⟨mc, nsK h1, h2⟩⟩
    have e0 : Env0 P w K mg (hidT s₁.heap H) callerA [] s₁ H := ⟨rfl, hM, fun b o e => of_hidT e, Nat.le_of_eq (hidT_size _ _), trivial, fun b hb => absurd (show b ∈ ([] : List Addr) from hb) (by simp), hok, .of_eq hg⟩
    refine codeAny_mono ((F _ hKb (nsK hns)).run callerA [] s₁ H ⟨[.ref a], []⟩ [.ref a] [.ref a] _ _ hr e0 (hbind s₁ (.ref a)) (.cons rfl .nil) (hsp H hO hS)) fun r s' h => ?_
    cases r with
    | error e => exact (hCX H e s' h).elim
    | ok fl =>
      cases fl with
      | next => exact False.elim h
      | brk => exact False.elim h
      | cont => exact False.elim h
      | ret u =>
        obtain ⟨v, H', os, bare, un, hok', r', q⟩ := h
        have q' : v = .bl true := q
        subst q'
        obtain rfl : u = Value.bool true := r'
        refine ⟨rfl, OldK.of_keep fun b o e => ?_, os, bare⟩
        cases q : H b with
        | none => exact un.keep b o e q (by intro z; exact absurd (show b ∈ ([] : List Addr) from z) (by simp)) (by simp)
        | some u =>
          rcases hO b with z | ⟨ob, xs, z⟩
          · rw [q] at z; cases z
          · have z2 := un.frzs b ob _ z
            obtain ⟨e1, _⟩ := hok b _ z
            obtain ⟨e2, _⟩ := hok' b _ z2
            rw [e] at e1; cases e1
            exact e2
  cases hk : K.lookup a with
  | some o =>
    -- the script is one of the module's own objects
    have e := KX a o hk
    rw [ha] at e
    cases e
    refine core (fun _ => none) (fun _ => .inl rfl) (.inr ⟨_, vs.toArray, _, hk, rfl, rfl, rfl, by rw [List.size_toArray, lenV]; exact hl, by simpa using rv⟩) (fun b u z => by have z' : (none : Option HO) = some u := z; cases z') (fun b z => absurd rfl z) fun z => absurd rfl z
  | none =>
    refine core (fun b => if b = a then some (.frz { cls := .type "list", data := .seq vs.toArray } (.lst (ns.map V.int))) else none) (fun b => ?_) (.inl (.inr ⟨{ cls := .type "list", data := .seq vs.toArray }, if_pos rfl⟩)) (fun b u z => ?_) (fun b z => ?_) fun _ => hk
    · by_cases hb : b = a
      · exact .inr ⟨_, _, if_pos hb⟩
      · exact .inl (if_neg hb)
    · by_cases hb : b = a
      · have z' := (if_pos hb).symm.trans z
        cases z'
        subst hb
        exact ⟨ha, by rw [List.length_map]; exact hl, vs, _, rv, ha⟩
      · have z' := (if_neg hb).symm.trans z
        cases z'
    · by_cases hb : b = a
      · exact hb
      · exact absurd (if_neg hb) z
end L2

namespace L2
open PySem PySem.Spec PyProof.Rows


/-- the goal that k_head leaves (case hc), from the law's promise. F gives the function object fd (K's own) once, then the promise over every base -/
theorem walk_of {l : PySem.W.OpenLaw} {n k : Nat} {q : Program} {loose : List Str} {XP : (Str → Option Value) → Heap → Prop} {YP : World → Heap → Prop} {d : DefRec} {K : Params → PySem.W.Frag} {CX : World → CXT} {sp : World → Sp} {x : Str}
    (hn : l.most = some n) (hn2 : n ≤ sizeLine) (hdf : d.params.defaults = []) (hr : Room k callerA)
    (hY : ∀ (w : World) (h : Heap), YP w h → (K w.params).In h)
    (F : ∀ (w : World) (mg : Str → Option Value) (fa : Addr) (h : Heap), (K w.params).In h → h.Ns mainGlobals mg → mg d.name = some (.ref fa) →
      ∃ fd : FuncData, (∀ (s : Shared) (u : Value), BindsTo s fd ⟨[u], []⟩ [(x, u)]) ∧
        ∀ base : Heap, (K w.params).In base → base.Ns mainGlobals mg → FnOk l.prog w (K w.params) mg base (CX w) k fa fd [x] (sp w))
    (hsp : ∀ (w : World) (H : Hp) (a : Addr) (ns : List Int), ns.length ≤ n → Only H → SqL (K w.params) H a (ns.map V.int) → sp w [.ref a] H (fun v _ => v = .bl true) fun _ _ _ => False)
    (hCX : ∀ (w : World) (H : Hp) (s : Shared) (e : Value) (s' : Shared), CX w [] H s (fun _ _ _ => False) e s' → False) :
    PySem.W.WalkO q loose XP YP l.row.toRowW d [] (fun f vs => PySem.call f vs) := by
  refine Att.attach_call hn hdf fun w s₀ s₁ mg mb fa o pm cd doc a vs ns G Y ho hd hcd hmg hobj hints hlen hg => ?_
  have KX := hY w _ Y
  obtain ⟨fd, hb, hF⟩ := F w mg fa _ KX G.T.g hmg
  exact law_call KX G.T.g G.T.b G.T.builtins G.T.nolimit hg hobj hints (Nat.le_trans hlen hn2) hr hF hb (fun H hO hS => hsp w H a ns hlen hO hS) fun H e s' => hCX w H s₁ e s'
end L2

/- THE LAST THEOREM (shape; LID, My.* are yours):
   My.Adr: a structure of the addresses that your layer names (classes, functions); My.Txt K t: a structure (Prop) of the equations over K;
   My.txt_mk : {K} {implicit addresses ..} (e1 : nsIn K mainGlobals "law" = some (some (.ref f))) (e2 : K.lookup f = some ⟨oc, od, .func (fnOf "law" "law" params body scope dV kV doc pm an cdv ct), sl⟩) (e3 : codeIn K cdv "law" = true) .. : ∃ t, My.Txt K t

set_option maxRecDepth 100000 in
set_option maxHeartbeats 0 in
theorem PySem.Challenge.cw_LID_holds : PySem.Challenge.rw_LID.Holds := by
  w_on; o_law; k_head; (case hw => w_witness2)
  k_fill
  refine L2.walk_of (l := PySem.Challenge.rw_LID) (n := 63) (k := 40) (x := "script") (CX := fun w => ..) (sp := fun _ => My.sp_law) rfl (by decide) rfl ⟨rfl, by decide, by decide⟩ (fun w h Y => PySem.W.kIn_of Y) ?F ?S ?C
  case F =>
    intro w mg fa h KX G hmg
    have T : ∃ t, My.Txt (L2.KOf KX) t := by
      dsimp only [L2.KOf]                          -- K must stand as «<heap const> w.params» for k_is
      refine' My.txt_mk ?e1 ?e2 ?e3 ..
      (case e1 => PySem.W.k_is)                    -- in the order: a name -> its address -> its object -> its parts
      (case e2 => PySem.W.k_is)
      ..
    obtain ⟨t, T⟩ := T
    have e0 := hmg.symm.trans (PySem.W.mg_of KX G T.law)
    cases e0                                       -- fa is the law's own address
    exact ⟨_, fun s u => .of_eq rfl, fun base kb nb => My.law_fn T kb nb⟩     -- if «.of_eq rfl» comes too early: refine' ⟨_, ?b, fun base kb nb => My.law_fn T kb nb⟩; exact fun s u => .of_eq rfl
  case S => exact fun w H a ns hl hO hS => ..
  case C => exact ..
(the tactic k_is has no namespace: write k_is) -/

/-! SHORT WORDS over the layer: a def of the text, its body, what a loop and a test want. -/
namespace L2
open PySem PySem.Spec PyProof.Rows

/-! ### the text by places -/
/-- the j-th statement of a class's body -/
def inClass (s : Stmt) (j : Nat) : Stmt := match s with
  | .ClassDef _ _ _ body _ _ _ _ _ _ _ => body.getD j (.Pass ⟨0, 0, 0, 0⟩)
  | _ => .Pass ⟨0, 0, 0, 0⟩
def defArgs (s : Stmt) : Arguments := match s with
  | .FunctionDef _ a _ _ _ _ _ _ _ _ => a
  | _ => { posonlyargs := [], args := [], vararg := none, kwonlyargs := [], kw_defaults := [], kwarg := none, defaults := [] }
def defBody (s : Stmt) : List Stmt := match s with
  | .FunctionDef _ _ b _ _ _ _ _ _ _ => b
  | _ => []
def defScope (s : Stmt) : Scope := match s with
  | .FunctionDef _ _ _ _ _ _ sc _ _ _ => sc
  | _ => { kind := .function, names := [], isGenerator := false, isCoroutine := false }

/-! ### no exception leaves a def -/

/-! ### a def (or method) of the text as it stands behind the top -/
structure Fun (K : PySem.W.Frag) (x qual : Str) (st : Stmt) (f : Addr) (fd : FuncData) : Prop where
  ex : ∃ (oc : Value) (od : Option Addr) (kV doc pm : Value) (an : Option Addr) (cdv ct : Value) (osl : Array (Option Value)),
    fd = PySem.W.fnOf x qual (defArgs st) (defBody st) (defScope st) .none kV doc pm an cdv ct ∧ K.lookup f = some ⟨oc, od, .func fd, osl⟩ ∧ PySem.W.codeIn K cdv qual = true
  kp : PySem.W.keepIn K (.ref f) = true
section
variable {P : Program} {w : World} {K : PySem.W.Frag} {mg : Str → Option Value} {base : Heap}
/-- how its arguments bind (no defaults): h is «fun _ _ _ _ _ _ us hl => match us, hl with | [_, _], _ => rfl», one _ a parameter -/
theorem Fun.binds {x qual : Str} {st : Stmt} {f : Addr} {fd : FuncData} {ps : List Str} (F : Fun K x qual st f fd)
    (h : ∀ (kV doc pm : Value) (an : Option Addr) (cdv ct : Value) (us : List Value), us.length = ps.length → bindArgs (PySem.W.fnOf x qual (defArgs st) (defBody st) (defScope st) .none kV doc pm an cdv ct) ⟨us, []⟩ = pure (ps.zip us)) : Binds K fd ps [] := by
  obtain ⟨oc, od, kV, doc, pm, an, cdv, ct, osl, rfl, lk, hcd⟩ := F.ex
  exact .all (h kV doc pm an cdv ct)
theorem fun_mk {x qual : Str} {st : Stmt} {f : Addr} {oc : Value} {od an : Option Addr} {osl : Array (Option Value)} {kV doc pm cdv ct : Value} (l : K.lookup f = some ⟨oc, od, .func (PySem.W.fnOf x qual (defArgs st) (defBody st) (defScope st) .none kV doc pm an cdv ct), osl⟩)
    (c : PySem.W.codeIn K cdv qual = true) (k : PySem.W.keepIn K (.ref f) = true) : Fun K x qual st f (PySem.W.fnOf x qual (defArgs st) (defBody st) (defScope st) .none kV doc pm an cdv ct) := ⟨⟨oc, od, kV, doc, pm, an, cdv, ct, osl, rfl, l, c⟩, k⟩
end

/-! ### expressions in short: the name that stands in the i-th slot -/
section
variable {X : Cx}
theorem pv (i : Nat) {x : Str} {pos : Pos} (hN : X.N[i]? = some x := by rfl) (hv : Vis X.env.scope x := by first | exact Or.inl rfl | exact Or.inr (Or.inl rfl) | exact Or.inr (Or.inr rfl)) (hd : (x == ("__debug__" : Str)) = false := by decide)
    (hcd : (x == ("__classdict__" : Str)) = false := by decide) : PE X (.Name x pos) (tVar i) := pe_var hN hv hd hcd
end

/-! ### tests -/
theorem iteF {A B : Prop} (h : B) : if false = true then A else B := by
  rw [if_neg Bool.false_ne_true]
  exact h
theorem iteT {A B : Prop} (h : A) : if true = true then A else B := by
  rw [if_pos rfl]
  exact h
theorem ite2 {c A B : Prop} [Decidable c] (h1 : c → A) (h2 : ¬ c → B) : if c then A else B := by
  by_cases h : c
  · rw [if_pos h]
    exact h1 h
  · rw [if_neg h]
    exact h2 h
theorem iteNS {c A B : Prop} [Decidable c] (hc : c) (h : B) : if (!decide c) = true then A else B := by
  rw [decide_eq_true hc]
  exact iteF h

/-! ### heaps -/
/-- all that was tracked is as it was -/
def Same (H H' : Hp) : Prop := ∀ b o, H b = some o → H' b = some o
theorem Same.refl (H : Hp) : Same H H := fun _ _ h => h
theorem Same.trans {H H1 H2 : Hp} (a : Same H H1) (b : Same H1 H2) : Same H H2 := fun c o h => b c o (a c o h)
theorem Same.free {H H' : Hp} (e : Same H H') {l : Addr} (h : H' l = Option.none) : H l = Option.none := by
  cases q : H l with
  | none => rfl
  | some o =>
    rw [e l o q] at h
    cases h

end L2

set_option Elab.async false
set_option linter.all false
set_option maxRecDepth 100000
set_option maxHeartbeats 4000000
/-! EXCEPTIONS over the hand layer: an own exception raised in a def, passing through defs, caught by a try of a caller. -/
namespace L2
open PySem PySem.Spec PyProof.Rows

section
variable {P : Program} {w : World} {H : Hp} {h : Heap} {a : Addr} {o : HO}
/-- what is tracked stands in B: then B's heirs hold it too -/
theorem HOk.heir {B h1 h2 : Heap} {H' : Hp} (ok : HOk P w H' h1) (k3 : ∀ b o, H' b = some o → ∃ ob, B.get? b = some ob) (s1 : B.StaysIn h1) (s2 : B.StaysIn h2) : HOk P w H' h2 := fun b o e =>
  (ok b o e).stay (fun c u hc q => by
    have hk : ∃ ob, B.get? c = some ob := by
      rcases hc with z | z
      · subst z; exact k3 _ _ e
      · exact k3 _ _ z
    obtain ⟨ob, eo⟩ := hk
    have z1 := s1 _ _ eo
    rw [q] at z1; cases z1
    exact s2 _ _ eo) (fun _ q => q) fun _ _ q => q
end

/-- how an own exception lies behind a call: it flies towards the callers; the callers' objects stand in a heap B that is kept whatever is noted in its trace -/
def CXs (P : Program) (w : World) : CXT := fun outer H s E e s' =>
  ∃ (a : Addr) (cls a0 : Value) (H' : Hp) (B : Heap), e = .ref a ∧ s'.os = s.os ∧ AllBare s'.gens ∧ Un (frs outer) [] H H' s.heap s'.heap ∧ HOk P w H' s'.heap ∧
    Heap.FlyingW B outer a cls a0 s'.heap ∧ (∀ b o, s.heap.get? b = some o → H b = none → b ∉ frs outer → B.get? b = some o) ∧
    (∀ b o, s.heap.get? b = some o → b ∉ frs outer → ∃ o', B.get? b = some o') ∧ (∀ b o, H' b = some o → ∃ ob, B.get? b = some ob) ∧ E cls none H'

theorem mem_frs {env : Env} {outer : List Env} {L b : Addr} (hf : env.frame = some L) (hb : b ∈ frs (env :: outer)) : b = L ∨ b ∈ frs outer := by
  unfold frs at hb
  rw [List.filterMap_cons, hf] at hb
  exact List.mem_cons.mp hb


section
variable {P : Program} {w : World} {K : PySem.W.Frag} {mg : Str → Option Value} {base : Heap} {N : List Str} {qual : Str} {scope : Scope} {f : Addr} {cd : Value} {A : Around} {outer : List Env} {s0 : Shared} {H0 : Hp} {E : XK}

/-- a callee's exception passes through a def -/
theorem pass_on : Passes (CXs P w) (cxOf (CXs P w) P w K mg base N qual scope f cd A outer s0 H0 E) E := by
  intro pins σ H s e s' I h
  obtain ⟨a, cls, a0, H', B, rfl, ho, hb, hu, hok, hfl, k1, k2, k3, hE⟩ := h
  have hfr : (A.deeper (envOfC qual scope s0.heap.objs.size f cd)).frames = some (envOfC qual scope s0.heap.objs.size f cd :: outer) := I.ok.frames
  have I0 : Un (frs outer) [] H0 H s0.heap s.heap := I.base
  have abv : s0.heap.objs.size ≤ s0.heap.objs.size := Nat.le_refl _
  have nL : ∀ {b o}, s0.heap.get? b = some o → b ∉ frs outer → b ∉ frs (envOfC qual scope s0.heap.objs.size f cd :: outer) := fun {b o} e hb hm => by
    rcases mem_frs (L := s0.heap.objs.size) rfl hm with z | z
    · rw [z] at e; exact absurd (Heap.lt_size e) (Nat.lt_irrefl _)
    · exact hb z
  show wpAny (model P w) (A.deeper (envOfC qual scope s0.heap.objs.size f cd)) (leaving (envOfC qual scope s0.heap.objs.size f cd) (.ref a)) _ _ s'
  refine wpAny_leaves_onW hfr rfl hfl fun h' hfl' hsm => ?_
  have K1 : ∀ b o, s0.heap.get? b = some o → H0 b = none → b ∉ frs outer → B.get? b = some o := fun b o e n hb => k1 b o (I0.keep b o e n hb (by simp)) (I0.free b o e n (by simp)) (nL e hb)
  have K2 : ∀ b o, s0.heap.get? b = some o → b ∉ frs outer → ∃ o', B.get? b = some o' := fun b o e hb => by
    obtain ⟨o', e1⟩ := I0.there b o e (by simp)
    exact k2 b o' e1 (nL e hb)
  have sub : ∀ b ∈ frs outer, b ∈ frs (envOfC qual scope s0.heap.objs.size f cd :: outer) := fun b hb => by
    unfold frs at hb ⊢
    rw [List.filterMap_cons]
    exact List.mem_cons_of_mem _ hb
  have U : Un (frs (envOfC qual scope s0.heap.objs.size f cd :: outer)) [] H0 H' s0.heap s'.heap := (I0.mono sub (fun _ z => z)).trans hu
  have up : ∀ b ∈ frs outer, ∀ o, s'.heap.get? b = some o → ∃ sl, h'.get? b = some { o with slots := sl } := fun b hb o e => by
    obtain ⟨_, o', e', hd⟩ := hfl.2.2.1.mem (sub b hb)
    rw [e] at e'; cases e'
    exact hsm b o e hd
  have U' : Un (frs outer) [] H0 H' s0.heap h' := by
    refine ⟨fun b o e n hb _ => hfl'.1 _ _ (K1 b o e n hb), fun b o e n hb hx => ?_, U.free, fun b o e hx => ?_, U.tups, U.frzs, U.tbls⟩
    · obtain ⟨sl, e1⟩ := U.slot b o e n (sub b hb) hx
      obtain ⟨sl2, e2⟩ := up b hb _ e1
      exact ⟨sl2, e2⟩
    · by_cases hb : b ∈ frs outer
      · obtain ⟨o', e1⟩ := U.there b o e hx
        obtain ⟨sl, e2⟩ := up b hb _ e1
        exact ⟨_, e2⟩
      · obtain ⟨o', e1⟩ := K2 b o e hb
        exact ⟨o', hfl'.1 _ _ e1⟩
  exact ⟨a, cls, a0, H', B, rfl, ho.trans I.os, hb, U', hok.heir k3 hfl.1 hfl'.1, hfl', K1, K2, k3, hE⟩


end
end L2

set_option Elab.async false
set_option linter.all false
set_option maxRecDepth 100000
set_option maxHeartbeats 4000000
namespace L2
open PySem PySem.Spec PyProof.Rows

/-! ### raise C(e, ..) of an own class -/

section
variable {X : Cx} {x : Str} {np cpos pos : Pos} {e : Expr} {es : List Expr} {ta : TA} {E : XK} {C : Addr} {bmB : List Value} {B newId initId : String}
end

/-! ### f'..{n}..' of an int of few figures -/
section
variable {X : Cx} {e : Expr} {es : List Expr} {te : TE} {t : TJ} {pos : Pos}
end

/-! ### try: .. except C: .. -/

section
variable {X : Cx} {pins pins' : List (Addr × Obj)} {σ : St} {H : Hp} {s : Shared} {D : Ends} {hs : List ExceptHandler} {a : Addr}
end


/-! ### a call whose exception's wish hangs on the state at the call -/
section
variable {X : Cx} {CX : CXT} {k : Nat} {f : Addr} {fd : FuncData} {ps : List Str} {sp : Sp} {dvs : List V} {ds : List Value} {E : St → XK} {x : Str} {p pos : Pos} {e : Expr} {es : List Expr} {t : TA}
end

section
variable {X : Cx} {pins : List (Addr × Obj)} {σ : St} {H H' : Hp} {s s' : Shared} {a : Addr} {cls a0 : Value} {B h6 : Heap}
end

end L2

set_option Elab.async false
set_option linter.all false
set_option maxRecDepth 100000
set_option maxHeartbeats 4000000
namespace L2
open PySem PySem.Spec PyProof.Rows PySem.W

/-! ### isinstance(e, C) of an exception of an own class -/
section
variable {prog : Program} {w : World} {A : Around} {E : Value → Shared → Prop} {h : Heap} {g : Array GenState} {d : Drawn} {t : Nat} {os : OsState} {a C : Addr} {o : Obj} {K : Frag}





end



/-- isinstance(x, c), c one class -/
def clsV : V → Option Value
  | .ty n => some (.type n)
  | .ref C => some (.ref C)
  | _ => none
theorem clsV_rel {c : V} {v cv : Value} (r : RelV c v) (e : clsV c = some cv) : v = cv := by
  cases c <;> first | (cases e; done) | skip
  · have r' : v = Value.ref _ := r
    cases e; exact r'
  · have r' : v = Value.type _ := r
    cases e; exact r'
def rIsi (K : Frag) : List V → Hp → VK → Prop := fun vs H Q => ∃ x c cv t b, vs = [x, c] ∧ clsV c = some cv ∧ TyOf K H x t ∧ kitOne K t cv = some b ∧ Q (.bl b) H
theorem call_isi {X : Cx} : CallR X (.builtin "isinstance") (rIsi X.K) := by
  intro pins s σ H xs us Q I r h
  obtain ⟨x, c, cv, t, b, rfl, rc, ty, e, q⟩ := h
  obtain ⟨u, v, rfl, r1, r2⟩ := r.two
  obtain rfl := clsV_rel r2 rc
  exact isinst_ok I r1 ty e fun tk => ⟨.bl b, H, I.tok _, rfl, q⟩

/-! ### except C as n: .. -/
section
variable {X : Cx} {pins : List (Addr × Obj)} {σ : St} {H : Hp} {s : Shared} {M : Model} {A : Around} {E : Value → Shared → Prop}
end


end L2

set_option Elab.async false
set_option linter.all false
set_option maxRecDepth 100000
set_option maxHeartbeats 4000000
namespace L2
open PySem PySem.Spec PyProof.Rows

/-! ### xs.insert(i, y) within the list -/

/-! ### for i, x in enumerate(a list) -/


section
variable {X : Cx} {elts : List Expr} {x1 : Nat} {tpos : Pos}
end

/-! ### a def of the text that may raise -/
section
variable {P : Program} {w : World} {K : PySem.W.Frag} {mg : Str → Option Value} {base : Heap}
theorem Fun.okX {x qual : Str} {st : Stmt} {f : Addr} {fd : FuncData} {N ps : List Str} {k : Nat} {sp : Sp} (F : Fun K x qual st f fd) (S : FnScope N ps (defScope st)) (len : ∀ vs H Q E, sp vs H Q E → vs.length = ps.length)
    (hbody : ∀ (cdv : Value) (A : Around) (outer : List Env) (s : Shared) (H : Hp) (vs : List V) (Q : VK) (E : XK), Room k (A.deeper (envOfC qual (defScope st) s.heap.objs.size f cdv)) → sp vs H Q E →
      ∃ t, PSs (cxOf (CXs P w) P w K mg base N qual (defScope st) f cdv A outer s H E) (defBody st) t ∧ t { nx := fun _ H' => Q .non H', rt := Q } (start N vs) H) : FnOk P w K mg base (CXs P w) (k + 1) f fd ps sp := by
  obtain ⟨oc, od, kV, doc, pm, an, cdv, ct, osl, rfl, lk, hcd⟩ := F.ex
  exact fn_of lk hcd S len fun A outer s H vs Q E hr hsp => hbody cdv A outer s H vs Q E hr hsp
end
end L2

set_option Elab.async false
set_option linter.all false
set_option maxRecDepth 100000
set_option maxHeartbeats 4000000
namespace L2
open PySem PySem.Spec PyProof.Rows PySem.W

/-! ### lists compared -/
section
variable {X : Cx}
def rNeN (K : Frag) : R2 := fun x y H Q => ∃ a b xs, x = .ref a ∧ y = .ref b ∧ SqL K H a xs ∧ SqL K H b [] ∧ Q (.bl (!xs.isEmpty)) H
theorem op_neN (hu : X.A.units < cLine) : OpR X (compareOp .NotEq) (rNeN X.K) := by
  intro pins s σ H x y v u Q I rx ry h
  obtain ⟨a, b, xs, rfl, rfl, ha, hb, q⟩ := h
  cases rx; cases ry
  obtain ⟨i1, r1, p1, z1⟩ := I.list ha
  obtain ⟨i2, r2, p2, z2⟩ := I.list hb
  cases r2
  cases xs with
  | nil =>
    cases r1
    exact SeqAt.RcNeAt.lists (e := fun _ => true) p1.isList p2.isList rfl hu (fun j h1 _ => absurd h1 (Nat.not_lt_zero _)) _ _ _ _ ⟨.bl false, H, I, rfl, q⟩
  | cons x r =>
    cases r1 with
    | cons r0 rt => exact SeqAt.RcNeAt.lists_lengths p1.isList p2.isList (by simp) hu _ _ _ _ ⟨.bl true, H, I, rfl, q⟩
end

/-! ### isinstance(x, (T1, T2, ..)) -/
def clsVs : List V → Option (List Value)
  | [] => some []
  | c :: r => match clsV c, clsVs r with
    | some v, some vs => some (v :: vs)
    | _, _ => none
theorem clsVs_rel : ∀ {cs : List V} {us cvs : List Value}, Vals cs us → clsVs cs = some cvs → us = cvs
  | [], _, _, .nil, e => by cases e; rfl
  | c :: r, _, _, .cons r1 rt, e => by
    unfold clsVs at e
    split at e
    · rename_i v vs h1 h2
      cases e
      rw [clsV_rel r1 h1, clsVs_rel rt h2]
    · cases e
def rIsT (K : Frag) : List V → Hp → VK → Prop := fun vs H Q => ∃ x tp cs cvs t b, vs = [x, .ref tp] ∧ H tp = some (.tup cs) ∧ clsVs cs = some cvs ∧ TyOf K H x t ∧ kitAny K t cvs = some b ∧ Q (.bl b) H
theorem call_isT {X : Cx} : CallR X (.builtin "isinstance") (rIsT X.K) := by
  intro pins s σ H xs us Q I r h
  obtain ⟨x, tp, cs, cvs, t, b, rfl, htp, hc, ty, e, q⟩ := h
  obtain ⟨u, v, rfl, r1, r2⟩ := r.two
  cases r2
  obtain ⟨its, rv, p, _⟩ := I.tuple (SqT.of htp)
  obtain rfl := clsVs_rel rv hc
  obtain ⟨⟨oc, od, oda, osl⟩, ho, hcl, n, hd⟩ := p
  dsimp only at hcl hd
  subst hcl hd
  have fin : ∀ tk, EP X pins σ Q (.bool b) { s with toks := tk } := fun tk => ⟨.bl b, H, I.tok _, rfl, q⟩
  cases ty with
  | non => cases (show u = Value.none from r1); exact kia_tup kitx_none I.kIn True.intro ho e (fun z => nomatch z) fin
  | bl y => cases (show u = Value.bool y from r1); exact kia_tup kitx_bool I.kIn True.intro ho e (fun z => nomatch z) fin
  | int i => obtain ⟨t, q⟩ := (show ∃ t, u = Value.int i t from r1); cases q; exact kia_tup kitx_int I.kIn True.intro ho e (fun z => nomatch z) fin
  | str y => obtain ⟨t, q⟩ := (show ∃ t, u = Value.str y t from r1); cases q; exact kia_tup kitx_str I.kIn True.intro ho e (fun z => nomatch z) fin
  | flt y => obtain ⟨t, q⟩ := (show ∃ t, u = Value.float y t from r1); cases q; exact kia_tup kitx_float I.kIn True.intro ho e (fun z => nomatch z) fin
  | @lst a xs ea =>
    cases (show u = Value.ref a from r1)
    obtain ⟨_, _, n, _, h1⟩ := (show ObjOk X.prog X.w H s.heap a (.lst xs) from I.hok a _ ea)
    exact kia_tup kitx_list I.kIn ⟨_, h1, rfl⟩ ho e (fun z => nomatch z) fin
  | @frz a ob xs ea =>
    cases (show u = Value.ref a from r1)
    obtain ⟨_, _, _, n, _, h1⟩ := (show ObjOk X.prog X.w H s.heap a (.frz ob (.lst xs)) from I.hok a _ ea)
    exact kia_tup kitx_list I.kIn ⟨_, h1, rfl⟩ ho e (fun z => nomatch z) fin
  | @tup a xs ea =>
    cases (show u = Value.ref a from r1)
    obtain ⟨_, _, _, p⟩ := (show ObjOk X.prog X.w H s.heap a (.tup xs) from I.hok a _ ea)
    obtain ⟨o, h1, h2, _⟩ := p
    exact kia_tup kitx_tuple I.kIn ⟨o, h1, h2⟩ ho e (fun z => nomatch z) fin
  | @dK a kvs ea =>
    cases (show u = Value.ref a from r1)
    obtain ⟨_, _, vs, _, p⟩ := (show ObjOk X.prog X.w H s.heap a (.dK kvs) from I.hok a _ ea)
    obtain ⟨o, es, ep, h1, h2, _⟩ := p
    exact kia_tup kitx_dict I.kIn ⟨o, h1, h2.1⟩ ho e (fun z => nomatch z) fin
  | @dT a kvs ea =>
    cases (show u = Value.ref a from r1)
    obtain ⟨_, _, xs, _, o, es, ep, h1, h2, _⟩ := (show ObjOk X.prog X.w H s.heap a (.dT kvs) from I.hok a _ ea)
    exact kia_tup kitx_dict I.kIn ⟨o, h1, h2.1⟩ ho e (fun z => nomatch z) fin
  | @ins a C dx fs ea cl ha hn htk hm =>
    cases (show u = Value.ref a from r1)
    obtain ⟨mA, O, _⟩ := ins_get I.hok ea
    obtain ⟨od, J, _⟩ := O.look
    exact kia_tup (kitx_own (cl.get _) cl.hd ha hn htk hm) I.kIn J ho e (fun z => nomatch z) fin

/-! ### data: what a value and all that it holds looks like -/
inductive D where
  | int (i : Int) | str (x : Str) | bl (b : Bool) | non | lst (xs : List D) | tup (xs : List D)
mutual
def D.size : D → Nat
  | .lst xs => D.sizes xs + 1
  | .tup xs => D.sizes xs + 1
  | _ => 1
def D.sizes : List D → Nat
  | [] => 0
  | d :: r => D.size d + D.sizes r
end
inductive Rep (H : Hp) : V → D → Prop where
  | int (i : Int) : Rep H (.int i) (.int i)
  | str (x : Str) : Rep H (.str x) (.str x)
  | bl (b : Bool) : Rep H (.bl b) (.bl b)
  | non : Rep H .non .non
  | lst {a : Addr} {vs : List V} {ds : List D} (h : H a = some (.lst vs)) (hl : vs.length = ds.length) (hs : ∀ (i : Nat) v d, vs[i]? = some v → ds[i]? = some d → Rep H v d) : Rep H (.ref a) (.lst ds)
  | tup {a : Addr} {vs : List V} {ds : List D} (h : H a = some (.tup vs)) (hl : vs.length = ds.length) (hs : ∀ (i : Nat) v d, vs[i]? = some v → ds[i]? = some d → Rep H v d) : Rep H (.ref a) (.tup ds)
theorem Rep.mono {H H' : Hp} {v : V} {d : D} (s : Same H H') (r : Rep H v d) : Rep H' v d := by
  induction r with
  | int i => exact .int i
  | str x => exact .str x
  | bl b => exact .bl b
  | non => exact .non
  | lst h hl _ ih => exact .lst (s _ _ h) hl fun i v d h1 h2 => ih i v d h1 h2
  | tup h hl _ ih => exact .tup (s _ _ h) hl fun i v d h1 h2 => ih i v d h1 h2
theorem D.size_pos : ∀ d : D, 1 ≤ d.size
  | .int _ => Nat.le_refl _ | .str _ => Nat.le_refl _ | .bl _ => Nat.le_refl _ | .non => Nat.le_refl _
  | .lst xs => Nat.succ_le_succ (Nat.zero_le _)
  | .tup xs => Nat.succ_le_succ (Nat.zero_le _)
theorem D.sizes_len : ∀ ds : List D, ds.length ≤ D.sizes ds
  | [] => Nat.le_refl _
  | d :: r => by
    have h1 := D.size_pos d
    have h2 := D.sizes_len r
    show r.length + 1 ≤ D.size d + D.sizes r
    omega
theorem D.sizes_append : ∀ xs ys : List D, D.sizes (xs ++ ys) = D.sizes xs + D.sizes ys
  | [], ys => by show D.sizes ys = 0 + D.sizes ys; omega
  | d :: r, ys => by
    show D.size d + D.sizes (r ++ ys) = D.size d + D.sizes r + D.sizes ys
    rw [D.sizes_append r ys]; omega
end L2

set_option Elab.async false
set_option linter.all false
set_option maxRecDepth 100000
set_option maxHeartbeats 4000000
namespace L2
open PySem PySem.Spec PyProof.Rows PySem.W
section
variable {X : Cx}
end
end L2

set_option Elab.async false
set_option linter.all false
set_option maxRecDepth 100000
set_option maxHeartbeats 4000000
/-! == of two values of the same data: True. -/
namespace L2
open PySem PySem.Spec PyProof.Rows PySem.W
section
variable {X : Cx} {pins : List (Addr × Obj)} {σ : St} {H : Hp} {s : Shared}
end
end L2

set_option Elab.async false
set_option linter.all false
set_option maxRecDepth 100000
set_option maxHeartbeats 4000000
/-! LIST COMPREHENSIONS over the hand layer: [e for x in it], [e for x in it if c]; the element may name the def's variables. -/
namespace L2
open PySem PySem.Spec PyProof.Rows PySem.W

/-! ### the cells that a comprehension is handed -/
def clOf (cells : List (Str × Addr)) : List (Str × NameKind) → List (Str × Addr) → List (Str × Addr)
  | [], acc => acc
  | (n, k) :: r, acc => clOf cells r (if k == .free then (n, (cells.lookup n).getD 0) :: acc else acc)
theorem closure_go {env : Env} : ∀ (names : List (Str × NameKind)) (acc : List (Str × Addr)), (∀ n, (n, NameKind.free) ∈ names → ∃ c, env.cells.lookup n = some c) →
    (forIn (m := Sem) names acc fun x cs => if (x.2 == NameKind.free) = true then do let a ← cellOf env x.1; pure (ForInStep.yield ((x.1, a) :: cs)) else pure (ForInStep.yield cs)) = pure (clOf env.cells names acc)
  | [], acc, _ => rfl
  | (n, k) :: r, acc, h => by
    have ih := fun acc => closure_go r acc fun m hm => h m (List.mem_cons_of_mem _ hm)
    rw [List.forIn_cons]
    unfold clOf
    cases hk : (k == NameKind.free) with
    | true =>
      have e : k = .free := by simpa using hk
      subst e
      obtain ⟨c, hc⟩ := h n (List.Mem.head _)
      have : cellOf env n = pure c := by unfold cellOf; rw [hc]
      simp only [this, hc, hk, if_true, pure_bind, Option.getD_some]
      exact ih _
    | false =>
      simp only [hk, Bool.false_eq_true, if_false, pure_bind]
      exact ih _
theorem closureFor_eq {scope : Scope} {env : Env} (h : ∀ n, (n, NameKind.free) ∈ scope.names → ∃ c, env.cells.lookup n = some c) : closureFor scope env = pure (clOf env.cells scope.names []) := by
  have e := closure_go (env := env) scope.names [] h
  unfold closureFor
  first
    | (rw [show (forIn (m := Sem) scope.names ([] : List (Str × Addr)) fun x r => _) = _ from e]; rfl)
    | (simp only [] at e ⊢; rw [e]; rfl)
    | (erw [e]; rfl)
theorem clOf_sub {cells : List (Str × Addr)} : ∀ (names : List (Str × NameKind)) (acc : List (Str × Addr)) (x : Str) (c : Addr), (∀ n, (n, NameKind.free) ∈ names → ∃ c, cells.lookup n = some c) → (∀ y d, acc.lookup y = some d → cells.lookup y = some d) → (clOf cells names acc).lookup x = some c → cells.lookup x = some c
  | [], acc, x, c, _, ha, h => ha x c h
  | (n, k) :: r, acc, x, c, hn, ha, h => by
    unfold clOf at h
    refine clOf_sub r _ x c (fun m hm => hn m (List.mem_cons_of_mem _ hm)) (fun y d hy => ?_) h
    split at hy
    · rename_i hk
      have e : k = .free := by simpa using hk
      subst e
      obtain ⟨c', hc'⟩ := hn n (List.Mem.head _)
      rw [List.lookup_cons] at hy
      split at hy
      · rename_i hb
        have e' : y = n := by simpa using hb
        subst e'
        rw [hc'] at hy ⊢
        exact hy
      · exact ha y d hy
    · exact ha y d hy
theorem clOf_acc {cells : List (Str × Addr)} : ∀ (names : List (Str × NameKind)) (acc : List (Str × Addr)) (x : Str), (∃ c, acc.lookup x = some c) → ∃ c, (clOf cells names acc).lookup x = some c
  | [], acc, x, h => h
  | (n, k) :: r, acc, x, h => by
    unfold clOf
    refine clOf_acc r _ x ?_
    split
    · obtain ⟨c, hc⟩ := h
      rw [List.lookup_cons]
      split
      · exact ⟨_, rfl⟩
      · exact ⟨c, hc⟩
    · exact h
theorem clOf_has {cells : List (Str × Addr)} : ∀ (names : List (Str × NameKind)) (acc : List (Str × Addr)) (x : Str), (x, NameKind.free) ∈ names → ∃ c, (clOf cells names acc).lookup x = some c
  | [], _, _, h => nomatch h
  | (n, k) :: r, acc, x, h => by
    unfold clOf
    rcases List.mem_cons.mp h with z | z
    · cases z
      refine clOf_acc r _ _ ⟨(cells.lookup n).getD 0, ?_⟩
      rw [if_pos (by decide), List.lookup_cons]
      simp
    · exact clOf_has r _ x z
def rl (env : Env) : Str × NameKind → Str × NameKind := fun (n, k) => if (k == NameKind.free && env.scope.kind == .function && env.kindOf n == some .cell) then (n, NameKind.cell) else (n, k)
theorem rl_pos {env : Env} {n : Str} {k : NameKind} (h : (k == NameKind.free && env.scope.kind == .function && env.kindOf n == some .cell) = true) : rl env (n, k) = (n, NameKind.cell) := if_pos h
theorem rl_neg {env : Env} {n : Str} {k : NameKind} (h : ¬ (k == NameKind.free && env.scope.kind == .function && env.kindOf n == some .cell) = true) : rl env (n, k) = (n, k) := if_neg h
theorem relabel_back {env : Env} : ∀ (names : List (Str × NameKind)) (x : Str), (∀ y ∈ names, y.2 ≠ .cell) →
    ((names.map (rl env)).lookup x = some .cell ∨ (names.map (rl env)).lookup x = some .free) → names.lookup x = some .free
  | [], x, _, h => by rcases h with h | h <;> cases h
  | (n, k) :: r, x, hc, h => by
    have ih := relabel_back (env := env) r x fun y hy => hc y (List.mem_cons_of_mem _ hy)
    have hk : k ≠ .cell := hc (n, k) (List.Mem.head _)
    rw [List.map_cons] at h
    by_cases hb : (k == NameKind.free && env.scope.kind == .function && env.kindOf n == some .cell) = true
    · have e : k = .free := by
        simp only [Bool.and_eq_true, beq_iff_eq] at hb
        exact hb.1.1
      subst e
      rw [rl_pos hb] at h
      simp only [List.lookup_cons] at h ⊢
      cases hx : (x == n) with
      | true => rfl
      | false => simp only [hx] at h; exact ih h
    · rw [rl_neg hb] at h
      simp only [List.lookup_cons] at h ⊢
      cases hx : (x == n) with
      | true =>
        simp only [hx] at h
        rcases h with h | h
        · exact absurd (Option.some.inj h) hk
        · exact h
      | false => simp only [hx] at h; exact ih h
theorem relabel_free {env : Env} : ∀ (names : List (Str × NameKind)) (x : Str), names.lookup x = some .free →
    ((names.map (rl env)).lookup x = some .cell ∨ (names.map (rl env)).lookup x = some .free)
  | [], x, h => nomatch h
  | (n, k) :: r, x, h => by
    have ih := relabel_free (env := env) r x
    rw [List.map_cons]
    by_cases hb : (k == NameKind.free && env.scope.kind == .function && env.kindOf n == some .cell) = true
    · rw [rl_pos hb]
      simp only [List.lookup_cons] at h ⊢
      cases hx : (x == n) with
      | true => exact .inl rfl
      | false => simp only [hx] at h; exact ih h
    · rw [rl_neg hb]
      simp only [List.lookup_cons] at h ⊢
      cases hx : (x == n) with
      | true => simp only [hx] at h; exact .inr h
      | false => simp only [hx] at h; exact ih h

section
variable {prog : Program} {w : World} {A : Around} {R : Result → Shared → Prop} {s : Shared}
theorem codeAny_compLoop_go {elt target iter : Expr} {ifs : List Expr} {scope : Scope} {pos : Pos} {it acc : Value} {env : Env} (I : Nat → Shared → Prop)
    (turn : ∀ n s, I n s → wpAny (model prog w) A (pyNext it) (fun r s₁ => match r with
      | none => R (.ok .next) s₁
      | some v => wpAny (model prog w) A (letOwnedTupleGo target it v) (fun _ s₁' => wpAny (model prog w) A (assign target env v) (fun _ s₂ =>
          wpAny (model prog w) A (forIn ifs true fun c r => if r = true then do let ok ← isTrue c env (eval c env); pure (ForInStep.yield ok) else pure (ForInStep.yield r)) (fun ok s₃ =>
            if ok = true then wpAny (model prog w) A (eval elt env) (fun x s₄ =>
              wpAny (model prog w) A (call (.builtin "list.append") [acc, x]) (fun _ s₅ => ∃ m, m < n ∧ I m s₅) (fun _ _ => False) s₄) (fun _ _ => False) s₃
            else ∃ m, m < n ∧ I m s₃) (fun _ _ => False) s₂) (fun _ _ => False) s₁') (fun _ _ => False) s₁) (fun _ _ => False) s)
    (n : Nat) (h : I n s) :
    codeAny (model prog w) A (.compLoop (.ListComp elt [⟨target, iter, ifs, 0⟩] scope pos) 0 it acc env) R s := by
  refine codeAny_loop rfl I (fun n s hI => ?_) n h
  show wpAny _ A ((compTurn (.ListComp elt [⟨target, iter, ifs, 0⟩] scope pos) 0 it acc env).onRaise (fun x => do noteFrame x env; theTreesLotGoes x)) _ _ s
  refine wpAny_noted ?_
  rw [compTurn_list]
  refine wpAny_bind (wpAny_standAt (wpAny_bind (wpAny_mono (turn n s hI) (fun r s₁ h₁ => ?_) fun _ _ h' => h'.elim)))
  cases r with
  | none => exact wpAny_pure h₁
  | some v =>
    refine wpAny_bind (wpAny_mono h₁ (fun _ s₁' h₁' => ?_) fun _ _ h' => h'.elim)
    refine wpAny_bind (wpAny_mono h₁' (fun _ s₂ h₂ => wpAny_bind (wpAny_mono h₂ (fun ok s₃ h₃ => ?_) fun _ _ h' => h'.elim)) fun _ _ h' => h'.elim)
    cases ok with
    | false => exact wpAny_pure ⟨rfl, h₃⟩
    | true =>
      exact wpAny_bind (wpAny_bind (wpAny_mono h₃ (fun x s₄ h₄ => wpAny_bind (wpAny_mono h₄ (fun _ s₅ h₅ => wpAny_pure (wpAny_pure ⟨rfl, h₅⟩)) fun _ _ h' => h'.elim)) fun _ _ h' => h'.elim))
end

/-- the context of a comprehension's block -/
def compCx (X : Cx) (N : List Str) (scope : Scope) (cl : List (Str × Addr)) (C : Addr) (ex : List Addr) (s₀ : Shared) (H₀ : Hp) : Cx where
  prog := X.prog
  w := X.w
  K := X.K
  mg := X.mg
  base := X.base
  A := X.A
  N := N
  s₀ := s₀
  H₀ := H₀
  env := compEnvC scope cl C X.env
  outer := X.stack
  stack := X.stack
  ex := ex
  fn := fun _ => false
  calm := X.calm
  pn := []
  xe := fun _ _ => False

structure LcScope (X : Cx) (scope : Scope) (x : Str) (fr : List Str) (is : List Nat) : Prop where
  kind : scope.kind = .function
  nocell : ∀ y ∈ scope.names, y.2 ≠ .cell
  names : ∀ y ∈ scope.names, y.2 = .local → scope.names.lookup y.1 = some .local
  xl : scope.names.lookup x = some .local
  nd : (x :: fr).Nodup
  frees : ∀ y ∈ scope.names, y.2 = .free → X.env.kindOf y.1 = some .cell
  src : is.map (fun i => X.N[i]?) = fr.map some
  vis : ∀ n ∈ fr, scope.names.lookup n = some .free
/-- the tests of a comprehension -/
def PF (Y : Cx) (ifs : List Expr) (tc : TT) : Prop :=
  ∀ (pins : List (Addr × Obj)) (s : Shared) (σ : St) (H : Hp) (Q : Bool → Hp → Prop), Inv Y pins σ H s → tc σ H Q →
    wpAny (model Y.prog Y.w) Y.A (forIn ifs true fun c r => if r = true then do let ok ← isTrue c Y.env (eval c Y.env); pure (ForInStep.yield ok) else pure (ForInStep.yield r)) (TP Y pins σ Q) Y.xe s
theorem pf_one {Y : Cx} {c : Expr} {tc : TT} (h : PT Y c tc) : PF Y [c] tc := fun pins s σ H Q I q => wpAny_tests_one (h pins s σ H Q I q)

/-- a comprehension's walk: D the list that is made -/
def Lc (J : It) (tc : TT) (te : TE) (D : Addr) (Qd : Hp → Prop) (σ0 : St) (H0 : Hp) : Prop :=
  ∃ W : Nat → Nat → St → Hp → Prop, (∃ m, W 0 m σ0 H0) ∧ ∀ i m σ H, W i m σ H →
    (J.stop i H ∧ Qd H) ∨ (J.go i H ∧ ∃ N : St → Hp → Prop, (∀ σ' H', N σ' H' → ∃ m', m' < m ∧ W (i + 1) m' σ' H') ∧
      ∀ x H1, J.yld i H x H1 → tc (σ.set 0 (some x)) H1 fun b H2 => if b = true then te (σ.set 0 (some x)) H2 fun v H3 => ∃ ys, H3 D = some (.lst ys) ∧ ys.length < sizeLine ∧ N (σ.set 0 (some x)) (upd H3 D (.lst (ys ++ [v]))) else N (σ.set 0 (some x)) H2)
def lcSt (is : List Nat) (σ : St) : St := none :: is.map fun i => (σ[i]?).join

theorem lc_core {X : Cx} {scope : Scope} {x : Str} {fr : List Str} {is : List Nat} {px pos : Pos} {elt iter : Expr} {ifs : List Expr} {tc : TT} {te : TE} (S : LcScope X scope x fr is) (hc : X.calm = true)
    (helt : ∀ cl C ex s₀ H₀, PE (compCx X (x :: fr) scope cl C ex s₀ H₀) elt te) (hifs : ∀ cl C ex s₀ H₀, PF (compCx X (x :: fr) scope cl C ex s₀ H₀) ifs tc)
    {pins : List (Addr × Obj)} {σ : St} {H : Hp} {s : Shared} {it : Addr} {fp : List Addr} {tn : Nat → Heap → Prop} {J : It}
    (I : Inv X pins σ H s) (T : Turn X.prog X.w X.K (.Name x px) J fp it tn) (st : tn 0 s.heap) (f : ∀ b ∈ fp, FpOk X pins H b)
    {Qd : Addr → Hp → Prop} (q : ∀ D, H D = none → Lc J tc te D (Qd D) (lcSt is σ) (upd H D (.lst []))) {RR : Value → Addr → Result → Shared → Prop}
    (fin : ∀ D C s' H', Inv X pins σ H' s' → (∃ m, s'.heap.Ns C m) → FpOk X pins H' C → Qd D H' → RR (.ref D) C (.ok .next) s') {E : Value → Shared → Prop} :
    wpAny (model X.prog X.w) X.A (newList []) (fun acc s₃ => wpAny (model X.prog X.w) X.A (newFunctionEnv scope X.env.globals (clOf X.env.cells scope.names []) [] X.env.qual none .none (some X.env)) (fun cenv s₄ =>
      codeAny (model X.prog X.w) X.A (.compStart (.ListComp elt [⟨.Name x px, iter, ifs, 0⟩] scope pos) 0 (.ref it) acc { cenv with scope := relabel scope X.env }) (RR acc cenv.locals) s₄) E s₃) E s := by
  refine wpAny_newObj_type (wpAny_newFunctionEnv S.nocell (by intro y hy; simp at hy) (fun h₁ hns₁ hsb₁ => ?_) S.kind)
  dsimp only at hns₁ hsb₁ ⊢
  have nD : H s.heap.objs.size = none := I.hok.fresh (Nat.le_refl _)
  generalize hp3 : s.heap.push { cls := .type "list", dict := none, data := .seq ([] : List Value).toArray } = hh at hns₁ hsb₁ ⊢
  have I3 : Inv X pins σ (upd H s.heap.objs.size (.lst [])) { s with heap := hh } := by
    rw [← hp3]
    exact I.laid (t' := s.toks) (fun b u e => Heap.get?_push_of_some _ e) (Nat.le_refl _) ⟨Nat.zero_le _, [], 0, .nil, Heap.get?_push_size _ rfl⟩
  have k3 : ∀ b u, s.heap.get? b = some u → hh.get? b = some u := fun b u e => by rw [← hp3]; exact Heap.get?_push_of_some _ e
  have hW := q s.heap.objs.size nD
  generalize hDD : s.heap.objs.size = D at *
  generalize hHH : upd H D (.lst []) = H3 at *
  have hcells : ∀ n, (n, NameKind.free) ∈ scope.names → ∃ c, X.env.cells.lookup n = some c := fun n hn => I.ok.has n (.inl (S.frees (n, .free) hn rfl))
  have hcl : ∀ y c, (clOf X.env.cells scope.names []).lookup y = some c → X.env.cells.lookup y = some c := fun y c h => clOf_sub scope.names [] y c hcells (fun _ _ z => by cases z) h
  have f3 : ∀ b ∈ fp, FpOk X pins H3 b := fun b hb => by
    refine ⟨?_, (f b hb).2⟩
    obtain ⟨o, ho, _⟩ := T.obj 0 _ st b hb
    have : b ≠ D := by rw [← hDD]; exact Nat.ne_of_lt (Heap.lt_size ho)
    rw [← hHH, upd_ne this]; exact (f b hb).1
  have st3 : tn 0 hh := T.keep _ _ _ st fun b _ o e => k3 b o e
  have fC : ∀ {H' : Hp}, H' hh.objs.size = none → FpOk X pins H' hh.objs.size := fun hn => I3.fpOk (Nat.le_refl _) hn
  have k4 : ∀ b u, hh.get? b = some u → h₁.get? b = some u := fun b u e => hsb₁.extBut b u (Nat.ne_of_lt (Heap.lt_size e)) (Heap.get?_push_of_some _ e)
  -- the block's own context
  let YY : Cx := compCx X (x :: fr) scope (clOf X.env.cells scope.names []) hh.objs.size fp { s with heap := hh } H3
  have YOk : (YY).Ok := by
    refine ⟨I.ok.mod, S.kind, I.ok.glob, I.ok.blt, Nat.le_refl _, fun y z c h1 h2 => I.ok.inj y z c (hcl y c h1) (hcl z c h2), fun y hy => ?_, fun y c hf => absurd hf Bool.false_ne_true, I.ok.hd, I.ok.frames, .inl rfl, fun b hb => ⟨?_, fun y c e => (f3 b hb).2.2.2.2.1 y c (hcl y c e)⟩, fun b o e => I3.bs b o e, ?_, fun b o e hb => ?_, fun b hb hz => ?_, I3.stack, I3.stkFree⟩
    · exact clOf_has scope.names [] y (PySem.mem_of_lookup (relabel_back scope.names y S.nocell hy))
    · obtain ⟨o, ho, _⟩ := T.obj 0 _ st3 b hb
      exact Nat.ne_of_lt (Heap.lt_size ho)
    · exact Nat.le_trans I.ok.bsz I3.sz
    · rcases (f3 b hb).2.2.2.1 with z | z
      · exact I.ok.noex b o e z
      · exact absurd (Nat.lt_of_lt_of_le (Heap.lt_size (I.ok.bs b o e).1) z) (Nat.lt_irrefl _)
    · rcases List.mem_cons.mp (I3.stkSub b hz) with y | y
      · exact (f3 b hb).2.1 y
      · exact (f3 b hb).2.2.1 y
  have I4 : Inv (YY) [] (lcSt is σ) H3 { s with heap := h₁, toks := s.toks + ([] : List (Str × Value)).length } := by
    refine ⟨YOk, rfl, I3.bare, Un.kept k4, ⟨_, hns₁, fun i y v e1 e2 e3 => ?_⟩, fun y c e => ?_, I3.hok.fresh (Nat.le_refl _), fun y c e => I3.freeC y c (hcl y c e), fun p hp => absurd (show p ∈ ([] : List (Addr × Obj)) from hp) (by simp), I3.hok.kept k4, ?_⟩
    · cases i with
      | zero => cases e2
      | succ j =>
        have e1' : fr[j]? = some y := e1
        have e2' : (is.map fun i => (σ[i]?).join)[j]? = some (some v) := e2
        rw [List.getElem?_map] at e2'
        cases hj : is[j]? with
        | none => rw [hj] at e2'; cases e2'
        | some k =>
          rw [hj] at e2'
          have e4 : (σ[k]?).join = some v := Option.some.inj e2'
          have e5 : σ[k]? = some (some v) := by
            cases hk : σ[k]? with
            | none => rw [hk] at e4; cases e4
            | some o => rw [hk] at e4; exact congrArg some e4
          have e6 : X.N[k]? = some y := by
            have z := congrArg (fun l => l[j]?) S.src
            simp only [List.getElem?_map, hj, e1', Option.map_some] at z
            exact Option.some.inj z
          have hyf : y ∈ fr := List.mem_of_getElem? e1'
          have hfr := S.vis y hyf
          have hkc := S.frees (y, .free) (PySem.mem_of_lookup hfr) rfl
          obtain ⟨m, hn, hl⟩ := I3.loc
          obtain ⟨u, r, l⟩ := hl k y v e6 e5 (.inr (.inl hkc))
          refine ⟨u, r, .inr ?_⟩
          rcases l with ⟨z, _⟩ | ⟨_, c, hc', hcell⟩
          · rw [hkc] at z; cases z
          · obtain ⟨c2, hc2⟩ := clOf_has (cells := X.env.cells) scope.names [] y (PySem.mem_of_lookup hfr)
            have e7 := hcl y c2 hc2
            rw [hc'] at e7; cases e7
            exact ⟨relabel_free scope.names y hfr, c, hc2, hcell.keeps k4⟩
    · obtain ⟨v, hv⟩ := I3.cell y c (hcl y c e)
      exact ⟨v, hv.keeps k4⟩
    · show (lcSt is σ).length = (x :: fr).length
      have z := congrArg List.length S.src
      rw [List.length_map, List.length_map] at z
      show (is.map _).length + 1 = fr.length + 1
      rw [List.length_map, z]
  have st4 : tn 0 h₁ := T.keep _ _ _ st3 fun b _ o e => k4 b o e
  obtain ⟨W, ⟨m0, w0⟩, turn⟩ := hW
  have statY : ∀ {H' : Hp}, (∀ b ∈ fp, H' b = none) → ∀ b ∈ fp, FpOk (YY) [] H' b := fun hn b hb =>
    ⟨hn b hb, (YOk.exf b hb).1, YOk.exfs b hb, .inl hb, (YOk.exf b hb).2, fun p hp => absurd (show p ∈ ([] : List (Addr × Obj)) from hp) (by simp)⟩
  have loop : ∀ s₄ : Shared, s₄ = { s with heap := h₁, toks := s.toks + ([] : List (Str × Value)).length } →
      codeAny (model X.prog X.w) X.A (.compLoop (.ListComp elt [⟨.Name x px, iter, ifs, 0⟩] scope pos) 0 (.ref it) (.ref D) (compEnvC scope (clOf X.env.cells scope.names []) hh.objs.size X.env)) (RR (.ref D) hh.objs.size) s₄ := by
    rintro s₄ rfl
    refine codeAny_compLoop_go (fun n s' => ∃ i σ' H', Inv (YY) [] σ' H' s' ∧ tn i s'.heap ∧ (∀ b ∈ fp, H' b = none) ∧ W i n σ' H') ?_ m0 ⟨0, _, _, I4, st4, fun b hb => (f3 b hb).1, w0⟩
    rintro n s5 ⟨i, σ5, H5, I5, st5, fr5, w5⟩
    rcases turn i n σ5 H5 w5 with ⟨stop, qn⟩ | ⟨go, N, hN, step⟩
    · refine thn (T.done (YY) rfl rfl rfl hc i [] s5 σ5 H5 (fun _ _ => False) I5 (statY fr5) st5 stop) fun r s6 ⟨hr, I6⟩ => ?_
      subst hr
      obtain ⟨m6, hn6, _⟩ := I6.loc
      refine fin D hh.objs.size s6 H5 (I3.call' I6.os I6.base I6.hok I6.bare fun b hb => ⟨(f3 b hb).2.2.2.1, (f3 b hb).2.1, (f3 b hb).2.2.2.2.1, (f3 b hb).2.2.2.2.2⟩) ⟨m6, hn6⟩ (fC I6.free) qn
    · refine thn (T.item (YY) rfl rfl rfl hc i [] s5 σ5 H5 (fun _ _ => False) I5 (statY fr5) st5 go) fun r s6 ⟨u, hr, h6⟩ => ?_
      subst hr
      refine thn h6 fun _ s7 ⟨v, H7, I7, r7, y7, st7, fr7⟩ => ?_
      have I7' := I7.pinned (statY fr7) (T.obj _ _ st7)
      refine thn (pg_name (X := YY) (i := 0) (x := x) (pos := px) S.nd rfl (.inl (lookup_relabel_local S.xl)) (.inr (lookup_relabel_local S.xl)) _ s7 σ5 H7 v u (fun σ' H' => σ' = σ5.set 0 (some v) ∧ tc σ' H' fun b H2 => if b = true then te σ' H2 fun v H3 => ∃ ys, H3 D = some (.lst ys) ∧ ys.length < sizeLine ∧ N σ' (upd H3 D (.lst (ys ++ [v]))) else N σ' H2) I7' r7 ⟨rfl, step v H7 y7⟩) fun _ s8 ⟨σ8, H8, I8, e8, q8⟩ => ?_
      refine thn (hifs _ _ _ _ _ _ s8 σ8 H8 _ I8 q8) fun ok s9 ⟨H9, I9, q9⟩ => ?_
      have again : ∀ {σ' : St} {H' : Hp} {s' : Shared}, Inv (YY) ([] ++ pinsAt fp s7.heap) σ' H' s' → N σ' H' → ∃ m, m < n ∧ ∃ i σ' H', Inv (YY) [] σ' H' s' ∧ tn i s'.heap ∧ (∀ b ∈ fp, H' b = none) ∧ W i m σ' H' := fun {σ' H' s'} I' n' => by
        obtain ⟨m', hm, w'⟩ := hN σ' H' n'
        refine ⟨m', hm, i + 1, σ', H', I'.unpinned, T.keep _ _ _ st7 fun b hb o e => (I'.pin (b, o) (List.mem_append_right _ (List.mem_append_right _ (mem_pinsAt hb e)))).1, fun b hb => ?_, w'⟩
        obtain ⟨o, e, d⟩ := T.obj _ _ st7 b hb
        exact (I'.pin (b, o) (List.mem_append_right _ (List.mem_append_right _ (mem_pinsAt hb e)))).2.1
      cases ok with
      | false =>
        rw [if_neg Bool.false_ne_true] at q9 ⊢
        exact again I9 q9
      | true =>
        rw [if_pos rfl] at q9 ⊢
        refine thn (helt _ _ _ _ _ _ s9 σ8 H9 _ I9 q9) fun z s10 ⟨y, H10, I10, r10, ys, hys, hlen, n10⟩ => ?_
        refine thn (mt_append (X := YY) _ s10 σ8 H10 (.ref D) [y] (.ref D) [z] (fun _ H' => N σ8 H') I10 rfl (.cons r10 .nil) ⟨D, ys, y, rfl, rfl, hys, hlen, n10⟩) fun _ s11 ⟨_, H11, I11, _, q11⟩ => ?_
        exact again I11 q11
  exact codeAny_compStart_list (loop _ rfl) (T.self _ 0 _ _ _ st4 (loop _ rfl))

section
variable {X : Cx} {scope : Scope} {x : Str} {fr : List Str} {is : List Nat} {px pos : Pos} {elt iter : Expr} {ifs : List Expr} {tc : TT} {te : TE} {wi : TI}
def tLc (wi : TI) (is : List Nat) (tc : TT) (te : TE) : TE := fun σ H Q => wi σ H fun J H1 => ∀ D, H1 D = none → Lc J tc te D (fun H' => Q (.ref D) H') (lcSt is σ) (upd H1 D (.lst []))
theorem pe_lc (fr : List Str) (is : List Nat) (S : LcScope X scope x fr is) (hc : X.calm = true) (hi : PI X (.Name x px) iter wi) (hifs : ∀ cl C ex s₀ H₀, PF (compCx X (x :: fr) scope cl C ex s₀ H₀) ifs tc) (helt : ∀ cl C ex s₀ H₀, PE (compCx X (x :: fr) scope cl C ex s₀ H₀) elt te)
    (hs : ∀ x, foldedSetIterable iter X.env x = pure x := by intro _; rfl) : PE X (.ListComp elt [⟨.Name x px, iter, ifs, 0⟩] scope pos) (tLc wi is tc te) := by
  intro pins s σ H Q I h
  have hcells : ∀ n, (n, NameKind.free) ∈ scope.names → ∃ c, X.env.cells.lookup n = some c := fun n hn => I.ok.has n (.inl (S.frees (n, .free) hn rfl))
  rw [eval_ListComp]
  refine wpAny_comprehension_free (use := none) rfl hs (closureFor_eq hcells) S.kind S.names (thn (hi pins s σ H _ I h) fun v s1 h1 => thn h1 fun itv s2 h2 => ?_)
  obtain ⟨it, fp, tn, J, H2, e, I2, T, st2, f2, q⟩ := h2
  subst e
  refine lc_core (RR := fun acc C => compPost (model X.prog X.w) X.A X.xe none (EP X pins σ Q) acc C) S hc helt hifs I2 T st2 f2 (Qd := fun D H' => Q (.ref D) H') q fun D C s' H' I' hn fc q' => ?_
  obtain ⟨m, hn⟩ := hn
  exact ⟨m, hn, fun h' sb => ⟨.ref D, H', I'.turned (t' := s'.toks) (fun b o hb e => (sb.2 b hb).trans e) fc.1 fc.2.1 fc.2.2.2.1 fc.2.2.2.2.1 fc.2.2.2.2.2, rfl, q'⟩⟩
/-- y = [..], y a plain local of the def -/
def tSetLc (i : Nat) (wi : TI) (is : List Nat) (tc : TT) (te : TE) : TS := fun D σ H => tLc wi is tc te σ H fun v H' => D.nx (σ.set i (some v)) H'
theorem ps_setLc {i : Nat} {y : Str} {py spos : Pos} (fr : List Str) (is : List Nat) (S : LcScope X scope x fr is) (hc : X.calm = true) (hN : X.N.Nodup) (hiy : X.N[i]? = some y) (hy : X.env.scope.names.lookup y = some .local) (hi : PI X (.Name x px) iter wi)
    (hifs : ∀ cl C ex s₀ H₀, PF (compCx X (x :: fr) scope cl C ex s₀ H₀) ifs tc) (helt : ∀ cl C ex s₀ H₀, PE (compCx X (x :: fr) scope cl C ex s₀ H₀) elt te)
    (hsw : swapsWith (.ListComp elt [⟨.Name x px, iter, ifs, 0⟩] scope pos) (some (.Name y py)) spos.line X.env = pure true := by rfl)
    (hs : ∀ x, foldedSetIterable iter X.env x = pure x := by intro _; rfl) : PS X (.Assign [.Name y py] (.ListComp elt [⟨.Name x px, iter, ifs, 0⟩] scope pos) spos) (tSetLc i wi is tc te) := by
  intro pins s σ H D0 I h
  have hcells : ∀ n, (n, NameKind.free) ∈ scope.names → ∃ c, X.env.cells.lookup n = some c := fun n hn => I.ok.has n (.inl (S.frees (n, .free) hn rfl))
  rw [exec_Assign_Name_used _ _ _ _ hsw]
  refine wpAny_bind (wpAny_standAt (wpAny_bind ?_))
  show wpAny _ X.A (do let _ ← comprehension (.ListComp elt [⟨.Name x px, iter, ifs, 0⟩] scope pos) scope X.env _ (newList []) false (eval iter X.env) (some (assign (.Name y py) X.env))) _ _ s
  refine wpAny_bind (wpAny_mono (wpAny_comprehension_free (use := some (assign (.Name y py) X.env)) (Q := fun _ s' => SP X pins D0 .next s') rfl hs (closureFor_eq hcells) S.kind S.names
    (thn (hi pins s σ H _ I h) fun v s1 h1 => thn h1 fun itv s2 h2 => ?_)) (fun _ s' hq => wpAny_pure (wpAny_pure hq)) fun _ _ e => e)
  obtain ⟨it, fp, tn, J, H2, e, I2, T, st2, f2, q⟩ := h2
  subst e
  refine lc_core (RR := fun acc C => compPost (model X.prog X.w) X.A X.xe (some (assign (.Name y py) X.env)) (fun _ s' => SP X pins D0 .next s') acc C) S hc helt hifs I2 T st2 f2 (Qd := fun D H' => D0.nx (σ.set i (some (.ref D))) H') q fun D C s' H' I' hn fc q' => ?_
  obtain ⟨m, hn⟩ := hn
  show wpAny _ X.A (assign (.Name y py) X.env (.ref D)) _ _ _
  refine wpAny_assign_Name (store_ok2 I' hN hiy (.inl hy) (v := .ref D) rfl (fun s'' I'' hsb => ?_) (.inr hy))
  obtain ⟨a, sb, ha⟩ := hsb
  have hCa : C ≠ a := by
    rcases ha with z | z
    · rw [z]; exact fc.2.1
    · exact fun e => fc.2.2.2.2.1 y a z e.symm
  exact ⟨m, hn.sameBut sb hCa, fun h' sb' => ⟨_, H', I''.turned (t' := s''.toks) (fun b o hb e => (sb'.2 b hb).trans e) fc.1 fc.2.1 fc.2.2.2.1 fc.2.2.2.2.1 fc.2.2.2.2.2, q'⟩⟩

/-- over a list that is left as it is -/
theorem lc_list {K : PySem.W.Frag} {a : Addr} {xs : List V} {D : Addr} {Qd : Hp → Prop} {σ : St} {H : Hp} (Pv : Nat → St → Hp → Prop) (h0 : Pv 0 σ H) (hl : ∀ i σ H, i ≤ xs.length → Pv i σ H → SqL K H a xs)
    (hs : ∀ i x σ H, xs[i]? = some x → Pv i σ H → tc (σ.set 0 (some x)) H fun b H2 => if b = true then te (σ.set 0 (some x)) H2 fun v H3 => ∃ ys, H3 D = some (.lst ys) ∧ ys.length < sizeLine ∧ Pv (i + 1) (σ.set 0 (some x)) (upd H3 D (.lst (ys ++ [v]))) else Pv (i + 1) (σ.set 0 (some x)) H2)
    (hd : ∀ σ H, Pv xs.length σ H → Qd H) : Lc (Itl K a) tc te D Qd σ H := by
  refine ⟨fun i m σ H => m = xs.length - i ∧ i ≤ xs.length ∧ Pv i σ H, ⟨xs.length, by simp, Nat.zero_le _, h0⟩, ?_⟩
  rintro i m σ H ⟨rfl, hi, p⟩
  have q := hl i σ H hi p
  by_cases hlt : i < xs.length
  · refine .inr ⟨⟨xs, xs[i], q, by simp [hlt]⟩, Pv (i + 1), fun σ' H' p' => ⟨xs.length - (i + 1), by omega, rfl, hlt, p'⟩, fun x H' y => ?_⟩
    obtain ⟨e, y⟩ := y
    subst e
    exact hs i x σ _ (y xs q) p
  · have e : i = xs.length := by omega
    subst e
    exact .inl ⟨⟨xs, q, Nat.le_refl _⟩, hd σ H p⟩
end
/-! ### within a comprehension: the fragment by its own name -/
theorem frees_of {X : Cx} {names : List (Str × NameKind)} {sc : Scope} (e : X.env.scope = sc) (h : (names.all fun y => !(y.2 == NameKind.free) || sc.names.lookup y.1 == some NameKind.cell) = true) : ∀ y ∈ names, y.2 = .free → X.env.kindOf y.1 = some .cell := fun y hy hf => by
  have q := List.all_eq_true.mp h y hy
  rw [hf] at q
  have q' : (sc.names.lookup y.1 == some NameKind.cell) = true := by simpa using q
  show X.env.scope.names.lookup y.1 = _
  rw [e]
  exact beq_iff_eq.mp q'
section
variable {X : Cx}
theorem ix_tupK (K : Frag) (h : X.K = K) : IxR X (rIxT K) := by subst h; exact ix_tup
end
end L2

/-! The mathematics of escapes and check numbers, over plain lists of ints. -/
namespace BB
/-- one item more -/
theorem take_succ {α : Type} {xs : List α} {i : Nat} {x : α} (h : xs[i]? = some x) : xs.take (i + 1) = xs.take i ++ [x] := by
  rw [List.take_add_one, h]; rfl

end BB

set_option linter.all false
/-! Reading a belt number by number, and the law's reading from one 126 to the next: plain lists. -/
namespace BB
inductive Ev where
  | box (label : Int) (ns : List Int) (start place : Int)
  | cut (p : Int) | stray (p : Int) | escape (p : Int) | great (p : Int) | check (p : Int) | fin (p : Int)




/-! ### the law's reading: from one 126 to the next -/
end BB

set_option linter.all false
/-! A box that is written is read. -/
namespace BB
end BB

set_option linter.all false
/-! Several boxes; boxes too great; a box with one change. -/
namespace BB

/-! ### one change -/
end BB

set_option linter.all false
/-! The law's reading from one 126 to the next gives what the reading number by number tells. -/
namespace BB
end BB

set_option linter.all false
/-! How much is told of a belt. -/
namespace BB
def evW : Ev → Nat
  | .box _ ns _ _ => ns.length + 6
  | _ => 4
def evWs : List Ev → Nat
  | [] => 0
  | e :: r => evW e + evWs r
end BB

set_option linter.all false
/-! The boxes of a parcel. -/
namespace BB
end BB

set_option linter.all false
/-! One change within a box: its check numbers tell it. -/
namespace BB
end BB

set_option linter.all false
/-! How many boxes a parcel needs, and which. -/
namespace BB
end BB

set_option Elab.async false
set_option linter.all false
set_option maxRecDepth 100000
set_option maxHeartbeats 4000000
namespace BB
open PySem L2
/-- a def of the text, as its callers need it -/
structure Def (K : PySem.W.Frag) (mg : Str → Option Value) (x : Str) (st : Stmt) (ps : List Str) (f : Addr) (fd : FuncData) : Prop where
  F : Fun K x x st f fd
  b : Binds K fd ps []
  m : mg x = some (.ref f)

theorem same_new {H : Hp} {p : Addr} (h : H p = none) (o : HO) : Same H (upd H p o) := fun b u q => by rw [upd_ne (ne_of_none q h)]; exact q
/-- an object that came after H is changed -/
theorem same_upd {H H' : Hp} {p : Addr} (s : Same H H') (h : H p = none) (o : HO) : Same H (upd H' p o) := fun b u q => by rw [upd_ne (ne_of_none q h)]; exact s b u q
theorem small {n : Nat} (h : n ≤ 1000000) : n < sizeLine := Nat.lt_of_le_of_lt h (by decide)
theorem small' {n : Nat} (h : n ≤ 1000000) : n ≤ sizeLine := Nat.le_of_lt (small h)

section
variable {P : Program} {w : World} {K : PySem.W.Frag} {mg : Str → Option Value} {base : Heap} {C0 C1 C2 C3 : Addr}

end
section
variable {P : Program} {w : World} {K : PySem.W.Frag} {mg : Str → Option Value} {base : Heap} {C0 C1 C2 C3 : Addr}

theorem passes_def {P : Program} {w : World} {K : PySem.W.Frag} {mg : Str → Option Value} {base : Heap} {N : List Str} {qual : Str} {scope : Scope} {f : Addr} {cd : Value} {A : Around} {outer : List Env} {s0 : Shared} {H0 : Hp} {E : XK} :
    PassesOwn (model (cxOf (CXs P w) P w K mg base N qual scope f cd A outer s0 H0 E).prog (cxOf (CXs P w) P w K mg base N qual scope f cd A outer s0 H0 E).w) (cxOf (CXs P w) P w K mg base N qual scope f cd A outer s0 H0 E).A
      (cxOf (CXs P w) P w K mg base N qual scope f cd A outer s0 H0 E).env (cxOf (CXs P w) P w K mg base N qual scope f cd A outer s0 H0 E).xe := PassesOwn.leaving


end
/-- what is asked of the top about isinstance and the built-in names -/
structure Blt (K : PySem.W.Frag) (mg : Str → Option Value) : Prop where
  isi : mg "isinstance" = none
  int : mg "int" = none
  bool : mg "bool" = none
  list : mg "list" = none
  len : mg "len" = none
  range : mg "range" = none
  abs : mg "abs" = none
  ii : PySem.W.kitOne K (.type "int") (.type "int") = some true
  ib : PySem.W.kitOne K (.type "int") (.type "bool") = some false
  ll : PySem.W.kitOne K (.type "list") (.type "list") = some true
section
variable {P : Program} {w : World} {K : PySem.W.Frag} {mg : Str → Option Value} {base : Heap} {C0 C1 C2 C3 : Addr}
/-- isinstance(e, T) of a built-in type T -/
theorem pe_isT {X : Cx} {x : Str} {T : String} {e : Expr} {te : TE} {p1 p2 pos : Pos} (hi : X.mg "isinstance" = none) (hgi : Gl X "isinstance") (he : PE X e te) (hg : Gl X x) (hm : X.mg x = none) (hv : bootBuiltins x = some (.type T)) (hn : x ≠ "__name__" := by decide) (hd : (x == ("__debug__" : Str)) = false := by decide)
    (hs : starEach [e, .Name x p2] X.env = [(false, eval e X.env), (false, eval (.Name x p2) X.env)] := by rfl) (hs2 : starEach [.Name x p2] X.env = [(false, eval (.Name x p2) X.env)] := by rfl) :
    PE X (.Call (.Name "isinstance" p1) [e, .Name x p2] [] pos) (tCB (rIsi X.K) (tCons te (tCons (tC (.ty T)) tNil))) :=
  pe_callB call_isi hgi hi PyProof.Rows.boot_isinstance (pa_cons he (pa_cons (pe_bltn hg hm hv rfl hn hd) pa_nil (by rw [hs2]; rfl)) (by rw [hs, hs2])) (by decide) (by decide) (by rw [hs, hs2]) (by rw [hs2]; rfl)

theorem bootBool : bootBuiltins "bool" = some (.type "bool") := by decide +kernel
end
section
variable {P : Program} {w : World} {K : PySem.W.Frag} {mg : Str → Option Value} {base : Heap} {C0 C1 C2 C3 : Addr}
end
/-- a slice of ints -/
def cutI (xs : List Int) (lo hi : Option Int) : List Int := (xs.drop (HT.sIx xs.length 0 lo)).take (HT.sIx xs.length xs.length hi - HT.sIx xs.length 0 lo)
theorem cutV_ints (xs : List Int) (lo hi : Option Int) : cutV (xs.map V.int) lo hi = (cutI xs lo hi).map V.int := by
  unfold cutV cutI
  rw [List.length_map, ← List.map_drop, ← List.map_take]
theorem cutI_len (xs : List Int) (lo hi : Option Int) : (cutI xs lo hi).length ≤ xs.length := by
  unfold cutI
  rw [List.length_take, List.length_drop]; omega
theorem seq_by {t u : TS} {D : Ends} {σ : St} {H : Hp} (J : St → Hp → Prop) (h2 : ∀ σ H, J σ H → u D σ H) (h1 : ∀ nx : St → Hp → Prop, (∀ σ H, J σ H → nx σ H) → t { D with nx := nx } σ H) : tSeq t u D σ H := h1 (u D) h2
end BB

set_option Elab.async false
set_option linter.all false
set_option maxRecDepth 100000
set_option maxHeartbeats 4000000
/-! Boxes and events as data; boxes as they lie in the heap. -/
namespace BB
open PySem L2
inductive All2 {α β : Type} (R : α → β → Prop) : List α → List β → Prop where
  | nil : All2 R [] []
  | cons {a b xs ys} : R a b → All2 R xs ys → All2 R (a :: xs) (b :: ys)
theorem All2.length_eq {α β : Type} {R : α → β → Prop} : ∀ {xs : List α} {ys : List β}, All2 R xs ys → xs.length = ys.length := by
  intro xs ys h
  induction h with
  | nil => rfl
  | cons _ _ ih => exact congrArg (· + 1) ih
def intsD (ns : List Int) : D := .lst (ns.map D.int)
theorem rep_ints {H : Hp} {a : Addr} {ns : List Int} (h : H a = some (.lst (ns.map V.int))) : Rep H (.ref a) (intsD ns) := by
  refine .lst h (by rw [List.length_map, List.length_map]) fun i v d h1 h2 => ?_
  rw [List.getElem?_map] at h1 h2
  cases e : ns[i]? with
  | none => rw [e] at h1; cases h1
  | some n => rw [e] at h1 h2; cases h1; cases h2; exact .int n
theorem rep_list_inv {H : Hp} {v : V} {ds : List D} (r : Rep H v (.lst ds)) : ∃ a vs, v = .ref a ∧ H a = some (.lst vs) ∧ vs.length = ds.length ∧ ∀ (i : Nat) v d, vs[i]? = some v → ds[i]? = some d → Rep H v d := by
  cases r with
  | lst h hl hs => exact ⟨_, _, rfl, h, hl, hs⟩
theorem rep_tup_inv {H : Hp} {v : V} {ds : List D} (r : Rep H v (.tup ds)) : ∃ a vs, v = .ref a ∧ H a = some (.tup vs) ∧ vs.length = ds.length ∧ ∀ (i : Nat) v d, vs[i]? = some v → ds[i]? = some d → Rep H v d := by
  cases r with
  | tup h hl hs => exact ⟨_, _, rfl, h, hl, hs⟩
theorem rep_int_inv {H : Hp} {v : V} {i : Int} (r : Rep H v (.int i)) : v = .int i := by cases r; rfl
theorem rep_str_inv {H : Hp} {v : V} {x : Str} (r : Rep H v (.str x)) : v = .str x := by cases r; rfl
theorem rep_ints_inv {H : Hp} {v : V} {ns : List Int} (r : Rep H v (intsD ns)) : ∃ a, v = .ref a ∧ H a = some (.lst (ns.map V.int)) := by
  obtain ⟨a, vs, rfl, h, hl, hs⟩ := rep_list_inv r
  refine ⟨a, rfl, ?_⟩
  have e : vs = ns.map V.int := by
    rw [List.length_map] at hl
    apply List.ext_getElem?
    intro i
    by_cases hi : i < ns.length
    · have h1 : vs[i]? = some (vs[i]'(by omega)) := List.getElem?_eq_getElem (by omega)
      have h2 : (ns.map D.int)[i]? = some (D.int ns[i]) := by rw [List.getElem?_map, List.getElem?_eq_getElem hi]; rfl
      rw [h1, List.getElem?_map, List.getElem?_eq_getElem hi, rep_int_inv (hs i _ _ h1 h2)]; rfl
    · rw [List.getElem?_eq_none (by omega), List.getElem?_eq_none (by rw [List.length_map]; omega)]
  rw [h, e]
theorem rep_tup {H : Hp} {a : Addr} {vs : List V} {ds : List D} (h : H a = some (.tup vs)) (p : All2 (Rep H) vs ds) : Rep H (.ref a) (.tup ds) := by
  refine .tup h p.length_eq fun i v d h1 h2 => ?_
  clear h
  induction p generalizing i with
  | nil => cases h1
  | cons r _ ih =>
    cases i with
    | zero => cases h1; cases h2; exact r
    | succ j => exact ih j h1 h2
theorem rep_lst {H : Hp} {a : Addr} {vs : List V} {ds : List D} (h : H a = some (.lst vs)) (p : All2 (Rep H) vs ds) : Rep H (.ref a) (.lst ds) := by
  refine .lst h p.length_eq fun i v d h1 h2 => ?_
  clear h
  induction p generalizing i with
  | nil => cases h1
  | cons r _ ih =>
    cases i with
    | zero => cases h1; cases h2; exact r
    | succ j => exact ih j h1 h2
theorem len2 {α : Type} {vs : List α} (h : vs.length = 2) : ∃ a b, vs = [a, b] := by
  cases vs with
  | nil => cases h
  | cons a r =>
    cases r with
    | nil => cases h
    | cons b s =>
      cases s with
      | nil => exact ⟨a, b, rfl⟩
      | cons c u => cases h
theorem ints_sizes : ∀ ns : List Int, D.sizes (ns.map D.int) = ns.length
  | [] => rfl
  | n :: r => by
    have ih := ints_sizes r
    show 1 + D.sizes (r.map D.int) = r.length + 1
    omega
theorem ints_size (ns : List Int) : (intsD ns).size = ns.length + 1 := by
  show D.sizes (ns.map D.int) + 1 = _
  rw [ints_sizes]

/-! ### boxes as they lie -/
/-- one of written ints -/
theorem pickI (ms : List Int) {k : Int} (h0 : 0 ≤ k) (h1 : k < (ms.length : Int)) : ∃ n, n ∈ ms ∧ atI (ms.map V.int) k = some (.int n) := by
  obtain ⟨j, rfl⟩ : ∃ j : Nat, k = (j : Int) := ⟨k.toNat, by omega⟩
  have hk : j < ms.length := by omega
  exact ⟨ms[j], List.getElem_mem hk, atI_nat (by rw [List.getElem?_map, List.getElem?_eq_getElem hk]; rfl)⟩
/-! ### what is told -/
def evD : Ev → D
  | .box l ns s p => .tup [.str "box", .int l, intsD ns, .int s, .int p]
  | .stray p => .tup [.str "fault", .str "stray", .int p]
  | .escape p => .tup [.str "fault", .str "escape", .int p]
  | .great p => .tup [.str "fault", .str "great", .int p]
  | .check p => .tup [.str "fault", .str "check", .int p]
  | .cut p => .tup [.str "fault", .str "cut", .int p]
  | .fin p => .tup [.str "fault", .str "end", .int p]
def evsD (es : List Ev) : D := .lst (es.map evD)
end BB
namespace BB
open PySem L2
/-! ### a list that is being made -/
def Off (es : List Addr) (H : Hp) : Hp := fun a => if a ∈ es then none else H a
theorem off_get {es : List Addr} {H : Hp} {a : Addr} (h : a ∉ es) : Off es H a = H a := if_neg h
theorem off_sub {es : List Addr} {H : Hp} : Same (Off es H) H := fun a o h => by
  unfold Off at h
  split at h
  · cases h
  · exact h
theorem off_same {es : List Addr} {H H' : Hp} (s : Same H H') : Same (Off es H) (Off es H') := fun a o h => by
  unfold Off at h ⊢
  split at h
  · cases h
  · rename_i hn
    rw [if_neg hn]; exact s a o h
theorem off_upd {es : List Addr} {H : Hp} {a : Addr} {o : HO} (h : a ∈ es) : Off es (upd H a o) = Off es H := by
  funext b
  unfold Off
  by_cases hb : b ∈ es
  · rw [if_pos hb, if_pos hb]
  · rw [if_neg hb, if_neg hb, upd_ne (fun z => hb (by rw [z]; exact h))]
theorem All2.snoc {α β : Type} {R : α → β → Prop} : ∀ {xs : List α} {ys : List β} {a : α} {b : β}, All2 R xs ys → R a b → All2 R (xs ++ [a]) (ys ++ [b]) := by
  intro xs ys a b h k
  induction h with
  | nil => exact .cons k .nil
  | cons r _ ih => exact .cons r ih
theorem All2.imp {α β : Type} {R R' : α → β → Prop} (hi : ∀ a b, R a b → R' a b) : ∀ {xs : List α} {ys : List β}, All2 R xs ys → All2 R' xs ys := by
  intro xs ys h
  induction h with
  | nil => exact .nil
  | cons r _ ih => exact .cons (hi _ _ r) ih
theorem reps_mono {H H' : Hp} (s : Same H H') {vs : List V} {ds : List D} (h : All2 (Rep H) vs ds) : All2 (Rep H') vs ds := h.imp fun _ _ r => r.mono s
/-! ### slices of ints -/
end BB
namespace BB
open PySem L2
theorem off_new1 {H : Hp} {e t : Addr} {o x : HO} (h : H e = some x) (n : H t = none) : Off [e] (upd H t o) t = some o := by
  have ne : t ≠ e := fun z => by rw [z, h] at n; cases n
  rw [off_get (by simpa using ne), upd_same]
theorem rep_fault {H : Hp} {t : Addr} {x y : Str} {p : Int} (h : H t = some (.tup [.str x, .str y, .int p])) : Rep H (.ref t) (.tup [.str x, .str y, .int p]) :=
  rep_tup h (.cons (.str _) (.cons (.str _) (.cons (.int _) .nil)))
theorem ifT {b : Bool} {A B : Prop} (h : b = true) (x : A) : if b = true then A else B := by rw [if_pos h]; exact x
theorem ifF {b : Bool} {A B : Prop} (h : b = false) (x : B) : if b = true then A else B := by rw [if_neg (by rw [h]; exact Bool.false_ne_true)]; exact x
end BB
namespace BB
open PySem L2
theorem evD_size (e : Ev) : (evD e).size = evW e := by
  cases e with
  | box l ns s p =>
    show (1 + (1 + ((intsD ns).size + (1 + (1 + 0))))) + 1 = ns.length + 6
    rw [ints_size]; omega
  | _ => rfl
theorem evs_sizes : ∀ es : List Ev, D.sizes (es.map evD) = evWs es
  | [] => rfl
  | e :: r => by
    show (evD e).size + D.sizes (r.map evD) = evW e + evWs r
    rw [evD_size, evs_sizes r]
/-! ### what the program promises -/
end BB
namespace BB
open PySem L2
/-- a list that is being made -/
structure LsAt (H : Hp) (e : Addr) (H2 : Hp) (ds : List D) (vs : List V) : Prop where
  s : Same H H2
  n : H e = none
  a_ : H2 e = some (.lst vs)
  v : All2 (Rep (Off [e] H2)) vs ds
theorem LsAt.mono {H : Hp} {e : Addr} {H2 H3 : Hp} {ds : List D} {vs : List V} (h : LsAt H e H2 ds vs) (s : Same H2 H3) : LsAt H e H3 ds vs := ⟨h.s.trans s, h.n, s _ _ h.a_, reps_mono (off_same s) h.v⟩
theorem LsAt.len {H : Hp} {e : Addr} {H2 : Hp} {ds : List D} {vs : List V} (h : LsAt H e H2 ds vs) : vs.length = ds.length := h.v.length_eq
theorem LsAt.push {H : Hp} {e : Addr} {H2 : Hp} {ds : List D} {vs : List V} {u : V} {d : D} (h : LsAt H e H2 ds vs) (r : Rep (Off [e] H2) u d) : LsAt H e (upd H2 e (.lst (vs ++ [u]))) (ds ++ [d]) (vs ++ [u]) :=
  ⟨same_upd h.s h.n _, h.n, upd_same, by rw [off_upd (by simp)]; exact h.v.snoc r⟩
theorem LsAt.rep {H : Hp} {e : Addr} {H2 : Hp} {ds : List D} {vs : List V} (h : LsAt H e H2 ds vs) : Rep H2 (.ref e) (.lst ds) := rep_lst h.a_ (reps_mono off_sub h.v)
theorem LsAt.new {H H1 : Hp} {e : Addr} (s : Same H H1) (h : H1 e = none) : LsAt H e (upd H1 e (.lst [])) [] [] := ⟨s.trans (same_new h _), s.free h, upd_same, .nil⟩
theorem cut_rest (xs : List Int) (f : Nat) : xs.take f ++ cutI xs (some (f : Int)) none = xs := by
  unfold cutI
  rw [HT.sIx_nat]
  show xs.take f ++ (xs.drop (min f xs.length)).take (xs.length - min f xs.length) = xs
  have e : (xs.drop (min f xs.length)).take (xs.length - min f xs.length) = xs.drop (min f xs.length) := List.take_of_length_le (by rw [List.length_drop]; exact Nat.le_refl _)
  rw [e]
  by_cases h : f ≤ xs.length
  · rw [Nat.min_eq_left h, List.take_append_drop]
  · rw [List.drop_eq_nil_of_le (by omega), List.append_nil, List.take_of_length_le (by omega)]
end BB
namespace BB
open PySem L2
end BB
namespace BB
open PySem L2
end BB

set_option Elab.async false
set_option linter.all false
set_option maxRecDepth 100000
set_option maxHeartbeats 4000000
/-! A Belt as it lies in the heap. -/
namespace BB
open PySem L2
theorem ne_isSome {H : Hp} {a b : Addr} {o : HO} (h : H a = some o) (n : H b = none) : b ≠ a := fun z => by rw [z, h] at n; cases n
/-! ### the attributes -/
theorem look_ne {f g : Str} {v : V} {r : List (Str × V)} (h : ¬ g = f) : List.lookup g ((f, v) :: r) = List.lookup g r := by
  have e := lookup_putF f g v []
  rw [if_neg h] at e
  have e2 : List.lookup g ((f, v) :: r) = (match g == f with | true => some v | false => List.lookup g r) := rfl
  rw [e2]
  have e3 : List.lookup g [(f, v)] = (match g == f with | true => some v | false => none) := rfl
  have e4 : (putF f v [] : List (Str × V)) = [(f, v)] := rfl
  rw [e4, e3] at e
  cases q : g == f with
  | true => rw [q] at e; cases e
  | false => rfl
theorem look_eq {f : Str} {v : V} {r : List (Str × V)} : List.lookup f ((f, v) :: r) = some v := by
  have e := lookup_putF f f v []
  rw [if_pos rfl] at e
  have e3 : List.lookup f [(f, v)] = (match f == f with | true => some v | false => none) := rfl
  have e4 : (putF f v [] : List (Str × V)) = [(f, v)] := rfl
  rw [e4, e3] at e
  show (match f == f with | true => some v | false => List.lookup f r) = some v
  cases q : f == f with
  | true => rfl
  | false => rw [q] at e; cases e
section
variable {pl st : Int} {ph : Str} {ia : Addr}
end
/-! ### the reading keeps to the greatest length -/
theorem cut_from {xs : List Int} {k : Nat} : cutI xs (some (k : Int)) none = xs.drop k := by
  have e := cut_rest xs k
  have e2 : xs.take k ++ cutI xs (some (k : Int)) none = xs.take k ++ xs.drop k := by rw [List.take_append_drop]; exact e
  exact List.append_cancel_left e2
theorem few0 : ([] : List (Str × V)).length ≤ 0 := Nat.le_refl _
theorem few {fs : List (Str × V)} {f : Str} {v : V} {k : Nat} (h : fs.length ≤ k) : (putF f v fs).length ≤ k + 1 := Nat.le_trans (length_putF f v fs) (Nat.succ_le_succ h)
theorem few_lt {fs : List (Str × V)} {k : Nat} (h : fs.length ≤ k) (hk : k < 1000) : fs.length < 1000 := Nat.lt_of_le_of_lt h hk
/-! ### promises -/
/-- a method of the text, as its callers need it -/
structure MDef (K : PySem.W.Frag) (C : Addr) (m qual : Str) (st : Stmt) (ps : List Str) (f : Addr) (fd : FuncData) : Prop where
  F : Fun K m qual st f fd
  b : Binds K fd ps []
  m : Meth K C m f
end BB

set_option Elab.async false
set_option linter.all false
set_option maxRecDepth 100000
set_option maxHeartbeats 4000000
namespace L2
open PySem PySem.Spec PyProof.Rows PySem.W
section
variable {X : Cx}
theorem vals_of_ints : ∀ {ns : List Int} {us : List Value}, IntsAre us ns → Vals (ns.map V.int) us := fun h => vals_ints h
/-- sorted(xs) of few ints -/
theorem call_sortedI : CallR X (.builtin "sorted") (fun xs H Q => ∃ (p : Addr) (ns : List Int), xs = [.ref p] ∧ SqL X.K H p (ns.map V.int) ∧ ns.length < 64 ∧ ∀ (l : Addr) (ns' : List Int), H l = none → ns'.Perm ns → ns'.Pairwise (· ≤ ·) → Q (.ref l) (upd H l (.lst (ns'.map V.int)))) := by
  intro pins s σ H xs us Q I r h
  obtain ⟨p, ns, rfl, hq, h64, q⟩ := h
  obtain ⟨u, rfl, rx⟩ := vals1 r
  cases rx
  obtain ⟨its, r', pl, hz⟩ := I.list hq
  have hlen : its.length = ns.length := by rw [← r'.length, List.length_map]
  refine sorted_ints (vs := its) pl.isList (intsAre_of r') (by omega) fun out ns' a1 a2 a3 => ?_
  obtain ⟨e, he⟩ := sortedAll_at s.heap its out
  have hl' : ns'.length = ns.length := a2.length_eq
  have hfr : H (s.heap.objs.size + 1) = none := I.hok.fresh (Nat.le_succ _)
  exact ⟨.ref (s.heap.objs.size + 1), _, I.laid (t' := s.toks) (fun _ _ => sortedAll_old) (Nat.le_succ _) (show ObjOk X.prog X.w _ _ _ (.lst (ns'.map V.int)) from ⟨by rw [List.length_map]; exact Nat.le_of_lt (Nat.lt_of_lt_of_le (by omega : ns'.length < 64) (by decide)), out.toList, e, vals_of_ints a1, he⟩), rfl, q _ ns' hfr a2 a3⟩
end
end L2

set_option Elab.async false
set_option linter.all false
set_option maxRecDepth 100000
set_option maxHeartbeats 4000000
namespace L2
open PySem PySem.Spec PyProof.Rows
/-! ### lists of pairs as tables -/
section
variable {κ : Type} [DecidableEq κ]
def valV (kvs : List (κ × V)) (k : κ) : Option V := (kvs.find? fun kv => decide (kv.1 = k)).map (·.2)
/-- in its place, or at the end -/
def putK (kvs : List (κ × V)) (k : κ) (v : V) : List (κ × V) :=
  if (kvs.any fun kv => decide (kv.1 = k)) = true then kvs.map (fun kv => if kv.1 = k then (kv.1, v) else kv) else kvs ++ [(k, v)]
def dropK (kvs : List (κ × V)) (k : κ) : List (κ × V) := kvs.filter fun kv => decide (kv.1 ≠ k)

theorem valV_nil {k : κ} : valV ([] : List (κ × V)) k = none := rfl
theorem valV_pos {p : κ × V} {r : List (κ × V)} {k : κ} (e : p.1 = k) : valV (p :: r) k = some p.2 := by simp [valV, List.find?_cons, e]
theorem valV_neg {p : κ × V} {r : List (κ × V)} {k : κ} (e : ¬ p.1 = k) : valV (p :: r) k = valV r k := by simp [valV, List.find?_cons, e]
theorem valV_any (k : κ) : ∀ kvs : List (κ × V), (kvs.any fun kv => decide (kv.1 = k)) = (valV kvs k).isSome
  | [] => rfl
  | p :: r => by
    rw [List.any_cons]
    by_cases e : p.1 = k
    · simp only [valV_pos e, decide_eq_true e, Bool.true_or, Option.isSome_some]
    · rw [valV_neg e, decide_eq_false e, Bool.false_or]; exact valV_any k r
theorem valV_map (k j : κ) (y : V) : ∀ kvs : List (κ × V), valV (kvs.map fun kv => if kv.1 = k then (kv.1, y) else kv) j = (valV kvs j).map fun x => if j = k then y else x
  | [] => rfl
  | p :: r => by
    have ih := valV_map k j y r
    rw [List.map_cons]
    by_cases h : p.1 = k
    · rw [if_pos h]
      by_cases e : p.1 = j
      · rw [valV_pos (p := (p.1, y)) e, valV_pos e, Option.map_some, if_pos (e.symm.trans h)]
      · rw [valV_neg (p := (p.1, y)) e, valV_neg e, ih]
    · rw [if_neg h]
      by_cases e : p.1 = j
      · rw [valV_pos (p := p) e, valV_pos e, Option.map_some, if_neg (fun z => h (e.trans z))]
      · rw [valV_neg (p := p) e, valV_neg e, ih]
theorem valV_snoc (k j : κ) (y : V) : ∀ kvs : List (κ × V), valV kvs k = none → valV (kvs ++ [(k, y)]) j = if j = k then some y else valV kvs j
  | [], _ => by
    by_cases e : k = j
    · rw [if_pos e.symm]; exact valV_pos (p := (k, y)) e
    · rw [if_neg (fun z => e z.symm)]; exact valV_neg (p := (k, y)) e
  | p :: r, hn => by
    rw [List.cons_append]
    have hk : ¬ p.1 = k := fun z => by rw [valV_pos z] at hn; cases hn
    rw [valV_neg hk] at hn
    have ih := valV_snoc k j y r hn
    by_cases e : p.1 = j
    · rw [valV_pos e, valV_pos e, if_neg (fun z => hk (e.trans z))]
    · rw [valV_neg e, valV_neg e, ih]
theorem valV_put (kvs : List (κ × V)) (k j : κ) (y : V) : valV (putK kvs k y) j = if j = k then some y else valV kvs j := by
  unfold putK
  by_cases a : (kvs.any fun kv => decide (kv.1 = k)) = true
  · rw [if_pos a, valV_map]
    rw [valV_any] at a
    by_cases e : j = k
    · obtain ⟨x, hx⟩ := Option.isSome_iff_exists.mp a
      rw [if_pos e, e, hx, Option.map_some, if_pos rfl]
    · rw [if_neg e]
      cases valV kvs j with
      | none => rfl
      | some x => rw [Option.map_some, if_neg e]
  · rw [if_neg a]
    refine valV_snoc k j y kvs ?_
    rw [valV_any] at a
    cases q : valV kvs k with
    | none => rfl
    | some x => rw [q] at a; exact (a rfl).elim
theorem length_putK (kvs : List (κ × V)) (k : κ) (v : V) : (putK kvs k v).length ≤ kvs.length + 1 := by
  unfold putK
  split
  · rw [List.length_map]; omega
  · rw [List.length_append, List.length_cons, List.length_nil]; omega

theorem RelO.isSome_eq {o : Option V} {u : Option Value} (r : RelO o u) : o.isSome = u.isSome := by
  cases o with
  | none => cases u with
    | none => rfl
    | some _ => exact (show False from r).elim
  | some _ => cases u with
    | none => exact (show False from r).elim
    | some _ => rfl
theorem RelO.getD {o : Option V} {u : Option Value} {d : V} {d' : Value} (r : RelO o u) (rd : RelV d d') : RelV (o.getD d) (u.getD d') := by
  cases o with
  | none => cases u with
    | none => exact rd
    | some _ => exact (show False from r).elim
  | some _ => cases u with
    | none => exact (show False from r).elim
    | some _ => exact r

/-- raw tables of the same keys -/
theorem KV.val {kvs : List (κ × V)} {vs : List (κ × Value)} (r : KV kvs vs) (k : κ) : RelO (valV kvs k) (valueAt vs k) := by
  unfold KV at r
  induction r with
  | nil => exact True.intro
  | @cons p q ps qs h t ih =>
    obtain ⟨h1, h2⟩ := h
    by_cases e : p.1 = k
    · have e' : q.1 = k := h1.symm.trans e
      have b : valueAt (q :: qs) k = some q.2 := by simp [valueAt, List.find?_cons, e']
      rw [valV_pos e, b]; exact h2
    · have e' : ¬ q.1 = k := fun z => e (h1.trans z)
      have b : valueAt (q :: qs) k = valueAt qs k := by simp [valueAt, List.find?_cons, e']
      rw [valV_neg e, b]; exact ih
theorem KV.any {kvs : List (κ × V)} {vs : List (κ × Value)} (r : KV kvs vs) (k : κ) : (kvs.any fun kv => decide (kv.1 = k)) = vs.any fun kv => decide (kv.1 = k) := by
  unfold KV at r
  induction r with
  | nil => rfl
  | cons h t ih => rw [List.any_cons, List.any_cons, ih, h.1]
theorem KV.repl {kvs : List (κ × V)} {vs : List (κ × Value)} (r : KV kvs vs) (k : κ) {y : V} {u : Value} (ry : RelV y u) :
    KV (kvs.map fun kv => if kv.1 = k then (kv.1, y) else kv) (vs.map fun kv => if kv.1 = k then (kv.1, u) else kv) := by
  unfold KV at r ⊢
  induction r with
  | nil => exact .nil
  | @cons p q ps qs h t ih =>
    rw [List.map_cons, List.map_cons]
    refine .cons ?_ ih
    obtain ⟨h1, h2⟩ := h
    by_cases e : p.1 = k
    · rw [if_pos e, if_pos (h1.symm.trans e)]; exact ⟨h1, ry⟩
    · rw [if_neg e, if_neg (fun z => e (h1.trans z))]; exact ⟨h1, h2⟩
theorem KV.put {kvs : List (κ × V)} {vs : List (κ × Value)} (r : KV kvs vs) (k : κ) {y : V} {u : Value} (ry : RelV y u) : KV (putK kvs k y) (stored vs k u) := by
  unfold putK stored
  rw [r.any k]
  by_cases e : (vs.any fun kv => decide (kv.1 = k)) = true
  · rw [if_pos e, if_pos e]; exact r.repl k ry
  · rw [if_neg e, if_neg e]; exact Paired.snoc r ⟨rfl, ry⟩
theorem KV.drop {kvs : List (κ × V)} {vs : List (κ × Value)} (r : KV kvs vs) (k : κ) : KV (dropK kvs k) (without vs k) := by
  unfold KV at r ⊢
  unfold dropK without
  induction r with
  | nil => exact .nil
  | @cons p q ps qs h t ih =>
    obtain ⟨h1, h2⟩ := h
    rw [List.filter_cons, List.filter_cons]
    by_cases e : p.1 = k
    · have a : ¬ decide (p.1 ≠ k) = true := by simp [e]
      have b : ¬ decide (q.1 ≠ k) = true := by simp [h1.symm.trans e]
      rw [if_neg a, if_neg b]; exact ih
    · have e' : ¬ q.1 = k := fun z => e (h1.trans z)
      have a : decide (p.1 ≠ k) = true := by simp [e]
      have b : decide (q.1 ≠ k) = true := by simp [e']
      rw [if_pos a, if_pos b]; exact .cons ⟨h1, h2⟩ ih
theorem KV.keys {kvs : List (κ × V)} {vs : List (κ × Value)} (r : KV kvs vs) : kvs.map (·.1) = vs.map (·.1) := by
  unfold KV at r
  induction r with
  | nil => rfl
  | cons h t ih => rw [List.map_cons, List.map_cons, ih, h.1]
theorem KV.length {kvs : List (κ × V)} {vs : List (κ × Value)} (r : KV kvs vs) : kvs.length = vs.length := Paired.length r
theorem dropK_le (kvs : List (κ × V)) (k : κ) : (dropK kvs k).length ≤ kvs.length := List.length_filter_le _ _
end


/-! ### a tracked dict, its keys ints and texts or tuples of these -/
theorem kV_is {P : Program} {w : World} {k : Key} {u : Value} (r : RelV (kV k) u) : (mixKind P w).is k u = true := by
  cases k with
  | inl i => obtain ⟨t, e⟩ := (show ∃ t, u = Value.int i t from r); subst e; exact mixKind_int P w i t
  | inr x => obtain ⟨t, e⟩ := (show ∃ t, u = Value.str x t from r); subst e; exact mixKind_str P w x t
theorem items_are {P : Program} {w : World} : ∀ {ks : List Key} {us : List Value}, Vals (ks.map kV) us → ItemsAre (mixKind P w) ks us
  | [], _, r => by rw [List.map_nil] at r; cases r; exact .nil
  | k :: ks, _, r => by
    rw [List.map_cons] at r
    cases r with
    | cons h t => exact .cons (kV_is h) (items_are t)

/-- raw entries of a dict with tuple keys -/
abbrev KT (H : Hp) : List (List Key × V) → List (List Key × Addr × Value) → Prop := Paired fun p q => p.1 = q.1 ∧ H q.2.1 = some (.tup (p.1.map kV)) ∧ RelV p.2 q.2.2
theorem KT.val {H : Hp} {kvs : List (List Key × V)} {xs : List (List Key × Addr × Value)} (r : KT H kvs xs) (k : List Key) : RelO (valV kvs k) ((atKey xs k).map (·.2)) := by
  induction r with
  | nil => exact True.intro
  | @cons p q ps qs h t ih =>
    obtain ⟨h1, _, h2⟩ := h
    by_cases e : p.1 = k
    · have e' : q.1 = k := h1.symm.trans e
      have b : atKey (q :: qs) k = some q.2 := by simp [atKey, List.find?_cons, e']
      rw [valV_pos e, b]; exact h2
    · have e' : ¬ q.1 = k := fun z => e (h1.trans z)
      have b : atKey (q :: qs) k = atKey qs k := by simp [atKey, List.find?_cons, e']
      rw [valV_neg e, b]; exact ih
theorem KT.repl {H : Hp} {kvs : List (List Key × V)} {xs : List (List Key × Addr × Value)} (r : KT H kvs xs) (k : List Key) {y : V} {u : Value} (ry : RelV y u) :
    KT H (kvs.map fun kv => if kv.1 = k then (kv.1, y) else kv) (xs.map (putAt k u)) := by
  induction r with
  | nil => exact .nil
  | @cons p q ps qs h t ih =>
    rw [List.map_cons, List.map_cons]
    refine .cons ?_ ih
    obtain ⟨h1, h2, h3⟩ := h
    unfold putAt
    by_cases e : p.1 = k
    · rw [if_pos e, if_pos (h1.symm.trans e)]; exact ⟨h1, h2, ry⟩
    · rw [if_neg e, if_neg (fun z => e (h1.trans z))]; exact ⟨h1, h2, h3⟩
theorem KT.put {H : Hp} {kvs : List (List Key × V)} {xs : List (List Key × Addr × Value)} (r : KT H kvs xs) (k : List Key) {b : Addr} {y : V} {u : Value} (hb : H b = some (.tup (k.map kV))) (ry : RelV y u) :
    KT H (putK kvs k y) (storedH xs k b u) := by
  have e : (kvs.any fun kv => decide (kv.1 = k)) = (atKey xs k).isSome := by
    rw [valV_any, (r.val k).isSome_eq, Option.isSome_map]
  unfold putK storedH
  rw [e]
  by_cases q : (atKey xs k).isSome = true
  · rw [if_pos q, if_pos q]; exact r.repl k ry
  · rw [if_neg q, if_neg q]; exact Paired.snoc r ⟨rfl, hb, ry⟩
theorem KT.keeps {H H' : Hp} {kvs : List (List Key × V)} {xs : List (List Key × Addr × Value)} (r : KT H kvs xs) (ht : ∀ b ys, H b = some (.tup ys) → H' b = some (.tup ys)) : KT H' kvs xs :=
  Paired.mapP r fun _ _ z => ⟨z.1, ht _ _ z.2.1, z.2.2⟩

section
variable {P : Program} {w : World} {H : Hp} {h : Heap} {a : Addr}
theorem rd_of {u : HO} (ok : HOk P w H h) (e : Rd H a u) : ObjOk P w H h a u := e.ok ok
theorem dk_rd {kvs : List (Key × V)} (ok : HOk P w H h) (e : Rd H a (.dK kvs)) : kvs.length ≤ sizeLine ∧ (a == sysModules) = false ∧ ∃ vs, KV kvs vs ∧ h.DictOf (mixKind P w) a vs :=
  show ObjOk P w H h a (.dK kvs) from rd_of ok e
theorem dk_of {kvs : List (Key × V)} (ok : HOk P w H h) (e : H a = some (.dK kvs)) : kvs.length ≤ sizeLine ∧ (a == sysModules) = false ∧ ∃ vs, KV kvs vs ∧ h.DictOf (mixKind P w) a vs := dk_rd ok (.inl e)
/-- a tracked tuple of ints and texts is a key -/
theorem key_of {ks : List Key} (ok : HOk P w H h) (e : H a = some (.tup (ks.map kV))) : (tupleKind (mixKind P w)).is h ks a := by
  obtain ⟨_, its, r, o, h1, h2, n, h3⟩ := (show ObjOk P w H h a (.tup (ks.map kV)) from ok a _ e)
  exact ⟨o, its.toArray, n, h1, h2, h3, by simpa using items_are r⟩
theorem dt_rd {kvs : List (List Key × V)} (ok : HOk P w H h) (e : Rd H a (.dT kvs)) : kvs.length ≤ sizeLine ∧ (a == sysModules) = false ∧
    ∃ xs, KT H kvs xs ∧ h.DictOfH (tupleKind (mixKind P w)) a xs := by
  obtain ⟨z, y, xs, r, o, es, ep, h1, h2, h3, h4, h5⟩ := (show ObjOk P w H h a (.dT kvs) from rd_of ok e)
  refine ⟨z, y, xs, r, o, es, ep, h1, h2, h3, h4, fun x hx => ?_, h5⟩
  have all : ∀ {l : List (List Key × V)} {m : List (List Key × Addr × Value)}, KT H l m → ∀ x ∈ m, (tupleKind (mixKind P w)).is h x.1 x.2.1 := by
    intro l m q
    induction q with
    | nil => intro x hx; exact nomatch hx
    | @cons p q ps qs hq t ih =>
      intro x hx
      rcases List.mem_cons.mp hx with e | hx
      · subst e
        exact key_of ok (by rw [← hq.1]; exact hq.2.1)
      · exact ih x hx
  exact all r x hx
theorem dt_of {kvs : List (List Key × V)} (ok : HOk P w H h) (e : H a = some (.dT kvs)) : kvs.length ≤ sizeLine ∧ (a == sysModules) = false ∧
    ∃ xs, KT H kvs xs ∧ h.DictOfH (tupleKind (mixKind P w)) a xs := dt_rd ok (.inl e)
end

/-- what the dict at a holds at the key y -/
def DGet (H : Hp) (a : Addr) (y : V) (r : Option V) : Prop :=
  (∃ kvs k, Rd H a (.dK kvs) ∧ y = kV k ∧ r = valV kvs k) ∨ ∃ kvs k b, Rd H a (.dT kvs) ∧ y = .ref b ∧ H b = some (.tup (k.map kV)) ∧ r = valV kvs k
/-- the heap behind a[y] = v -/
def DPut (H : Hp) (a : Addr) (y v : V) (H' : Hp) : Prop :=
  (∃ kvs k, H a = some (.dK kvs) ∧ y = kV k ∧ kvs.length < sizeLine ∧ H' = upd H a (.dK (putK kvs k v))) ∨
  ∃ kvs k b, H a = some (.dT kvs) ∧ y = .ref b ∧ H b = some (.tup (k.map kV)) ∧ kvs.length < sizeLine ∧ H' = upd H a (.dT (putK kvs k v))
theorem DGet.k {H : Hp} {a : Addr} {kvs : List (Key × V)} {k : Key} (e : H a = some (.dK kvs)) : DGet H a (kV k) (valV kvs k) := .inl ⟨kvs, k, .inl e, rfl, rfl⟩
theorem DPut.k {H : Hp} {a : Addr} {kvs : List (Key × V)} {k : Key} {v : V} (e : H a = some (.dK kvs)) (hl : kvs.length < sizeLine) : DPut H a (kV k) v (upd H a (.dK (putK kvs k v))) := .inl ⟨kvs, k, e, rfl, hl, rfl⟩


section
variable {X : Cx} {pins : List (Addr × Obj)} {σ : St} {H : Hp} {s : Shared} {a : Addr} {y v : V} {u r : Value} {o : Option V} {A : Around} {E : Value → Shared → Prop}

theorem Inv.big (I : Inv X pins σ H s) : sysModules < s.heap.objs.size := by
  have h : mainGlobals < s.heap.objs.size := (I.mod.glob.keeps I.bk).lt
  exact Nat.lt_trans (by decide) h

/-- d[y], there -/
theorem d_getItem {Q : Value → Shared → Prop} (hu : A.units + 1 < cLine) (I : Inv X pins σ H s) (g : DGet H a y (some v)) (ry : RelV y u) (h : ∀ w' s', Inv X pins σ H s' → RelV v w' → Q w' s') :
    wpAny (model X.prog X.w) A (getItem (.ref a) u) Q E s := by
  rcases g with ⟨kvs, k, e, ey, l⟩ | ⟨kvs, k, b, e, ey, eb, l⟩
  · subst ey
    obtain ⟨z, hd, vs, rel, dd⟩ := dk_rd I.hok e
    obtain ⟨w', hw, rw'⟩ := RelO.some_of (v := v) (o := valueAt vs k) (by rw [l]; exact rel.val k)
    exact wpAny_getItem_of (kV_is ry) dd.mapOf hw (h w' _ (I.tok _) rw')
  · subst ey
    cases (show u = Value.ref b from ry)
    obtain ⟨z, hd, xs, rel, dd⟩ := dt_rd I.hok e
    obtain ⟨w', hw, rw'⟩ := RelO.some_of (v := v) (o := (atKey xs k).map (·.2)) (by rw [l]; exact rel.val k)
    obtain ⟨p, hp, hp2⟩ := Option.map_eq_some_iff.mp hw
    refine wpAny_getItem_heap (tupleKind_room_in1 hu) (key_of I.hok eb) dd hp ?_
    rw [hp2]
    exact h w' _ (I.tok _) rw'
/-- y in d -/
theorem d_in {Q : Value → Shared → Prop} (hu : A.units + 1 < cLine) (I : Inv X pins σ H s) (g : DGet H a y o) (ry : RelV y u) (h : ∀ s', Inv X pins σ H s' → Q (.bool o.isSome) s') :
    wpAny (model X.prog X.w) A (compareOp .In u (.ref a)) Q E s := by
  rcases g with ⟨kvs, k, e, ey, l⟩ | ⟨kvs, k, b, e, ey, eb, l⟩
  · subst ey
    obtain ⟨z, hd, vs, rel, dd⟩ := dk_rd I.hok e
    refine wpAny_in_of (kV_is ry) hd dd.mapOf ?_
    rw [← (rel.val k).isSome_eq, ← l]
    exact h _ (I.tok _)
  · subst ey
    cases (show u = Value.ref b from ry)
    obtain ⟨z, hd, xs, rel, dd⟩ := dt_rd I.hok e
    refine wpAny_in_heap (tupleKind_room_in1 hu) (key_of I.hok eb) hd dd ?_
    have q := (rel.val k).isSome_eq
    rw [Option.isSome_map] at q
    rw [← q, ← l]
    exact h _ (I.tok _)
/-- a dict's object is replaced -/
theorem d_write {h' : Heap} {t' : Nat} {ob : HO} (I : Inv X pins σ H s) (mu : Mut (H a)) (hs : Heap.SameBut a s.heap h') (he : ∃ q, h'.get? a = some q) (new : ObjOk X.prog X.w (upd H a ob) h' a ob) :
    Inv X pins σ (upd H a ob) { s with heap := h', toks := t' } :=
  I.write (x := a) (e := a) mu (.inl rfl) (fun b q hb z => (hs.2 b hb).trans z) he new
theorem dk_new {P : Program} {w : World} {H' : Hp} {h' : Heap} {kvs : List (Key × V)} {vs : List (Key × Value)} (z : kvs.length ≤ sizeLine) (hd : (a == sysModules) = false) (rel : KV kvs vs) (dd : h'.DictOf (mixKind P w) a vs) :
    ObjOk P w H' h' a (.dK kvs) := ⟨z, hd, vs, rel, dd⟩
/-- d[y] = v -/
theorem d_setItem {H' : Hp} {Q : Unit → Shared → Prop} (hu : A.units + 1 < cLine) (I : Inv X pins σ H s) (g : DPut H a y v H') (ry : RelV y u) (rv : RelV v r) (h : ∀ s', Inv X pins σ H' s' → Q () s') :
    wpAny (model X.prog X.w) A (setItem (.ref a) u r) Q E s := by
  rcases g with ⟨kvs, k, e, ey, l, eH⟩ | ⟨kvs, k, b, e, ey, eb, l, eH⟩
  · subst ey eH
    obtain ⟨z, hd, vs, rel, dd⟩ := dk_of I.hok e
    have hz : vs.length ≤ sizeLine := by rw [← rel.length]; exact z
    have hl : (putK kvs k v).length ≤ sizeLine := by have := length_putK kvs k v; omega
    refine wpAny_setItem_pairs (hsz := hz) (kV_is ry) dd fun h' dd' hs => h _ ?_
    have he : ∃ q, h'.get? a = some q := let ⟨q, _, _, hq, _⟩ := dd'; ⟨q, hq⟩
    exact d_write I (by rw [e]; exact True.intro) hs he (dk_new hl hd (rel.put k rv) dd')
  · subst ey eH
    cases (show u = Value.ref b from ry)
    obtain ⟨z, hd, xs, rel, dd⟩ := dt_of I.hok e
    have hz : xs.length ≤ sizeLine := by rw [← Paired.length rel]; exact z
    have hl : (putK kvs k v).length ≤ sizeLine := by have := length_putK kvs k v; omega
    refine wpAny_setItem_heap (hsz := hz) (tupleKind_room_in1 hu) (key_of I.hok eb) dd fun h' dd' hs => h _ ?_
    obtain ⟨q, es, ep, hq, h2, h3, h4, _, h5⟩ := dd'
    refine d_write I (by rw [e]; exact True.intro) hs ⟨q, hq⟩ ⟨hl, hd, _, (rel.put k eb rv).keeps fun c ys ec => ?_, q, es, ep, hq, h2, h3, h4, h5⟩
    rw [upd_ne (ne_of ec e (fun z => nomatch z))]
    exact ec
end

section
variable {X : Cx} {pins : List (Addr × Obj)} {σ : St} {H : Hp} {s : Shared} {a : Addr} {kvs : List (Key × V)} {k : Key} {u : Value} {A : Around} {E : Value → Shared → Prop}
/-- d.pop(k[, x]), there -/
theorem d_pop {v : V} {more : List Value} {Q : Value → Shared → Prop} (I : Inv X pins σ H s) (e : H a = some (.dK kvs)) (ry : RelV (kV k) u) (l : valV kvs k = some v) (hm : more = [] ∨ ∃ x, more = [x])
    (h : ∀ w' s', Inv X pins σ (upd H a (.dK (dropK kvs k))) s' → RelV v w' → Q w' s') : wpAny (model X.prog X.w) A (call (.builtin "dict.pop") (.ref a :: u :: more)) Q E s := by
  obtain ⟨z, hd, vs, rel, dd⟩ := dk_of I.hok e
  obtain ⟨w', hw, rw'⟩ := RelO.some_of (v := v) (o := valueAt vs k) (by rw [← l]; exact rel.val k)
  have hp : (keyPart u).isSome = true := by
    cases k with
    | inl i => obtain ⟨t, q⟩ := (show ∃ t, u = Value.int i t from ry); subst q; rfl
    | inr x => obtain ⟨t, q⟩ := (show ∃ t, u = Value.str x t from ry); subst q; rfl
  have ha : argsOk "dict.pop" ⟨.ref a :: u :: more, []⟩ := by
    rcases hm with q | ⟨x, q⟩
    · subst q; exact PySem.F.args_dict_pop_2 _ _
    · subst q; exact PySem.F.args_dict_pop_3 _ _ _
  refine call_meetsIn PySem.F.slot_dict_pop dd.typeIs PySem.F.entry_dict_pop ha (meets_dict_pop_there (mixKind X.prog X.w) a (kV_is ry) more hm hp)
    ⟨vs, w', dd, by rw [← rel.length]; exact z, hw, fun h' dd' hs => h w' _ ?_ rw'⟩
  have he : ∃ q, h'.get? a = some q := let ⟨q, _, _, hq, _⟩ := dd'; ⟨q, hq⟩
  exact d_write I (by rw [e]; exact True.intro) hs he (dk_new (Nat.le_trans (dropK_le kvs k) z) hd (rel.drop k) dd')
end


/-! ### readings and rules -/
/-- the element of a subscription, not a slice -/
def NoSl (i : Expr) : Prop := ∀ ov iv, subscripted i false ov iv = operate [ov, iv] (getItem ov iv)
theorem subD_of {prog : Program} {w : World} {A : Around} {E : Value → Shared → Prop} {s : Shared} {env : Env} {value slice : Expr} {pos : Pos} {T id : String} {Q : Value → Shared → Prop}
    (hl : typeLookup (.type T) "__getitem__" = pure (some (.builtin id))) (hs : NoSl slice)
    (h : wpAny (model prog w) A (eval value env) (fun o s₁ => wpAny (model prog w) A (eval slice env) (fun i s₂ => s₂.TypeIs o T ∧ wpAny (model prog w) A (getItem o i) Q E s₂) E s₁) E s) :
    wpAny (model prog w) A (eval (.Subscript value slice pos) env) Q E s := by
  refine Subscript_ (wpAny_mono h (fun o s₁ h₁ => wpAny_mono h₁ (fun i s₂ h₂ => ?_) fun _ _ x => x) fun _ _ x => x)
  obtain ⟨hT, h₂⟩ := h₂
  unfold subscriptTail
  refine wpAny_bind ?_
  rw [getitemInPython_of_ne hT.not_modules]
  refine wpAny_bind (wpAny_specialOf hT hl ?_)
  have fin : wpAny (model prog w) A (subscripted slice false o i) (fun r s₃ => wpAny (model prog w) A (letTemporaryGo value o r >>= fun _ => pure r) Q E s₃) E s₂ := by
    rw [hs o i]
    exact wpAny_operating (wpAny_mono h₂ (fun r s₃ h₃ => wpAny_bind (wpAny_letTemporaryGo (wpAny_pure h₃))) fun _ _ x => x)
  first
    | exact wpAny_pure (wpAny_bind fin)
    | exact wpAny_bind (wpAny_pure (wpAny_bind fin))
    | exact wpAny_bind fin

theorem dict_typeIs {X : Cx} {pins : List (Addr × Obj)} {σ : St} {H : Hp} {s : Shared} {a : Addr} {y : V} {o : Option V} (I : Inv X pins σ H s) (g : DGet H a y o) : s.TypeIs (.ref a) "dict" := by
  rcases g with ⟨kvs, k, e, _, _⟩ | ⟨kvs, k, b, e, _, _, _⟩
  · obtain ⟨_, _, vs, _, dd⟩ := dk_rd I.hok e
    exact dd.typeIs
  · obtain ⟨_, _, xs, _, dd⟩ := dt_rd I.hok e
    exact dd.typeIs

/-- d[y] -/
def tDGet (td ty : TE) : TE := fun σ H Q => td σ H fun x H1 => ty σ H1 fun y H2 => ∃ a v, x = .ref a ∧ DGet H2 a y (some v) ∧ Q v H2
/-- y in d, y not in d -/
def tDIn (ty td : TE) : TE := fun σ H Q => ty σ H fun y H1 => td σ H1 fun x H2 => ∃ a o, x = .ref a ∧ DGet H2 a y o ∧ Q (.bl o.isSome) H2
/-- d[y] = v -/
def sDPut (td ty tv : TE) : TS := fun D σ H => tv σ H fun v H1 => td σ H1 fun x H2 => ty σ H2 fun y H3 => ∃ a H4, x = .ref a ∧ DPut H3 a y v H4 ∧ D.nx σ H4

section
variable {X : Cx} {o i e value : Expr} {pos pos' tpos : Pos} {td ty tv : TE}
theorem pe_dget (hu : X.A.units + 1 < cLine) (ho : PE X o td) (hi : PE X i ty) (hs : NoSl i) : PE X (.Subscript o i pos) (tDGet td ty) := by
  intro pins s σ H Q I h
  refine subD_of PySem.F.slot_dict_getitem.lookup hs (thn (ho pins s σ H _ I h) fun u s1 ⟨x, H1, I1, rx, q1⟩ => thn (hi pins s1 σ H1 _ I1 q1) fun iv s2 ⟨y, H2, I2, ry, a, v, ex, g, q2⟩ => ?_)
  subst ex
  obtain rfl : u = Value.ref a := rx
  exact ⟨dict_typeIs I2 g, d_getItem hu I2 g ry fun w' s3 I3 rw' => ⟨v, H2, I3, rw', q2⟩⟩
theorem pc_din (hu : X.A.units + 1 < cLine) (hi : PE X i ty) (ho : PE X o td) : PC X .In i o (tDIn ty td) := by
  intro pins s σ H Q I h
  refine thn (hi pins s σ H _ I h) fun iv s1 ⟨y, H1, I1, ry, q1⟩ => thn (ho pins s1 σ H1 _ I1 q1) fun u s2 ⟨x, H2, I2, rx, a, ov, ex, g, q2⟩ => ?_
  subst ex
  obtain rfl : u = Value.ref a := rx
  exact d_in hu I2 g ry fun s3 I3 => ⟨.bl ov.isSome, H2, I3, rfl, q2⟩
theorem ps_dput (hu : X.A.units + 1 < cLine) (ho : PE X o td) (hi : PE X i ty) (hv : PE X value tv) (hs : swapsWith value (some (.Subscript o i pos')) pos.line X.env = pure false) :
    PS X (.Assign [.Subscript o i pos'] value pos) (sDPut td ty tv) := by
  intro pins s σ H D I h
  refine wpAny_Assign_Subscript (thn (hv pins s σ H _ I h) fun r s1 ⟨v, H1, I1, rv, q1⟩ => thn (ho pins s1 σ H1 _ I1 q1) fun u s2 ⟨x, H2, I2, rx, q2⟩ => thn (hi pins s2 σ H2 _ I2 q2) fun iv s3 ⟨y, H3, I3, ry, a, H4, ex, g, q3⟩ => ?_) hs
  subst ex
  obtain rfl : u = Value.ref a := rx
  exact d_setItem hu I3 g ry rv fun s4 I4 => ⟨σ, H4, I4, q3⟩
end


/-! ### displays -/
theorem dk_empty {P : Program} {w : World} {H : Hp} (h : Heap) (hb : sysModules < h.objs.size) : ObjOk P w H (h.push { cls := .type "dict", data := .dict #[] }) h.objs.size (.dK []) :=
  ⟨Nat.zero_le _, beq_eq_false_iff_ne.mpr (Ne.symm (Nat.ne_of_lt hb)), [], .nil, Heap.DictOf.new h⟩
/-- {}, to be a dict of the kind that is wanted -/
def tDNewK : TE := fun _ H Q => ∀ p, H p = none → Q (.ref p) (upd H p (.dK []))
section
variable {X : Cx} {pos : Pos}
theorem pe_dnewK : PE X (.Dict [] [] pos) tDNewK := fun pins s σ H Q I h =>
  wpAny_Dict_empty ⟨.ref s.heap.objs.size, _, I.laid (a := s.heap.objs.size) (o := .dK []) (t' := s.toks) (fun _ _ q => Heap.get?_push_of_some _ q) (Nat.le_refl _) (dk_empty s.heap I.big), rfl, h _ (I.hok.fresh (Nat.le_refl _))⟩
end




/-! ### methods -/
/-- a method call o.m(e) of a built-in, with one argument: what must be seen of the text -/
structure M1 (X : Cx) (o : Expr) (m : Str) (apos : Pos) (e : Expr) (cpos : Pos) : Prop where
  base : attributeBase o m X.env (eval o X.env) = eval o X.env
  few : ((backTo cpos (starEach [e] X.env)).all (fun x => !x.1) && (backToKw cpos (keywordEach [] X.env)).all (fun x => x.1.isSome)
    && decide (([e] : List Expr).length + ([] : List Keyword).length + (if ([] : List Keyword).isEmpty then 0 else 1) < 30)) = true
  line : (apos.endLine == cpos.line) = true
  trees : backTo cpos (starEach [e] X.env) = [(false, eval e X.env)]
structure M2 (X : Cx) (o : Expr) (m : Str) (apos : Pos) (e f : Expr) (cpos : Pos) : Prop where
  base : attributeBase o m X.env (eval o X.env) = eval o X.env
  few : ((backTo cpos (starEach [e, f] X.env)).all (fun x => !x.1) && (backToKw cpos (keywordEach [] X.env)).all (fun x => x.1.isSome)
    && decide (([e, f] : List Expr).length + ([] : List Keyword).length + (if ([] : List Keyword).isEmpty then 0 else 1) < 30)) = true
  line : (apos.endLine == cpos.line) = true
  trees : backTo cpos (starEach [e, f] X.env) = [(false, eval e X.env), (false, eval f X.env)]

/-- a is a dict, whatever its keys -/
def IsD (H : Hp) (a : Addr) : Prop := (∃ kvs, Rd H a (.dK kvs)) ∨ ∃ kvs, Rd H a (.dT kvs)
theorem isD_at {X : Cx} {pins : List (Addr × Obj)} {σ : St} {H : Hp} {s : Shared} {a : Addr} (I : Inv X pins σ H s) (d : IsD H a) :
    s.TypeIs (.ref a) "dict" ∧ (∀ b, Value.ref a = .ref b → ∃ ob, s.heap.get? b = some ob ∧ ob.dict = none) ∧ (a == sysModules) = false := by
  rcases d with ⟨kvs, e⟩ | ⟨kvs, e⟩
  · obtain ⟨_, hd, vs, _, dd⟩ := dk_rd I.hok e
    refine ⟨dd.typeIs, fun b q => ?_, hd⟩
    cases q
    obtain ⟨ob, _, _, h1, h2, _⟩ := dd
    exact ⟨ob, h1, h2.2.1⟩
  · obtain ⟨_, hd, xs, _, dd⟩ := dt_rd I.hok e
    refine ⟨dd.typeIs, fun b q => ?_, hd⟩
    cases q
    obtain ⟨ob, _, _, h1, h2, _⟩ := dd
    exact ⟨ob, h1, h2.2.1⟩

section
variable {X : Cx} {pins : List (Addr × Obj)} {σ : St} {H : Hp} {s : Shared} {a : Addr} {y d : V} {u r : Value} {o : Option V} {A : Around} {E : Value → Shared → Prop}
/-- d.get(y) -/
theorem d_get1 {Q : Value → Shared → Prop} (hu : A.units + 1 < cLine) (I : Inv X pins σ H s) (g : DGet H a y o) (ry : RelV y u) (h : ∀ w' s', Inv X pins σ H s' → RelV (o.getD .non) w' → Q w' s') :
    wpAny (model X.prog X.w) A (call (.builtin "dict.get") [.ref a, u]) Q E s := by
  rcases g with ⟨kvs, k, e, ey, l⟩ | ⟨kvs, k, b, e, ey, eb, l⟩
  · subst ey
    obtain ⟨z, hd, vs, rel, dd⟩ := dk_rd I.hok e
    refine call_meetsIn PySem.F.slot_dict_get dd.typeIs PySem.F.entry_dict_get (PySem.F.args_dict_get_2 _ _) (meets_dict_get (mixKind X.prog X.w) a (kV_is ry) hd) ⟨_, dd.mapOf, h _ _ (I.tok _) ?_⟩
    rw [l]
    exact (rel.val k).getD rfl
  · subst ey
    cases (show u = Value.ref b from ry)
    obtain ⟨z, hd, xs, rel, dd⟩ := dt_rd I.hok e
    refine call_meetsIn PySem.F.slot_dict_get dd.typeIs PySem.F.entry_dict_get (PySem.F.args_dict_get_2 _ _) (meetsH_dict_get (tupleKind (mixKind X.prog X.w)) a b hd) ⟨tupleKind_room_in1 hu, k, xs, key_of I.hok eb, dd, h _ _ (I.tok _) ?_⟩
    rw [l]
    exact (rel.val k).getD rfl
/-- d.get(y, x) -/
theorem d_get2 {Q : Value → Shared → Prop} (hu : A.units + 1 < cLine) (I : Inv X pins σ H s) (g : DGet H a y o) (ry : RelV y u) (rd : RelV d r) (h : ∀ w' s', Inv X pins σ H s' → RelV (o.getD d) w' → Q w' s') :
    wpAny (model X.prog X.w) A (call (.builtin "dict.get") [.ref a, u, r]) Q E s := by
  rcases g with ⟨kvs, k, e, ey, l⟩ | ⟨kvs, k, b, e, ey, eb, l⟩
  · subst ey
    obtain ⟨z, hd, vs, rel, dd⟩ := dk_rd I.hok e
    refine call_meetsIn PySem.F.slot_dict_get dd.typeIs PySem.F.entry_dict_get (PySem.F.args_dict_get_3 _ _ _) (meets_dict_get_default (mixKind X.prog X.w) a (kV_is ry) hd r) ⟨_, dd.mapOf, h _ _ (I.tok _) ?_⟩
    rw [l]
    exact (rel.val k).getD rd
  · subst ey
    cases (show u = Value.ref b from ry)
    obtain ⟨z, hd, xs, rel, dd⟩ := dt_rd I.hok e
    refine call_meetsIn PySem.F.slot_dict_get dd.typeIs PySem.F.entry_dict_get (PySem.F.args_dict_get_3 _ _ _) (meetsH_dict_get_default (tupleKind (mixKind X.prog X.w)) a b hd r) ⟨tupleKind_room_in1 hu, k, xs, key_of I.hok eb, dd, h _ _ (I.tok _) ?_⟩
    rw [l]
    exact (rel.val k).getD rd
end

def tDGet1 (td ty : TE) : TE := fun σ H Q => td σ H fun x H1 => ∃ a, x = .ref a ∧ IsD H1 a ∧ ty σ H1 fun y H2 => ∃ o, DGet H2 a y o ∧ Q (o.getD .non) H2
def tDGet2 (td ty tx : TE) : TE := fun σ H Q => td σ H fun x H1 => ∃ a, x = .ref a ∧ IsD H1 a ∧ ty σ H1 fun y H2 => tx σ H2 fun z H3 => ∃ o, DGet H3 a y o ∧ Q (o.getD z) H3
/-- d.pop(k): there; d.pop(k, x): there or not -/
def tDPop1 (td ty : TE) : TE := fun σ H Q => td σ H fun x H1 => ∃ a, x = .ref a ∧ IsD H1 a ∧ ty σ H1 fun y H2 => ∃ kvs k v, H2 a = some (.dK kvs) ∧ y = kV k ∧ valV kvs k = some v ∧ Q v (upd H2 a (.dK (dropK kvs k)))
section
variable {X : Cx} {o e f : Expr} {apos cpos : Pos} {td ty tx : TE}
theorem pe_dget1 (hu : X.A.units + 1 < cLine) (ho : PE X o td) (he : PE X e ty) (m : M1 X o "get" apos e cpos) : PE X (.Call (.Attribute o "get" apos) [e] [] cpos) (tDGet1 td ty) := by
  intro pins s σ H Q I h
  refine wpAny_Call_method m.base m.few m.line PySem.F.plainAttrs_dict PySem.F.slot_dict_get PySem.F.type_dict_get (thn (ho pins s σ H _ I h) fun u s1 ⟨x, H1, I1, rx, a, ex, d, q1⟩ => ?_)
  subst ex
  obtain rfl : u = Value.ref a := rx
  obtain ⟨t1, t2, _⟩ := isD_at I1 d
  refine ⟨t1, t2, ?_⟩
  rw [m.trees]
  refine Calls.callWith_builtin rfl (Calls.evalArgs_plain (Calls.spliced_cons (thn (he pins s1 σ H1 _ I1 q1) fun iv s2 ⟨y, H2, I2, ry, ov, g, q2⟩ => Calls.spliced_nil ?_)))
  exact d_get1 hu I2 g ry fun w' s3 I3 rw' => ⟨_, H2, I3, rw', q2⟩
theorem pe_dget2 (hu : X.A.units + 1 < cLine) (ho : PE X o td) (he : PE X e ty) (hf : PE X f tx) (m : M2 X o "get" apos e f cpos) : PE X (.Call (.Attribute o "get" apos) [e, f] [] cpos) (tDGet2 td ty tx) := by
  intro pins s σ H Q I h
  refine wpAny_Call_method m.base m.few m.line PySem.F.plainAttrs_dict PySem.F.slot_dict_get PySem.F.type_dict_get (thn (ho pins s σ H _ I h) fun u s1 ⟨x, H1, I1, rx, a, ex, d, q1⟩ => ?_)
  subst ex
  obtain rfl : u = Value.ref a := rx
  obtain ⟨t1, t2, _⟩ := isD_at I1 d
  refine ⟨t1, t2, ?_⟩
  rw [m.trees]
  refine Calls.callWith_builtin rfl (Calls.evalArgs_plain (Calls.spliced_cons (thn (he pins s1 σ H1 _ I1 q1) fun iv s2 ⟨y, H2, I2, ry, q2⟩ =>
    Calls.spliced_cons (thn (hf pins s2 σ H2 _ I2 q2) fun fv s3 ⟨z, H3, I3, rz, ov, g, q3⟩ => Calls.spliced_nil ?_))))
  exact d_get2 hu I3 g ry rz fun w' s4 I4 rw' => ⟨_, H3, I4, rw', q3⟩
theorem pe_dpop1 (ho : PE X o td) (he : PE X e ty) (m : M1 X o "pop" apos e cpos) : PE X (.Call (.Attribute o "pop" apos) [e] [] cpos) (tDPop1 td ty) := by
  intro pins s σ H Q I h
  refine wpAny_Call_method m.base m.few m.line PySem.F.plainAttrs_dict PySem.F.slot_dict_pop PySem.F.type_dict_pop (thn (ho pins s σ H _ I h) fun u s1 ⟨x, H1, I1, rx, a, ex, d, q1⟩ => ?_)
  subst ex
  obtain rfl : u = Value.ref a := rx
  obtain ⟨t1, t2, _⟩ := isD_at I1 d
  refine ⟨t1, t2, ?_⟩
  rw [m.trees]
  refine Calls.callWith_builtin rfl (Calls.evalArgs_plain (Calls.spliced_cons (thn (he pins s1 σ H1 _ I1 q1) fun iv s2 ⟨y, H2, I2, ry, kvs, k, v, ea, ey, l, q2⟩ => Calls.spliced_nil ?_)))
  subst ey
  exact d_pop I2 ea ry l (.inl rfl) fun w' s3 I3 rw' => ⟨v, _, I3, rw', q2⟩
end

/-! ### dict(d): a copy -/
section
variable {X : Cx} {pins : List (Addr × Obj)} {σ : St} {H : Hp} {s : Shared} {a : Addr} {kvs : List (Key × V)} {A : Around} {E : Value → Shared → Prop}
end


section
variable {X : Cx} {pins : List (Addr × Obj)} {σ : St} {H : Hp} {s : Shared} {a : Addr} {y : V} {u : Value} {A : Around} {E : Value → Shared → Prop}
end
/-! ### a dict's pairs: keys that differ -/
section
variable {κ : Type} [DecidableEq κ]
theorem valV_not {kvs : List (κ × V)} {k : κ} (h : valV kvs k = none) : ¬ k ∈ kvs.map (·.1) := by
  intro m
  obtain ⟨p, hp, e⟩ := List.mem_map.mp m
  have q : (kvs.any fun kv => decide (kv.1 = k)) = true := List.any_eq_true.mpr ⟨p, hp, decide_eq_true e⟩
  rw [valV_any, h] at q
  exact absurd q (by simp)
theorem valV_in {kvs : List (κ × V)} {k : κ} {v : V} (h : valV kvs k = some v) : k ∈ kvs.map (·.1) := by
  have q : (kvs.any fun kv => decide (kv.1 = k)) = true := by
    rw [valV_any, h]
    all_goals rfl
  obtain ⟨p, hp, e⟩ := List.any_eq_true.mp q
  exact List.mem_map.mpr ⟨p, hp, of_decide_eq_true e⟩
theorem dropK_pos {p : κ × V} {r : List (κ × V)} {k : κ} (e : p.1 = k) : dropK (p :: r) k = dropK r k := by
  unfold dropK
  rw [List.filter_cons, if_neg (by simp [e])]
theorem dropK_neg {p : κ × V} {r : List (κ × V)} {k : κ} (e : ¬ p.1 = k) : dropK (p :: r) k = p :: dropK r k := by
  unfold dropK
  rw [List.filter_cons, if_pos (by simp [e])]
end
end L2

set_option Elab.async false
set_option linter.all false
set_option maxRecDepth 100000
set_option maxHeartbeats 4000000
namespace L2
open PySem PySem.Spec PyProof.Rows PySem.W
theorem vals_ptw : ∀ (xs : List V) (us : List Value), xs.length = us.length → (∀ (i : Nat) x u, xs[i]? = some x → us[i]? = some u → RelV x u) → Vals xs us
  | [], [], _, _ => .nil
  | x :: r, u :: q, hl, h => .cons (h 0 x u rfl rfl) (vals_ptw r q (by simpa using hl) fun i y v h1 h2 => h (i + 1) y v h1 h2)
theorem vals_keys {P : Program} {w : World} {kvs : List (Key × V)} {vs : List (Key × Value)} {ks : List Int} {acc : Array Value} (rel : KV kvs vs) (hk : kvs.map (·.1) = ks.map (Sum.inl : Int → Key))
    (hacc : ItemsOf (fun i v => ∃ k x, vs[i]? = some (k, x) ∧ (mixKind P w).is k v = true) acc vs.length) : Vals (ks.map V.int) acc.toList := by
  have hl : vs.length = ks.length := by
    have := congrArg List.length hk
    rw [List.length_map, List.length_map] at this
    rw [← rel.length, this]
  refine vals_ptw _ _ (by rw [List.length_map, ← hl, ← hacc.1]; exact (Array.length_toList (xs := acc)).symm) fun i x u h1 h2 => ?_
  obtain ⟨k, y, e, hi⟩ := hacc.2 i u (by rw [← Array.getElem?_toList]; exact h2)
  have hks : (vs.map (·.1))[i]? = some k := by rw [List.getElem?_map, e]; rfl
  rw [← rel.keys, hk, List.getElem?_map] at hks
  rw [List.getElem?_map] at h1
  cases ej : ks[i]? with
  | none => rw [ej] at h1; cases h1
  | some j =>
    rw [ej] at h1 hks
    cases h1; cases hks
    have hi' : keyIs (Sum.inl j) u = true := hi
    rcases keyIs_shape hi' with ⟨i', t, e1, e2⟩ | ⟨x', t, e1, e2⟩
    · cases e1
      exact ⟨t, e2⟩
    · cases e1
section
variable {X : Cx}
/-- sorted(d) of a dict with few keys, ints -/
theorem call_sortedD (hh : X.A.handled = none) : CallR X (.builtin "sorted") (fun xs H Q => ∃ (p : Addr) (kvs : List (Key × V)) (ks : List Int), xs = [.ref p] ∧ Rd H p (.dK kvs) ∧ kvs.map (·.1) = ks.map (Sum.inl : Int → Key) ∧ ks.length < 64 ∧
    ∀ (l : Addr) (ns' : List Int), H l = none → ns'.Perm ks → ns'.Pairwise (· ≤ ·) → Q (.ref l) (upd H l (.lst (ns'.map V.int)))) := by
  intro pins s σ H xs us Q I r h
  obtain ⟨p, kvs, ks, rfl, hq, hk, h64, q⟩ := h
  obtain ⟨u, rfl, rx⟩ := vals1 r
  cases rx
  obtain ⟨z, hd, vs, rel, dd⟩ := dk_rd I.hok hq
  obtain ⟨ep, da⟩ := dd.dictAt
  have hl : vs.length = ks.length := by
    have := congrArg List.length hk
    rw [List.length_map, List.length_map] at this
    rw [← rel.length, this]
  have h64' : vs.length < 64 := by omega
  refine Calls.call_function_entry kind_sorted plain_sorted entry_sorted (args_sorted1 _) ?_
  unfold Builtin.«sorted»
  refine wpAny_bind (m := checkCount "sorted" 1 1 _) (wpAny_pure ?_)
  refine wpAny_bind (kdu_collect (A := X.A.in1) (kdl_dict (knd := mixKind X.prog X.w) (kvs := vs) (ep := ep) hd) hh da (by rw [← rel.length]; exact z) fun h' tk acc hkeep hacc => ?_)
  have hv := vals_keys rel hk hacc
  have hal : acc.toList.length < 64 := by rw [Array.length_toList, hacc.1]; exact h64'
  have hline : (64 : Nat) ≤ sizeLine := by decide
  refine wpAny_bind (wpAny_newList ?_ (Nat.le_of_lt (Nat.lt_of_lt_of_le hal hline)))
  have hoL : (h'.push (seqObj "list" acc.toList.toArray 0)).get? h'.objs.size = some (seqObj "list" acc.toList.toArray 0) := Heap.get?_push_size _ rfl
  show wpAny _ _ _ _ _ { s with heap := h'.push (seqObj "list" acc.toList.toArray 0), toks := tk }
  refine wpAny_bind (wpAny_holding (wpAny_call_entry slot_list_sort ⟨_, hoL, rfl⟩ entry_list_sort (list_sort_tree hoL (intsAre_of hv) hal fun out ns' a1 a2 a3 => ⟨_, rfl, ?_⟩) (args_list_sort _)))
  refine wpAny_pure ⟨_, rfl, ?_⟩
  have I' := I.kept (t' := tk) hkeep
  obtain ⟨e, he⟩ := sortedHeap_at (n := 0) (vs := acc.toList) (out := out) hoL
  have hl' : ns'.length = ks.length := a2.length_eq
  refine ⟨.ref h'.objs.size, _, I'.laid (a := h'.objs.size) (o := .lst (ns'.map V.int)) (t' := tk) (fun b o hb => ?_) (Nat.le_refl _) (show ObjOk X.prog X.w _ _ _ (.lst (ns'.map V.int)) from ⟨by rw [List.length_map]; exact Nat.le_of_lt (Nat.lt_of_lt_of_le (by omega : ns'.length < 64) hline), out.toList, e, vals_of_ints a1, he⟩), rfl, q _ ns' (I'.hok.fresh (Nat.le_refl _)) a2 a3⟩
  have hlt : b < h'.objs.size := Heap.lt_size hb
  rw [sortedHeap_old (Nat.ne_of_lt hlt) (by rw [size_push']; exact Nat.lt_succ_of_lt hlt)]
  exact Heap.get?_push_of_some _ hb
/-- list(d) of a dict whose keys are ints -/
theorem call_listD (hh : X.A.handled = none) : CallR X (.type "list") (fun xs H Q => ∃ (p : Addr) (kvs : List (Key × V)) (ks : List Int), xs = [.ref p] ∧ Rd H p (.dK kvs) ∧ kvs.map (·.1) = ks.map (Sum.inl : Int → Key) ∧
    ∀ (l : Addr), H l = none → Q (.ref l) (upd H l (.lst (ks.map V.int)))) := by
  intro pins s σ H xs us Q I r h
  obtain ⟨p, kvs, ks, rfl, hq, hk, q⟩ := h
  obtain ⟨u, rfl, rx⟩ := vals1 r
  cases rx
  obtain ⟨z, hd, vs, rel, dd⟩ := dk_rd I.hok hq
  obtain ⟨ep, da⟩ := dd.dictAt
  have hl : kvs.length = ks.length := by
    have := congrArg List.length hk
    rw [List.length_map, List.length_map] at this; exact this
  refine kdl_call (kdl_dict (knd := mixKind X.prog X.w) (kvs := vs) (ep := ep) hd) hh da (by rw [← rel.length]; exact z) fun h' tk acc' c' hkeep hS hacc => ?_
  have hv := vals_keys rel hk hacc
  refine ⟨.ref s.heap.objs.size, _, I.laid (a := s.heap.objs.size) (o := .lst (ks.map V.int)) (t' := tk) hkeep (Nat.le_refl _) (show ObjOk X.prog X.w _ _ _ (.lst (ks.map V.int)) from ⟨by rw [List.length_map, ← hl]; exact z, acc'.toList, c', hv, ?_⟩), rfl, q _ (I.hok.fresh (Nat.le_refl _))⟩
  show h'.get? s.heap.objs.size = some (seqObj "list" acc'.toList.toArray c')
  rw [Array.toArray_toList]; exact hS
end
end L2

set_option Elab.async false
set_option linter.all false
set_option maxRecDepth 100000
set_option maxHeartbeats 4000000
/-! What the hands hold of each sender, as data and as it lies in the heap. -/
namespace BB
open PySem L2
inductive Told where
  | lost (s p : Int)
  | parcel (s : Int) (ns : List Int) (p : Int)
def toldD : Told → D
  | .lost s p => .tup [.str "lost", .int s, .int p]
  | .parcel s ns p => .tup [.str "parcel", .int s, intsD ns, .int p]
structure Hs where
  ks : List Int
  f : Int → Int × List Int
  news : List Told
def Hs.nil : Hs := ⟨[], fun _ => (0, []), []⟩
def addK (ks : List Int) (k : Int) : List Int := if k ∈ ks then ks else ks ++ [k]
def delK (ks : List Int) (k : Int) : List Int := ks.filter fun j => decide (j ≠ k)
def setF (f : Int → Int × List Int) (k : Int) (v : Int × List Int) : Int → Int × List Int := fun j => if j = k then v else f j
theorem setF_eq {f : Int → Int × List Int} {k : Int} {v : Int × List Int} : setF f k v k = v := if_pos rfl
theorem setF_ne {f : Int → Int × List Int} {k j : Int} {v : Int × List Int} (h : j ≠ k) : setF f k v j = f j := if_neg h
def Hs.hold (st : Hs) (k : Int) (ns : List Int) (due : Int) : Hs := ⟨addK st.ks k, setF st.f k (due, ns), st.news⟩
def Hs.drop (st : Hs) (k : Int) : Hs := ⟨delK st.ks k, st.f, st.news⟩
def Hs.tell (st : Hs) (t : Told) : Hs := ⟨st.ks, st.f, st.news ++ [t]⟩
def Hs.lose (st : Hs) (k p : Int) : Hs := if k ∈ st.ks then (st.drop k).tell (.lost k p) else st
def Hs.keep (st : Hs) (k : Int) (ns : List Int) (start : Int) : Hs × Bool :=
  if k ∈ st.ks ∧ ns.head? = some (st.f k).1 then (st.hold k ((st.f k).2 ++ ns.tail) ((st.f k).1 + 1), true)
  else if ns.head? = some 0 then ((st.lose k start).hold k ns.tail 1, true)
  else (st.lose k start, false)
def Hs.give (st : Hs) (k place : Int) : Hs := (st.drop k).tell (.parcel k (st.f k).2 place)
def Hs.take (st : Hs) (l : Int) (ns : List Int) (start place : Int) : Hs :=
  if (st.keep (l / 2) ns start).2 = true ∧ l % 2 = 1 then (st.keep (l / 2) ns start).1.give (l / 2) place else (st.keep (l / 2) ns start).1
def Hs.ev (st : Hs) : Ev → Hs
  | .box l ns s p => st.take l ns s p
  | _ => st
def Hs.run (st : Hs) (es : List Ev) : Hs := es.foldl Hs.ev st
theorem Hs.run_snoc (st : Hs) (es : List Ev) (e : Ev) : st.run (es ++ [e]) = (st.run es).ev e := by
  unfold Hs.run
  rw [List.foldl_append]; rfl
theorem addK_len (ks : List Int) (k : Int) : (addK ks k).length ≤ ks.length + 1 := by
  unfold addK
  split
  · exact Nat.le_succ _
  · rw [List.length_append]; exact Nat.le_refl _
theorem delK_len (ks : List Int) (k : Int) : (delK ks k).length ≤ ks.length := List.length_filter_le _ _
theorem mem_addK {ks : List Int} {k j : Int} (h : j ∈ addK ks k) : j = k ∨ j ∈ ks := by
  unfold addK at h
  split at h
  · exact .inr h
  · rcases List.mem_append.mp h with z | z
    · exact .inr z
    · exact .inl (by simpa using z)
theorem self_addK {ks : List Int} {k : Int} : k ∈ addK ks k := by
  unfold addK
  split
  · assumption
  · exact List.mem_append_right _ (List.Mem.head _)
theorem mem_delK {ks : List Int} {k j : Int} (h : j ∈ delK ks k) : j ∈ ks := (List.mem_filter.mp h).1
theorem not_delK {ks : List Int} {k : Int} : k ∉ delK ks k := fun h => by
  have := (List.mem_filter.mp h).2
  simp at this
/-- how much is held -/
structure HsOk (st : Hs) (W M : Nat) : Prop where
  a : st.ks.length ≤ W
  b : st.news.length ≤ M
  c : ∀ k ∈ st.ks, (st.f k).2.length ≤ W
  d : ∀ k ∈ st.ks, 1 ≤ (st.f k).1
  e : ∀ t ∈ st.news, (toldD t).size ≤ W + 10
theorem HsOk.nil : HsOk Hs.nil 0 0 := ⟨Nat.le_refl _, Nat.le_refl _, (fun k h => nomatch h), (fun k h => nomatch h), (fun k h => nomatch h)⟩
theorem HsOk.mono {st : Hs} {W M W' M' : Nat} (h : HsOk st W M) (hw : W ≤ W') (hm : M ≤ M') : HsOk st W' M' :=
  ⟨Nat.le_trans h.a hw, Nat.le_trans h.b hm, fun k hk => Nat.le_trans (h.c k hk) hw, h.d, fun t ht => Nat.le_trans (h.e t ht) (Nat.add_le_add_right hw _)⟩
theorem HsOk.hold {st : Hs} {W M : Nat} {k due : Int} {ns : List Int} (h : HsOk st W M) (hn : ns.length ≤ W + 1) (hd : 1 ≤ due) : HsOk (st.hold k ns due) (W + 1) M := by
  refine ⟨Nat.le_trans (addK_len _ _) (Nat.succ_le_succ h.a), h.b, fun j hj => ?_, fun j hj => ?_, fun t ht => Nat.le_trans (h.e t ht) (by omega)⟩
  · show (setF st.f k (due, ns) j).2.length ≤ _
    by_cases z : j = k
    · rw [z, setF_eq]; exact hn
    · rw [setF_ne z]
      rcases mem_addK hj with y | y
      · exact absurd y z
      · exact Nat.le_succ_of_le (h.c j y)
  · show 1 ≤ (setF st.f k (due, ns) j).1
    by_cases z : j = k
    · rw [z, setF_eq]; exact hd
    · rw [setF_ne z]
      rcases mem_addK hj with y | y
      · exact absurd y z
      · exact h.d j y
theorem HsOk.drop {st : Hs} {W M : Nat} {k : Int} (h : HsOk st W M) : HsOk (st.drop k) W M :=
  ⟨Nat.le_trans (delK_len _ _) h.a, h.b, fun j hj => h.c j (mem_delK hj), fun j hj => h.d j (mem_delK hj), h.e⟩
theorem HsOk.tell {st : Hs} {W M : Nat} {t : Told} (h : HsOk st W M) (ht : (toldD t).size ≤ W + 10) : HsOk (st.tell t) W (M + 1) :=
  ⟨h.a, by show (st.news ++ [t]).length ≤ _; rw [List.length_append]; exact Nat.succ_le_succ h.b, h.c, h.d, fun u hu => by
    rcases List.mem_append.mp hu with z | z
    · exact h.e u z
    · have e : u = t := by simpa using z
      rw [e]; exact ht⟩
theorem HsOk.lose {st : Hs} {W M : Nat} {k p : Int} (h : HsOk st W M) : HsOk (st.lose k p) W (M + 1) := by
  unfold Hs.lose
  split
  · exact h.drop.tell (by show 4 ≤ W + 10; omega)
  · exact h.mono (Nat.le_refl _) (Nat.le_succ _)
theorem parcel_size (s : Int) (ns : List Int) (p : Int) : (toldD (.parcel s ns p)).size = ns.length + 5 := by
  show (1 + (1 + ((intsD ns).size + (1 + 0)))) + 1 = _
  rw [ints_size]; omega
theorem HsOk.keep {st : Hs} {W M : Nat} {k p : Int} {ns : List Int} (h : HsOk st W M) : HsOk (st.keep k ns p).1 (W + ns.length + 1) (M + 1) := by
  unfold Hs.keep
  have ht : ns.tail.length ≤ ns.length := by rw [List.length_tail]; omega
  split
  · rename_i c
    exact ((h.mono (Nat.le_add_right W ns.length) (Nat.le_succ M)).hold (by rw [List.length_append]; have := h.c k c.1; omega) (by have := h.d k c.1; omega))
  · split
    · exact (h.lose.mono (Nat.le_add_right W ns.length) (Nat.le_refl _)).hold (by omega) (by decide)
    · exact h.lose.mono (by omega) (Nat.le_refl _)
theorem Hs.keep_mem {st : Hs} {k p : Int} {ns : List Int} (h : (st.keep k ns p).2 = true) : k ∈ (st.keep k ns p).1.ks := by
  unfold Hs.keep at h ⊢
  split
  · exact self_addK
  · split
    · exact self_addK
    · rename_i c1 c2
      rw [if_neg c1, if_neg c2] at h; cases h
theorem HsOk.take {st : Hs} {W M : Nat} {l s p : Int} {ns : List Int} (h : HsOk st W M) : HsOk (st.take l ns s p) (W + ns.length + 1) (M + 2) := by
  have hk := HsOk.keep (k := l / 2) (p := s) (ns := ns) h
  unfold Hs.take
  split
  · rename_i c
    have hm := Hs.keep_mem c.1
    refine hk.drop.tell ?_
    rw [parcel_size]
    have := hk.c _ hm
    omega
  · exact hk.mono (Nat.le_refl _) (Nat.le_succ _)
theorem Hs.keep_ks (st : Hs) (k p : Int) (ns : List Int) : (st.keep k ns p).1.ks.length ≤ st.ks.length + 1 := by
  have hl : (st.lose k p).ks.length ≤ st.ks.length := by
    unfold Hs.lose
    split
    · exact delK_len _ _
    · exact Nat.le_refl _
  unfold Hs.keep
  split
  · exact addK_len _ _
  · split
    · exact Nat.le_trans (addK_len _ _) (Nat.succ_le_succ hl)
    · exact Nat.le_succ_of_le hl
theorem Hs.ev_ks (st : Hs) (e : Ev) : (st.ev e).ks.length ≤ st.ks.length + 1 := by
  cases e with
  | box l ns s p =>
    show (st.take l ns s p).ks.length ≤ _
    unfold Hs.take
    split
    · exact Nat.le_trans (delK_len _ _) (Hs.keep_ks _ _ _ _)
    · exact Hs.keep_ks _ _ _ _
  | _ => exact Nat.le_succ _
theorem run_ks0 : ∀ (es : List Ev) (st : Hs), (st.run es).ks.length ≤ st.ks.length + es.length
  | [], _ => Nat.le_refl _
  | e :: r, st => by
    have h1 := run_ks0 r (st.ev e)
    have h2 := Hs.ev_ks st e
    show ((st.ev e).run r).ks.length ≤ st.ks.length + (r.length + 1)
    omega
theorem run_ks (es : List Ev) : (Hs.nil.run es).ks.length ≤ es.length := by
  have := run_ks0 es Hs.nil
  have e : Hs.nil.ks.length = 0 := rfl
  omega
/-- what the boxes weigh -/
def bxW : Ev → Nat
  | .box _ ns _ _ => ns.length + 1
  | _ => 0
def bxWs : List Ev → Nat
  | [] => 0
  | e :: r => bxW e + bxWs r
theorem bxWs_append : ∀ xs ys : List Ev, bxWs (xs ++ ys) = bxWs xs + bxWs ys
  | [], ys => (Nat.zero_add _).symm
  | x :: r, ys => by show bxW x + bxWs (r ++ ys) = bxW x + bxWs r + bxWs ys; rw [bxWs_append r ys]; omega
theorem HsOk.ev {st : Hs} {W M : Nat} (h : HsOk st W M) (e : Ev) : HsOk (st.ev e) (W + bxW e) (M + 2) := by
  cases e with
  | box l ns s p => exact h.take
  | _ => exact h.mono (Nat.le_add_right _ _) (Nat.le_add_right _ _)
theorem HsOk.run : ∀ (es : List Ev) {st : Hs} {W M : Nat}, HsOk st W M → HsOk (st.run es) (W + bxWs es) (M + 2 * es.length)
  | [], _, _, _, h => h
  | e :: r, st, W, M, h => by
    have := HsOk.run r (h.ev e)
    refine this.mono ?_ ?_
    · show W + bxW e + bxWs r ≤ W + (bxW e + bxWs r); omega
    · show M + 2 + 2 * r.length ≤ M + 2 * (r.length + 1); omega
theorem told_sizes : ∀ {ts : List Told} {W : Nat}, (∀ t ∈ ts, (toldD t).size ≤ W + 10) → D.sizes (ts.map toldD) ≤ ts.length * (W + 10)
  | [], _, _ => Nat.zero_le _
  | t :: r, W, h => by
    have h1 := h t (List.Mem.head _)
    have h2 := told_sizes (ts := r) (W := W) fun u hu => h u (List.mem_cons_of_mem _ hu)
    show (toldD t).size + D.sizes (r.map toldD) ≤ (r.length + 1) * (W + 10)
    rw [Nat.add_mul]; omega
/-! ### dicts with int keys -/
theorem valV_drop {k j : Key} : ∀ kvs : List (Key × V), valV (dropK kvs k) j = if j = k then none else valV kvs j
  | [] => by rw [show dropK ([] : List (Key × V)) k = [] from rfl, valV_nil]; split <;> rfl
  | p :: r => by
    have ih := valV_drop (k := k) (j := j) r
    by_cases e : p.1 = k
    · rw [dropK_pos e, ih]
      by_cases z : j = k
      · rw [if_pos z, if_pos z]
      · rw [if_neg z, if_neg z, valV_neg (fun y => z (y.symm.trans e))]
    · rw [dropK_neg e]
      by_cases y : p.1 = j
      · rw [valV_pos y, valV_pos y, if_neg (fun z => e (y.trans z))]
      · rw [valV_neg y, valV_neg y, ih]
def DictI (kvs : List (Key × V)) (ks : List Int) (R : Int → V → Prop) : Prop := kvs.map (·.1) = ks.map (Sum.inl : Int → Key) ∧ ∀ k v, valV kvs (.inl k) = some v → R k v
theorem DictI.len {kvs : List (Key × V)} {ks : List Int} {R : Int → V → Prop} (h : DictI kvs ks R) : kvs.length = ks.length := by
  have := congrArg List.length h.1
  rw [List.length_map, List.length_map] at this; exact this
theorem DictI.some {kvs : List (Key × V)} {ks : List Int} {R : Int → V → Prop} (h : DictI kvs ks R) {k : Int} (hk : k ∈ ks) : ∃ v, valV kvs (.inl k) = some v ∧ R k v := by
  cases e : valV kvs (.inl k) with
  | some v => exact ⟨v, rfl, h.2 k v e⟩
  | none => exact absurd (by rw [h.1]; exact List.mem_map_of_mem hk) (valV_not e)
theorem DictI.none {kvs : List (Key × V)} {ks : List Int} {R : Int → V → Prop} (h : DictI kvs ks R) {k : Int} (hk : k ∉ ks) : valV kvs (.inl k) = none := by
  cases e : valV kvs (.inl k) with
  | none => rfl
  | some v =>
    have := valV_in e
    rw [h.1] at this
    obtain ⟨j, hj, z⟩ := List.mem_map.mp this
    cases z
    exact absurd hj hk
theorem DictI.nil {R : Int → V → Prop} : DictI [] [] R := ⟨rfl, fun k v h => by rw [valV_nil] at h; cases h⟩
theorem putK_keys {kvs : List (Key × V)} {ks : List Int} {k : Int} {v : V} (h : kvs.map (·.1) = ks.map (Sum.inl : Int → Key)) : (putK kvs (.inl k) v).map (·.1) = (addK ks k).map (Sum.inl : Int → Key) := by
  unfold putK addK
  rw [valV_any]
  by_cases hk : k ∈ ks
  · rw [if_pos hk]
    have hs : (valV kvs (.inl k : Key)).isSome = true := by
      cases e : valV kvs (.inl k : Key) with
      | some v => rfl
      | none => exact absurd (by rw [h]; exact List.mem_map_of_mem hk) (valV_not e)
    rw [if_pos hs, List.map_map, ← h]
    apply List.map_congr_left
    intro p hp
    show (if p.1 = (.inl k : Key) then (p.1, v) else p).1 = p.1
    split <;> rfl
  · rw [if_neg hk]
    have hs : ¬ (valV kvs (.inl k : Key)).isSome = true := by
      intro z
      obtain ⟨v, e⟩ := Option.isSome_iff_exists.mp z
      have := valV_in e
      rw [h] at this
      obtain ⟨j, hj, y⟩ := List.mem_map.mp this
      cases y
      exact hk hj
    rw [if_neg hs, List.map_append, List.map_append, h]; rfl
theorem DictI.put {kvs : List (Key × V)} {ks : List Int} {R R' : Int → V → Prop} {k : Int} {v : V} (h : DictI kvs ks R) (hR : ∀ j u, j ≠ k → R j u → R' j u) (hv : R' k v) : DictI (putK kvs (.inl k) v) (addK ks k) R' := by
  refine ⟨putK_keys h.1, fun j u e => ?_⟩
  rw [valV_put] at e
  by_cases z : j = k
  · subst z
    rw [if_pos rfl] at e
    cases e; exact hv
  · rw [if_neg (fun y => z (Sum.inl.inj y))] at e
    exact hR j u z (h.2 j u e)
theorem DictI.drop {kvs : List (Key × V)} {ks : List Int} {R : Int → V → Prop} {k : Int} (h : DictI kvs ks R) : DictI (dropK kvs (.inl k)) (delK ks k) R := by
  refine ⟨?_, fun j u e => ?_⟩
  · have h1 := h.1
    clear h
    unfold dropK delK
    induction kvs generalizing ks with
    | nil =>
      cases ks with
      | nil => rfl
      | cons j r => cases h1
    | cons p q ih =>
      cases ks with
      | nil => cases h1
      | cons j r =>
        have e1 : p.1 = (.inl j : Key) := (List.cons.inj h1).1
        have e2 := ih (List.cons.inj h1).2
        by_cases z : j = k
        · rw [List.filter_cons_of_neg (by simp [e1, z]), List.filter_cons_of_neg (by simp [z])]; exact e2
        · have z' : ¬ (.inl j : Key) = .inl k := fun y => z (Sum.inl.inj y)
          rw [List.filter_cons_of_pos (by simp [e1, z]), List.filter_cons_of_pos (by simp [z]), List.map_cons, List.map_cons, e2, e1]
  · rw [valV_drop] at e
    split at e
    · cases e
    · exact h.2 j u e
theorem DictI.imp {kvs : List (Key × V)} {ks : List Int} {R R' : Int → V → Prop} (h : DictI kvs ks R) (hR : ∀ j u, R j u → R' j u) : DictI kvs ks R' := ⟨h.1, fun j u e => hR j u (h.2 j u e)⟩
/-! ### the Hands -/
def hf (dd dn nl : Addr) : List (Str × V) := [("due", .ref dd), ("numbers", .ref dn), ("news", .ref nl)]
theorem h12 : ¬ (("due" : Str) = "numbers") := by decide +kernel
theorem h13 : ¬ (("due" : Str) = "news") := by decide +kernel
theorem h23 : ¬ (("numbers" : Str) = "news") := by decide +kernel
section
variable {dd dn nl : Addr}
theorem hf_due : (hf dd dn nl).lookup ("due" : Str) = some (.ref dd) := look_eq
theorem hf_num : (hf dd dn nl).lookup ("numbers" : Str) = some (.ref dn) := by unfold hf; rw [look_ne (Ne.symm h12), look_eq]
theorem hf_news : (hf dd dn nl).lookup ("news" : Str) = some (.ref nl) := by unfold hf; rw [look_ne (Ne.symm h13), look_ne (Ne.symm h23), look_eq]
theorem hf_no {m : Str} (h1 : ¬ m = "due") (h2 : ¬ m = "numbers") (h3 : ¬ m = "news") : (hf dd dn nl).lookup m = none := by
  unfold hf; rw [look_ne h1, look_ne h2, look_ne h3]; rfl
end
structure HandsAt (CH : Addr) (H : Hp) (x dx dd dn nl : Addr) (st : Hs) : Prop where
  ob : H x = some (.ins CH dx (hf dd dn nl))
  du : ∃ kvs, H dd = some (.dK kvs) ∧ DictI kvs st.ks (fun k v => v = .int (st.f k).1)
  nu : ∃ kvs, H dn = some (.dK kvs) ∧ DictI kvs st.ks (fun k v => ∃ a, v = .ref a ∧ Off [dd, dn, nl] H a = some (.lst ((st.f k).2.map V.int)))
  nw : ∃ vs, H nl = some (.lst vs) ∧ All2 (Rep (Off [dd, dn, nl] H)) vs (st.news.map toldD)
  ne : dd ≠ dn
section
variable {CH x dx dd dn nl : Addr} {H : Hp} {st : Hs}
theorem HandsAt.n1 (h : HandsAt CH H x dx dd dn nl st) : dd ≠ nl := by
  obtain ⟨k, e, _⟩ := h.du
  obtain ⟨v, e', _⟩ := h.nw
  exact ne_of e e' (by intro z; cases z)
theorem HandsAt.n2 (h : HandsAt CH H x dx dd dn nl st) : dn ≠ nl := by
  obtain ⟨k, e, _⟩ := h.nu
  obtain ⟨v, e', _⟩ := h.nw
  exact ne_of e e' (by intro z; cases z)
theorem HandsAt.n3 (h : HandsAt CH H x dx dd dn nl st) : x ≠ dd ∧ x ≠ dn ∧ x ≠ nl := by
  obtain ⟨k, e, _⟩ := h.du
  obtain ⟨k', e', _⟩ := h.nu
  obtain ⟨v, e'', _⟩ := h.nw
  exact ⟨ne_of h.ob e (by intro z; cases z), ne_of h.ob e' (by intro z; cases z), ne_of h.ob e'' (by intro z; cases z)⟩
theorem HandsAt.mono {H' : Hp} (h : HandsAt CH H x dx dd dn nl st) (s : Same H H') : HandsAt CH H' x dx dd dn nl st := by
  obtain ⟨kd, e1, d1⟩ := h.du
  obtain ⟨kn, e2, d2⟩ := h.nu
  obtain ⟨vs, e3, d3⟩ := h.nw
  exact ⟨s _ _ h.ob, ⟨kd, s _ _ e1, d1⟩, ⟨kn, s _ _ e2, d2.imp fun j u ⟨a, ea, ha⟩ => ⟨a, ea, off_same s _ _ ha⟩⟩, ⟨vs, s _ _ e3, reps_mono (off_same s) d3⟩, h.ne⟩
/-- numbers[k] = a; due[k] = d -/
theorem HandsAt.hold {kd kn : List (Key × V)} {k d : Int} {ns : List Int} {a : Addr} (h : HandsAt CH H x dx dd dn nl st) (e1 : H dd = some (.dK kd)) (d1 : DictI kd st.ks (fun k v => v = .int (st.f k).1))
    (e2 : H dn = some (.dK kn)) (d2 : DictI kn st.ks (fun k v => ∃ a, v = .ref a ∧ Off [dd, dn, nl] H a = some (.lst ((st.f k).2.map V.int)))) (ha : Off [dd, dn, nl] H a = some (.lst (ns.map V.int))) :
    HandsAt CH (upd (upd H dn (.dK (putK kn (.inl k) (.ref a)))) dd (.dK (putK kd (.inl k) (.int d)))) x dx dd dn nl (st.hold k ns d) := by
  have eo : Off [dd, dn, nl] (upd (upd H dn (.dK (putK kn (.inl k) (.ref a)))) dd (.dK (putK kd (.inl k) (.int d)))) = Off [dd, dn, nl] H := by rw [off_upd (by simp), off_upd (by simp)]
  obtain ⟨m1, m2, m3⟩ := h.n3
  have n1 := h.n1
  have n2 := h.n2
  obtain ⟨vs, e3, d3⟩ := h.nw
  refine ⟨by rw [upd_ne m1, upd_ne m2]; exact h.ob, ⟨_, upd_same, d1.put (fun j u z e => ?_) ?_⟩, ⟨_, by rw [upd_ne h.ne.symm, upd_same], d2.put (fun j u z e => ?_) ?_⟩, ⟨vs, by rw [upd_ne n1.symm, upd_ne n2.symm]; exact e3, by rw [eo]; exact d3⟩, h.ne⟩
  · show u = .int (setF st.f k (d, ns) j).1
    rw [setF_ne z]; exact e
  · show V.int d = .int (setF st.f k (d, ns) k).1
    rw [setF_eq]
  · obtain ⟨b, eb, hb⟩ := e
    refine ⟨b, eb, ?_⟩
    show _ = some (HO.lst ((setF st.f k (d, ns) j).2.map V.int))
    rw [eo, setF_ne z]; exact hb
  · refine ⟨a, rfl, ?_⟩
    show _ = some (HO.lst ((setF st.f k (d, ns) k).2.map V.int))
    rw [eo, setF_eq]; exact ha
/-- due.pop(k); numbers.pop(k) -/
theorem HandsAt.drop {kd kn : List (Key × V)} {k : Int} (h : HandsAt CH H x dx dd dn nl st) (e1 : H dd = some (.dK kd)) (d1 : DictI kd st.ks (fun k v => v = .int (st.f k).1))
    (e2 : H dn = some (.dK kn)) (d2 : DictI kn st.ks (fun k v => ∃ a, v = .ref a ∧ Off [dd, dn, nl] H a = some (.lst ((st.f k).2.map V.int)))) :
    HandsAt CH (upd (upd H dd (.dK (dropK kd (.inl k)))) dn (.dK (dropK kn (.inl k)))) x dx dd dn nl (st.drop k) := by
  have eo : Off [dd, dn, nl] (upd (upd H dd (.dK (dropK kd (.inl k)))) dn (.dK (dropK kn (.inl k)))) = Off [dd, dn, nl] H := by rw [off_upd (by simp), off_upd (by simp)]
  obtain ⟨m1, m2, m3⟩ := h.n3
  have n1 := h.n1
  have n2 := h.n2
  obtain ⟨vs, e3, d3⟩ := h.nw
  refine ⟨by rw [upd_ne m2, upd_ne m1]; exact h.ob, ⟨_, by rw [upd_ne h.ne, upd_same], d1.drop⟩, ⟨_, upd_same, d2.drop.imp fun j u ⟨b, eb, hb⟩ => ⟨b, eb, by rw [eo]; exact hb⟩⟩, ⟨vs, by rw [upd_ne n2.symm, upd_ne n1.symm]; exact e3, by rw [eo]; exact d3⟩, h.ne⟩
/-- news.append(t) -/
theorem HandsAt.tell {vs : List V} {u : V} {t : Told} (h : HandsAt CH H x dx dd dn nl st) (e3 : H nl = some (.lst vs)) (d3 : All2 (Rep (Off [dd, dn, nl] H)) vs (st.news.map toldD)) (r : Rep (Off [dd, dn, nl] H) u (toldD t)) :
    HandsAt CH (upd H nl (.lst (vs ++ [u]))) x dx dd dn nl (st.tell t) := by
  have eo : Off [dd, dn, nl] (upd H nl (.lst (vs ++ [u]))) = Off [dd, dn, nl] H := by rw [off_upd (by simp)]
  obtain ⟨m1, m2, m3⟩ := h.n3
  obtain ⟨kd, e1, d1⟩ := h.du
  obtain ⟨kn, e2, d2⟩ := h.nu
  refine ⟨by rw [upd_ne m3]; exact h.ob, ⟨_, by rw [upd_ne h.n1]; exact e1, d1⟩, ⟨_, by rw [upd_ne h.n2]; exact e2, d2.imp fun j u ⟨b, eb, hb⟩ => ⟨b, eb, by rw [eo]; exact hb⟩⟩, ⟨_, upd_same, ?_⟩, h.ne⟩
  show All2 _ _ ((st.news ++ [t]).map toldD)
  rw [eo, List.map_append]
  exact d3.snoc r
theorem HandsAt.news_len {vs : List V} (e : All2 (Rep (Off [dd, dn, nl] H)) vs (st.news.map toldD)) : vs.length = st.news.length := by rw [e.length_eq, List.length_map]
end
/-- all but the hands' own stays -/
abbrev Fr3 (dd dn nl : Addr) (H H' : Hp) : Prop := Same (Off [dd, dn, nl] H) (Off [dd, dn, nl] H')
theorem fr_upd {dd dn nl e : Addr} {H : Hp} {o : HO} (h : e ∈ [dd, dn, nl]) : Fr3 dd dn nl H (upd H e o) := by
  unfold Fr3
  rw [off_upd h]; exact Same.refl _
theorem fr_new {dd dn nl : Addr} {H H' : Hp} (s : Same H H') : Fr3 dd dn nl H H' := off_same s
/-! ### promises -/
def HQ (CH x dx dd dn nl : Addr) (H : Hp) (st' : Hs) (Q : Hp → Prop) : Prop := ∀ H', Fr3 dd dn nl H H' → HandsAt CH H' x dx dd dn nl st' → Q H'
def spHInit (CH : Addr) : Sp := fun vs H Q _ => ∃ (x dx : Addr), vs = [.ref x] ∧ H x = some (.ins CH dx []) ∧
  ∀ dd dn nl H', H dd = none → H dn = none → H nl = none → (∀ b o, b ≠ x → H b = some o → H' b = some o) → HandsAt CH H' x dx dd dn nl Hs.nil → Q .non H'
def spHold (CH : Addr) : Sp := fun vs H Q _ => ∃ (x dx dd dn nl a : Addr) (st : Hs) (k d : Int) (ns : List Int), vs = [.ref x, .int k, .ref a, .int d] ∧ HandsAt CH H x dx dd dn nl st ∧ st.ks.length ≤ 100000 ∧ Off [dd, dn, nl] H a = some (.lst (ns.map V.int)) ∧ HQ CH x dx dd dn nl H (st.hold k ns d) (Q .non)
def spLetGo (CH : Addr) : Sp := fun vs H Q _ => ∃ (x dx dd dn nl : Addr) (st : Hs) (k : Int), vs = [.ref x, .int k] ∧ HandsAt CH H x dx dd dn nl st ∧ k ∈ st.ks ∧
  ∀ a, Off [dd, dn, nl] H a = some (.lst ((st.f k).2.map V.int)) → HQ CH x dx dd dn nl H (st.drop k) (Q (.ref a))
def spLose (CH : Addr) : Sp := fun vs H Q _ => ∃ (x dx dd dn nl : Addr) (st : Hs) (k p : Int), vs = [.ref x, .int k, .int p] ∧ HandsAt CH H x dx dd dn nl st ∧ st.news.length ≤ 100000 ∧ HQ CH x dx dd dn nl H (st.lose k p) (Q .non)
def spKeep (CH : Addr) : Sp := fun vs H Q _ => ∃ (x dx dd dn nl a : Addr) (st : Hs) (k p : Int) (ns : List Int) (W M : Nat), vs = [.ref x, .int k, .ref a, .int p] ∧ HandsAt CH H x dx dd dn nl st ∧ HsOk st W M ∧ W + ns.length ≤ 90000 ∧ M ≤ 90000 ∧ Off [dd, dn, nl] H a = some (.lst (ns.map V.int)) ∧
  HQ CH x dx dd dn nl H (st.keep k ns p).1 (Q (.bl (st.keep k ns p).2))
def spHTake (CH : Addr) : Sp := fun vs H Q _ => ∃ (x dx dd dn nl a : Addr) (st : Hs) (l s p : Int) (ns : List Int) (W M : Nat), vs = [.ref x, .int l, .ref a, .int s, .int p] ∧ HandsAt CH H x dx dd dn nl st ∧ HsOk st W M ∧ W + ns.length ≤ 90000 ∧ M ≤ 90000 ∧ Off [dd, dn, nl] H a = some (.lst (ns.map V.int)) ∧
  HQ CH x dx dd dn nl H (st.take l ns s p) (Q .non)
def spBehind (CH : Addr) : Sp := fun vs H Q _ => ∃ (v : V) (es : List Ev), vs = [v] ∧ Rep H v (evsD es) ∧ bxWs es ≤ 40000 ∧ es.length ≤ 40000 ∧ ∀ x dx dd dn nl H', Same H H' → H x = none → HandsAt CH H' x dx dd dn nl (Hs.nil.run es) → Q (.ref x) H'
def spUnpacked : Sp := fun vs H Q _ => ∃ (v : V) (es : List Ev), vs = [v] ∧ Rep H v (evsD es) ∧ bxWs es ≤ 40000 ∧ es.length ≤ 40000 ∧ ∀ u H', Same H H' → Rep H' u (.lst ((Hs.nil.run es).news.map toldD)) → Q u H'
def spWaiting : Sp := fun vs H Q _ => ∃ (v : V) (es : List Ev), vs = [v] ∧ Rep H v (evsD es) ∧ bxWs es ≤ 40000 ∧ es.length ≤ 40000 ∧ (Hs.nil.run es).ks.length < 64 ∧
  ∀ l H' (ns' : List Int), Same H H' → ns'.Perm (Hs.nil.run es).ks → ns'.Pairwise (· ≤ ·) → H' l = some (.lst (ns'.map V.int)) → Q (.ref l) H'
def fltD : Ev → List D
  | .box _ _ _ _ => []
  | .stray p => [.tup [.str "stray", .int p]]
  | .escape p => [.tup [.str "escape", .int p]]
  | .great p => [.tup [.str "great", .int p]]
  | .check p => [.tup [.str "check", .int p]]
  | .cut p => [.tup [.str "cut", .int p]]
  | .fin p => [.tup [.str "end", .int p]]
def spFaults : Sp := fun vs H Q _ => ∃ (v : V) (es : List Ev), vs = [v] ∧ Rep H v (evsD es) ∧ es.length ≤ 40000 ∧ ∀ u H', Same H H' → Rep H' u (.lst (es.flatMap fltD)) → Q u H'
/-- what the top says of the class Hands -/
structure TH (K : PySem.W.Frag) (mg : Str → Option Value) (CH : Addr) : Prop where
  cl : Cls K CH
  n1 : NoAttr K CH "due"
  n2 : NoAttr K CH "numbers"
  n3 : NoAttr K CH "news"
  m : mg "Hands" = some (.ref CH)
end BB

set_option Elab.async false
set_option linter.all false
set_option maxRecDepth 100000
set_option maxHeartbeats 4000000
namespace BB
open PySem L2
/-! ### the text by places -/
def top (i : Nat) : Stmt := PySem.Challenge.pw_beltboxes_k13_unpacked_box_by_box.main.body.getD i (.Pass ⟨0, 0, 0, 0⟩)
abbrev sHands_init : Stmt := inClass (top 1) 0
abbrev sHands_hold : Stmt := inClass (top 1) 1
abbrev sHands_let_go : Stmt := inClass (top 1) 2
abbrev sHands_lose : Stmt := inClass (top 1) 3
abbrev sHands_keep : Stmt := inClass (top 1) 4
abbrev sHands_take : Stmt := inClass (top 1) 5
abbrev s_hands_behind : Stmt := top 2
abbrev s_unpacked : Stmt := top 3
abbrev s_waiting : Stmt := top 4
abbrev s_faults : Stmt := top 5
abbrev sToldList : Stmt := top 7
abbrev sSameTold : Stmt := top 8
abbrev sSo : Stmt := top 9
abbrev sLaw : Stmt := top 10
end BB

set_option Elab.async false
set_option linter.all false
set_option maxRecDepth 100000
set_option maxHeartbeats 4000000
namespace BB
open PySem L2
section
variable {P : Program} {w : World} {K : PySem.W.Frag} {mg : Str → Option Value} {base : Heap} {CH : Addr}
/-! ### Hands -/
theorem hu_of {k : Nat} {A : Around} (r : Room k A) : A.units + 1 < cLine := by have := r.un; omega
theorem HandsAt.new {CH x dx dd dn nl t : Addr} {H : Hp} {st : Hs} {o : HO} (h : HandsAt CH H x dx dd dn nl st) (ht : H t = none) : Off [dd, dn, nl] (upd H t o) t = some o := by
  obtain ⟨kd, e1, _⟩ := h.du
  obtain ⟨kn, e2, _⟩ := h.nu
  obtain ⟨vs, e3, _⟩ := h.nw
  have m1 := ne_isSome e1 ht
  have m2 := ne_isSome e2 ht
  have m3 := ne_isSome e3 ht
  rw [off_get (by simp only [List.mem_cons, List.not_mem_nil, or_false, not_or]; exact ⟨m1, m2, m3⟩), upd_same]
theorem scHInit : FnScope ["self"] ["self"] (defScope sHands_init) := ⟨rfl, rfl, rfl, by decide +kernel, rfl, by decide +kernel, by decide +kernel⟩
theorem ok_hinit {f : Addr} {fd : FuncData} (F : Fun K "__init__" "Hands.__init__" sHands_init f fd) (T : TH K mg CH) : FnOk P w K mg base (CXs P w) 1 f fd ["self"] (spHInit CH) := by
  refine F.okX scHInit (fun vs H Q E h => ?_) (fun cdv A outer s H vs Q E hr h => ?_)
  · obtain ⟨x, dx, rfl, _⟩ := h
    rfl
  obtain ⟨x, dx, rfl, hx, q⟩ := h
  refine ⟨_, (pss_cons (ps_fld (pv 0) pe_dnewK rfl)
    (pss_cons (ps_fld (pv 0) pe_dnewK rfl)
    (pss_one (ps_fld (pv 0) (pe_lst pa_nil) rfl)))), ?_⟩
  refine fun dd hd => ?_
  have ndx : dd ≠ x := ne_isSome hx hd
  refine ⟨_, rfl, x, CH, dx, [], rfl, same_new hd _ _ _ hx, T.cl, T.n1, few_lt few0 (by decide), ?_⟩
  refine fun dn hn => ?_
  have nnx : dn ≠ x := fun z => by rw [z, upd_same] at hn; cases hn
  have hn1 : upd H dd (.dK []) dn = none := by rw [upd_ne nnx] at hn; exact hn
  have nnd : dn ≠ dd := fun z => by rw [z, upd_same] at hn1; cases hn1
  have hn0 : H dn = none := by rw [upd_ne nnd] at hn1; exact hn1
  refine ⟨_, rfl, x, CH, dx, _, rfl, by rw [upd_ne nnx.symm, upd_same], T.cl, T.n2, few_lt (few few0) (by decide), ?_⟩
  refine ⟨(by show 0 ≤ sizeLine; decide), fun nl hl => ?_⟩
  have nlx : nl ≠ x := fun z => by rw [z, upd_same] at hl; cases hl
  rw [upd_ne nlx] at hl
  have nln : nl ≠ dn := fun z => by rw [z, upd_same] at hl; cases hl
  rw [upd_ne nln, upd_ne nlx] at hl
  have nld : nl ≠ dd := fun z => by rw [z, upd_same] at hl; cases hl
  rw [upd_ne nld] at hl
  refine ⟨_, rfl, x, CH, dx, _, rfl, by rw [upd_ne nlx.symm, upd_same], T.cl, T.n3, few_lt (few (few few0)) (by decide), ?_⟩
  refine q dd dn nl _ hd hn0 hl (fun b o nb e => ?_) ⟨?_, ⟨[], ?_, .nil⟩, ⟨[], ?_, .nil⟩, ⟨[], ?_, .nil⟩, nnd.symm⟩
  · rw [upd_ne nb, upd_ne (ne_of_none e hl), upd_ne nb, upd_ne (ne_of_none e hn0), upd_ne nb, upd_ne (ne_of_none e hd)]; exact e
  · rw [upd_same]; rfl
  · rw [upd_ne ndx, upd_ne nld.symm, upd_ne ndx, upd_ne nnd.symm, upd_ne ndx, upd_same]
  · rw [upd_ne nnx, upd_ne nln.symm, upd_ne nnx, upd_same]
  · rw [upd_ne nlx, upd_same]
theorem scHold : FnScope ["self", "sender", "numbers", "due"] ["self", "sender", "numbers", "due"] (defScope sHands_hold) := ⟨rfl, rfl, rfl, by decide +kernel, rfl, by decide +kernel, by decide +kernel⟩
theorem ok_hold {f : Addr} {fd : FuncData} (F : Fun K "hold" "Hands.hold" sHands_hold f fd) (T : TH K mg CH) : FnOk P w K mg base (CXs P w) 1 f fd ["self", "sender", "numbers", "due"] (spHold CH) := by
  refine F.okX scHold (fun vs H Q E h => ?_) (fun cdv A outer s H vs Q E hr h => ?_)
  · obtain ⟨x, dx, dd, dn, nl, a, st, k, d, ns, rfl, _⟩ := h
    rfl
  obtain ⟨x, dx, dd, dn, nl, a, st, k, d, ns, rfl, h, hl, ha, q⟩ := h
  have hu := hu_of hr
  refine ⟨_, (pss_cons (ps_dput hu (pe_fld (pv 0) rfl) (pv 1) (pv 2) rfl)
    (pss_one (ps_dput hu (pe_fld (pv 0) rfl) (pv 1) (pv 3) rfl))), ?_⟩
  obtain ⟨kd, e1, d1⟩ := h.du
  obtain ⟨kn, e2, d2⟩ := h.nu
  refine ⟨_, rfl, _, rfl, x, CH, dx, _, _, rfl, h.ob, T.cl, T.n2, hf_num, _, rfl, dn, _, rfl, DPut.k (k := Sum.inl k) e2 (by rw [d2.len]; exact small (by omega)), ?_⟩
  refine ⟨_, rfl, _, rfl, x, CH, dx, _, _, rfl, by rw [upd_ne h.n3.2.1]; exact h.ob, T.cl, T.n1, hf_due, _, rfl, dd, _, rfl, DPut.k (k := Sum.inl k) (by rw [upd_ne h.ne]; exact e1) (by rw [d1.len]; exact small (by omega)), ?_⟩
  exact q _ ((fr_upd (by simp)).trans (fr_upd (by simp))) (h.hold e1 d1 e2 d2 ha)
theorem scLetGo : FnScope ["self", "sender"] ["self", "sender"] (defScope sHands_let_go) := ⟨rfl, rfl, rfl, by decide +kernel, rfl, by decide +kernel, by decide +kernel⟩
theorem ok_letGo {f : Addr} {fd : FuncData} (F : Fun K "let_go" "Hands.let_go" sHands_let_go f fd) (T : TH K mg CH) : FnOk P w K mg base (CXs P w) 1 f fd ["self", "sender"] (spLetGo CH) := by
  refine F.okX scLetGo (fun vs H Q E h => ?_) (fun cdv A outer s H vs Q E hr h => ?_)
  · obtain ⟨x, dx, dd, dn, nl, st, k, rfl, _⟩ := h
    rfl
  obtain ⟨x, dx, dd, dn, nl, st, k, rfl, h, hk, q⟩ := h
  refine ⟨_, (pss_cons (ps_expr (pe_dpop1 (pe_fld (pv 0) rfl) (pv 1) ⟨rfl, rfl, rfl, rfl⟩))
    (pss_one (ps_ret (pe_dpop1 (pe_fld (pv 0) rfl) (pv 1) ⟨rfl, rfl, rfl, rfl⟩)))), ?_⟩
  obtain ⟨kd, e1, d1⟩ := h.du
  obtain ⟨kn, e2, d2⟩ := h.nu
  obtain ⟨v1, g1, _⟩ := d1.some hk
  obtain ⟨v2, g2, a, rfl, ha⟩ := d2.some hk
  have e2' : upd H dd (.dK (dropK kd (Sum.inl k))) dn = some (.dK kn) := by rw [upd_ne h.ne.symm]; exact e2
  refine ⟨_, rfl, x, CH, dx, _, _, rfl, h.ob, T.cl, T.n1, hf_due, dd, rfl, .inl ⟨kd, .inl e1⟩, _, rfl, kd, Sum.inl k, v1, e1, rfl, g1, ?_⟩
  refine ⟨_, rfl, x, CH, dx, _, _, rfl, by rw [upd_ne h.n3.1]; exact h.ob, T.cl, T.n2, hf_num, dn, rfl, .inl ⟨kn, .inl e2'⟩, _, rfl, kn, Sum.inl k, .ref a, e2', rfl, g2, ?_⟩
  exact q a ha _ ((fr_upd (by simp)).trans (fr_upd (by simp))) (h.drop e1 d1 e2 d2)
theorem scLose : FnScope ["self", "sender", "start"] ["self", "sender", "start"] (defScope sHands_lose) := ⟨rfl, rfl, rfl, by decide +kernel, rfl, by decide +kernel, by decide +kernel⟩
theorem ok_lose {f fL : Addr} {fd dL : FuncData} (F : Fun K "lose" "Hands.lose" sHands_lose f fd) (T : TH K mg CH)
    (DL : MDef K CH "let_go" "Hands.let_go" sHands_let_go ["self", "sender"] fL dL) (GL : FnOk P w K mg base (CXs P w) 1 fL dL ["self", "sender"] (spLetGo CH)) : FnOk P w K mg base (CXs P w) 2 f fd ["self", "sender", "start"] (spLose CH) := by
  refine F.okX scLose (fun vs H Q E h => ?_) (fun cdv A outer s H vs Q E hr h => ?_)
  · obtain ⟨x, dx, dd, dn, nl, st, k, p, rfl, _⟩ := h
    rfl
  obtain ⟨x, dx, dd, dn, nl, st, k, p, rfl, h, hl, q⟩ := h
  have hu := hu_of hr
  refine ⟨_, (pss_one (ps_if (pt_cmp (pc_din hu (pv 1) (pe_fld (pv 0) rfl)))
      (pss_cons (ps_expr (pe_meth (pv 0) T.cl DL.m GL hr DL.b .nil pass_on (pa_cons (pv 1) pa_nil)))
      (pss_one (ps_expr (pe_bm PySem.F.plainAttrs_list PySem.F.slot_list_append PySem.F.type_list_append mt_append (pe_fld (pv 0) rfl) (pa_cons (pe_tup (pa_cons (pe_str (x := "lost")) (pa_cons (pv 1) (pa_cons (pv 2) pa_nil)))) pa_nil)))))
      pss_nil)), ?_⟩
  obtain ⟨kd, e1, d1⟩ := h.du
  refine ⟨_, rfl, _, rfl, x, CH, dx, _, _, rfl, h.ob, T.cl, T.n1, hf_due, dd, _, rfl, DGet.k (k := Sum.inl k) e1, _, rfl, ?_⟩
  unfold Hs.lose at q
  by_cases hk : k ∈ st.ks
  · rw [if_pos hk] at q
    obtain ⟨v1, g1, _⟩ := d1.some hk
    rw [g1]
    refine ifT rfl ?_
    refine ⟨_, rfl, x, dx, _, rfl, h.ob, hf_no (by decide +kernel) (by decide +kernel) (by decide +kernel), _, rfl, x, dx, dd, dn, nl, st, k, rfl, h, hk, fun a ha H1 f1 h1 => ?_⟩
    obtain ⟨vs, e3, d3⟩ := h1.nw
    refine ⟨_, rfl, x, CH, dx, _, _, rfl, h1.ob, T.cl, T.n3, hf_news, .inl ⟨rfl, _, SqL.of e3⟩, _, rfl, _, rfl, (by show 3 ≤ sizeLine; decide), fun t ht => ?_⟩
    have s2 := same_new ht (.tup [.str "lost", .int k, .int p])
    have h2 := h1.mono s2
    have d3' := reps_mono (off_same (es := [dd, dn, nl]) s2) d3
    refine ⟨nl, _, _, rfl, rfl, s2 _ _ e3, (by rw [HandsAt.news_len d3]; exact small (by show st.news.length ≤ _; omega)), ?_⟩
    refine q _ ((f1.trans (fr_new s2)).trans (fr_upd (by simp))) (h2.tell (s2 _ _ e3) d3' ?_)
    exact rep_tup (h1.new ht) (.cons (.str _) (.cons (.int _) (.cons (.int _) .nil)))
  · rw [if_neg hk] at q
    rw [d1.none hk]
    exact ifF rfl (q H (Same.refl _) h)
theorem scKeep : FnScope ["self", "sender", "numbers", "start"] ["self", "sender", "numbers", "start"] (defScope sHands_keep) := ⟨rfl, rfl, rfl, by decide +kernel, rfl, by decide +kernel, by decide +kernel⟩
theorem cut_tail {c : Int} {r : List Int} : cutV ((c :: r).map V.int) (some 1) none = r.map V.int := by
  rw [cutV_ints]
  have e : cutI (c :: r) (some ((1 : Nat) : Int)) none = r := cut_from
  exact congrArg (List.map V.int) e
theorem at_head {c : Int} {r : List Int} : atI ((c :: r).map V.int) 0 = some (V.int c) := atI_nat (j := 0) rfl
theorem ok_keep {f fH fO : Addr} {fd dH dO : FuncData} (F : Fun K "keep" "Hands.keep" sHands_keep f fd) (T : TH K mg CH)
    (DH : MDef K CH "hold" "Hands.hold" sHands_hold ["self", "sender", "numbers", "due"] fH dH) (GH : FnOk P w K mg base (CXs P w) 1 fH dH ["self", "sender", "numbers", "due"] (spHold CH))
    (DO : MDef K CH "lose" "Hands.lose" sHands_lose ["self", "sender", "start"] fO dO) (GO : FnOk P w K mg base (CXs P w) 2 fO dO ["self", "sender", "start"] (spLose CH)) : FnOk P w K mg base (CXs P w) 3 f fd ["self", "sender", "numbers", "start"] (spKeep CH) := by
  refine F.okX scKeep (fun vs H Q E h => ?_) (fun cdv A outer s H vs Q E hr h => ?_)
  · obtain ⟨x, dx, dd, dn, nl, a, st, k, p, ns, W, M, rfl, _⟩ := h
    rfl
  obtain ⟨x, dx, dd, dn, nl, a, st, k, p, ns, W, M, rfl, h, ok, hW, hM, ha, q⟩ := h
  have hu := hu_of hr
  have hr1 : Room 1 _ := hr.mono (by decide)
  have ha' : H a = some (.lst (ns.map V.int)) := off_sub _ _ ha
  refine ⟨_, (pss_cons (ps_if (PW.pt (pw_and (pt_truth (pv 2) (fun _ => rfl)) (pw_and1 (pt_cmpR op_eq (pe_ix ix_list (pv 2) pe_int (fun _ _ => rfl)) (pe_dget1 hu (pe_fld (pv 0) rfl) (pv 1) ⟨rfl, rfl, rfl, rfl⟩) (nomark _)))))
      (pss_cons (ps_expr (pe_meth (pv 0) T.cl DH.m GH hr1 DH.b .nil pass_on (pa_cons (pv 1) (pa_cons (pe_op op_cat (pe_dget hu (pe_fld (pv 0) rfl) (pv 1) (fun _ _ => rfl)) (pe_slice sl_list (pv 2) (po_some pe_int) po_none)) (pa_cons (pe_op op_add (pe_ix ix_list (pv 2) pe_int (fun _ _ => rfl)) pe_int) pa_nil)))))
      (pss_one (ps_ret pe_bl)))
      pss_nil)
    (pss_cons (ps_expr (pe_meth (pv 0) T.cl DO.m GO hr DO.b .nil pass_on (pa_cons (pv 1) (pa_cons (pv 3) pa_nil))))
    (pss_cons (ps_if (PW.pt (pw_and (pt_truth (pv 2) (fun _ => rfl)) (pw_and1 (pt_cmpR op_eq (pe_ix ix_list (pv 2) pe_int (fun _ _ => rfl)) pe_int (nomark _)))))
      (pss_cons (ps_expr (pe_meth (pv 0) T.cl DH.m GH hr1 DH.b .nil pass_on (pa_cons (pv 1) (pa_cons (pe_slice sl_list (pv 2) (po_some pe_int) po_none) (pa_cons pe_int pa_nil)))))
      (pss_one (ps_ret pe_bl)))
      pss_nil)
    (pss_one (ps_ret pe_bl))))), ?_⟩
  refine seq_by (t := tIfS _ _ _) (fun σ H2 => σ = [some (.ref x), some (.int k), some (.ref a), some (.int p)] ∧ H2 = H ∧ ¬ (k ∈ st.ks ∧ ns.head? = some (st.f k).1)) ?_ ?_
  rotate_left
  · intro nx hnx
    refine ⟨_, rfl, _, .inl ⟨_, SqL.of ha', rfl⟩, ?_⟩
    cases ns with
    | nil => exact ifF rfl (ifF rfl (hnx _ _ ⟨rfl, rfl, by rintro ⟨_, z⟩; cases z⟩))
    | cons c r =>
      refine ifT rfl ?_
      obtain ⟨kd, e1, d1⟩ := h.du
      obtain ⟨kn, e2, d2⟩ := h.nu
      refine ⟨_, rfl, a, _, _, _, rfl, rfl, SqL.of ha', at_head, _, rfl, x, CH, dx, _, _, rfl, h.ob, T.cl, T.n1, hf_due, dd, rfl, .inl ⟨kd, .inl e1⟩, _, rfl, _, DGet.k (k := Sum.inl k) e1, ?_⟩
      by_cases hk : k ∈ st.ks
      rotate_left
      · rw [d1.none hk]
        exact ⟨rfl, _, rfl, ifF (decide_eq_false (fun z => by cases z)) (hnx _ _ ⟨rfl, rfl, fun z => hk z.1⟩)⟩
      obtain ⟨v1, g1, ev⟩ := d1.some hk
      subst ev
      rw [g1]
      refine ⟨rfl, _, rfl, ?_⟩
      by_cases hc : c = (st.f k).1
      rotate_left
      · exact ifF (decide_eq_false (fun z => hc (V.int.inj z))) (hnx _ _ ⟨rfl, rfl, fun z => hc (Option.some.inj z.2)⟩)
      refine ifT (decide_eq_true (congrArg V.int hc)) ?_
      obtain ⟨v2, g2, b, rfl, hb⟩ := d2.some hk
      have hb' : H b = some (.lst ((st.f k).2.map V.int)) := off_sub _ _ hb
      have g2' : DGet H dn (V.int k) (some (.ref b)) := by rw [← g2]; exact DGet.k (k := Sum.inl k) e2
      refine ⟨_, rfl, x, dx, _, rfl, h.ob, hf_no (by decide +kernel) (by decide +kernel) (by decide +kernel), _, rfl, _, rfl, x, CH, dx, _, _, rfl, h.ob, T.cl, T.n2, hf_num, _, rfl, dn, _, rfl, g2', _, rfl, _, rfl, a, _, rfl, SqL.of ha', fun p1 hp1 => ?_⟩
      rw [cut_tail]
      have s1 := same_new hp1 (.lst (r.map V.int))
      have hW' := ok.c k hk
      have hWn : W + (r.length + 1) ≤ 90000 := hW
      refine ⟨b, p1, _, _, rfl, rfl, s1 _ _ hb', upd_same, by rw [List.length_map, List.length_map]; exact small' (by omega), fun p2 hp2 => ?_⟩
      have s2 := same_new hp2 (.lst ((st.f k).2.map V.int ++ r.map V.int))
      have s12 := s1.trans s2
      have h2 := h.mono s12
      refine ⟨_, rfl, a, _, _, _, rfl, rfl, SqL.of (s12 _ _ ha'), at_head, _, _, rfl, rfl, ?_⟩
      have hks := ok.a
      refine ⟨x, dx, dd, dn, nl, p2, st, k, _, (st.f k).2 ++ r, rfl, h2, by omega, ?_, fun H3 f3 h3 => ?_⟩
      · rw [(h.mono s1).new hp2, List.map_append]
      have ek : st.keep k (c :: r) p = (st.hold k ((st.f k).2 ++ r) ((st.f k).1 + 1), true) := if_pos ⟨hk, congrArg some hc⟩
      rw [ek] at q
      rw [hc] at h3
      exact q H3 ((fr_new s12).trans f3) h3
  rintro σ2 H2 ⟨rfl, rfl, hno⟩
  have hks := ok.a
  have hne := ok.b
  refine ⟨_, rfl, x, dx, _, rfl, h.ob, hf_no (by decide +kernel) (by decide +kernel) (by decide +kernel), _, rfl, _, rfl, x, dx, dd, dn, nl, st, k, p, rfl, h, by omega, fun H1 f1 h1 => ?_⟩
  have ha1 : Off [dd, dn, nl] H1 a = some (.lst (ns.map V.int)) := f1 _ _ ha
  have ha1' : H1 a = some (.lst (ns.map V.int)) := off_sub _ _ ha1
  refine ⟨_, rfl, _, .inl ⟨_, SqL.of ha1', rfl⟩, ?_⟩
  unfold Hs.keep at q
  rw [if_neg hno] at q
  cases ns with
  | nil => exact ifF rfl (ifF rfl (q H1 f1 h1))
  | cons c r =>
    refine ifT rfl ?_
    refine ⟨_, rfl, a, _, _, _, rfl, rfl, SqL.of ha1', at_head, rfl, _, rfl, ?_⟩
    by_cases hc : c = 0
    rotate_left
    · rw [if_neg (c := (c :: r).head? = some 0) (fun z => hc (Option.some.inj z))] at q
      exact ifF (decide_eq_false (fun z => hc (V.int.inj z))) (q H1 f1 h1)
    rw [if_pos (c := (c :: r).head? = some 0) (congrArg some hc)] at q
    refine ifT (decide_eq_true (congrArg V.int hc)) ?_
    refine ⟨_, rfl, x, dx, _, rfl, h1.ob, hf_no (by decide +kernel) (by decide +kernel) (by decide +kernel), _, rfl, _, rfl, _, rfl, a, _, rfl, SqL.of ha1', fun p1 hp1 => ?_⟩
    rw [cut_tail]
    have s1 := same_new hp1 (.lst (r.map V.int))
    have h2 := h1.mono s1
    have okl : HsOk (st.lose k p) W (M + 1) := ok.lose
    have hka := okl.a
    refine ⟨x, dx, dd, dn, nl, p1, st.lose k p, k, 1, r, rfl, h2, by omega, h1.new hp1, fun H3 f3 h3 => ?_⟩
    exact q H3 ((f1.trans (fr_new s1)).trans f3) h3
theorem scHTake : FnScope ["self", "label", "numbers", "start", "place", "sender", "kept"] ["self", "label", "numbers", "start", "place"] (defScope sHands_take) := ⟨rfl, rfl, rfl, by decide +kernel, rfl, by decide +kernel, by decide +kernel⟩
theorem ok_htake {f fK fL : Addr} {fd dK dL : FuncData} (F : Fun K "take" "Hands.take" sHands_take f fd) (T : TH K mg CH)
    (DK : MDef K CH "keep" "Hands.keep" sHands_keep ["self", "sender", "numbers", "start"] fK dK) (GK : FnOk P w K mg base (CXs P w) 3 fK dK ["self", "sender", "numbers", "start"] (spKeep CH))
    (DL : MDef K CH "let_go" "Hands.let_go" sHands_let_go ["self", "sender"] fL dL) (GL : FnOk P w K mg base (CXs P w) 1 fL dL ["self", "sender"] (spLetGo CH)) : FnOk P w K mg base (CXs P w) 4 f fd ["self", "label", "numbers", "start", "place"] (spHTake CH) := by
  refine F.okX scHTake (fun vs H Q E h => ?_) (fun cdv A outer s H vs Q E hr h => ?_)
  · obtain ⟨x, dx, dd, dn, nl, a, st, l, s, p, ns, W, M, rfl, _⟩ := h
    rfl
  obtain ⟨x, dx, dd, dn, nl, a, st, l, s', p, ns, W, M, rfl, h, ok, hW, hM, ha, q⟩ := h
  have hr1 : Room 1 _ := hr.mono (by decide)
  refine ⟨_, (pss_cons (ps_set (i := 5) scHTake.nd rfl (Or.inl rfl) (pe_op op_fdiv (pv 1) pe_int))
    (pss_cons (ps_set (i := 6) scHTake.nd rfl (Or.inl rfl) (pe_meth (pv 0) T.cl DK.m GK hr DK.b .nil pass_on (pa_cons (pv 5) (pa_cons (pv 2) (pa_cons (pv 3) pa_nil)))))
    (pss_one (ps_if (PW.pt (pw_and (pt_val (pv 6)) (pw_and1 (pt_cmpR op_eq (pe_op op_mod (pv 1) pe_int) pe_int (nomark _)))))
      (pss_one (ps_expr (pe_bm PySem.F.plainAttrs_list PySem.F.slot_list_append PySem.F.type_list_append mt_append (pe_fld (pv 0) rfl) (pa_cons (pe_tup (pa_cons (pe_str (x := "parcel")) (pa_cons (pv 5) (pa_cons (pe_meth (pv 0) T.cl DL.m GL hr1 DL.b .nil pass_on (pa_cons (pv 5) pa_nil)) (pa_cons (pv 4) pa_nil))))) pa_nil))))
      pss_nil)))), ?_⟩
  refine ⟨_, rfl, _, _, rfl, rfl, ⟨by decide, by decide⟩, ?_⟩
  refine ⟨_, rfl, x, dx, _, rfl, h.ob, hf_no (by decide +kernel) (by decide +kernel) (by decide +kernel), _, rfl, _, rfl, _, rfl, x, dx, dd, dn, nl, a, st, l / 2, s', ns, W, M, rfl, h, ok, hW, hM, ha, fun H1 f1 h1 => ?_⟩
  have okk : HsOk (st.keep (l / 2) ns s').1 (W + ns.length + 1) (M + 1) := ok.keep
  have hmem : (st.keep (l / 2) ns s').2 = true → l / 2 ∈ (st.keep (l / 2) ns s').1.ks := Hs.keep_mem
  unfold Hs.take at q
  generalize st.keep (l / 2) ns s' = kp at q h1 okk hmem
  obtain ⟨st1, b⟩ := kp
  refine ⟨_, rfl, _, rfl, ?_⟩
  cases b with
  | false =>
    rw [if_neg (fun z => by cases z.1)] at q
    exact ifF rfl (ifF rfl (q H1 f1 h1))
  | true =>
    refine ifT rfl ?_
    refine ⟨_, rfl, _, _, rfl, rfl, (by show (0 : Int) < 2; decide), rfl, _, rfl, ?_⟩
    by_cases hl : l % 2 = 1
    rotate_left
    · rw [if_neg (fun z => hl z.2)] at q
      exact ifF (decide_eq_false (fun z => hl (V.int.inj z))) (q H1 f1 h1)
    rw [if_pos ⟨rfl, hl⟩] at q
    refine ifT (decide_eq_true (congrArg V.int hl)) ?_
    obtain ⟨vs, e3, d3⟩ := h1.nw
    refine ⟨_, rfl, x, CH, dx, _, _, rfl, h1.ob, T.cl, T.n3, hf_news, .inl ⟨rfl, _, SqL.of e3⟩, _, rfl, ?_⟩
    refine ⟨_, rfl, x, dx, _, rfl, h1.ob, hf_no (by decide +kernel) (by decide +kernel) (by decide +kernel), _, rfl, x, dx, dd, dn, nl, st1, l / 2, rfl, h1, hmem rfl, fun b hb H2 f2 h2 => ?_⟩
    refine ⟨_, rfl, (by show 4 ≤ sizeLine; decide), fun t ht => ?_⟩
    obtain ⟨vs2, e4, d4⟩ := h2.nw
    have s2 := same_new ht (.tup [.str "parcel", .int (l / 2), .ref b, .int p])
    have h3 := h2.mono s2
    have d4' := reps_mono (off_same (es := [dd, dn, nl]) s2) d4
    have hb2 := (f2.trans (fr_new (dd := dd) (dn := dn) (nl := nl) s2)) _ _ hb
    have hnl := okk.b
    refine ⟨nl, _, _, rfl, rfl, s2 _ _ e4, (by rw [HandsAt.news_len d4]; exact small (by show st1.news.length ≤ _; simp only at hnl; omega)), ?_⟩
    refine q _ (((f1.trans f2).trans (fr_new s2)).trans (fr_upd (by simp))) (h3.tell (s2 _ _ e4) d4' ?_)
    exact rep_tup (h2.new ht) (.cons (.str _) (.cons (.int _) (.cons (rep_ints hb2) (.cons (.int _) .nil))))
end
end BB

set_option Elab.async false
set_option linter.all false
set_option maxRecDepth 100000
set_option maxHeartbeats 4000000
namespace BB
open PySem L2
section
variable {P : Program} {w : World} {K : PySem.W.Frag} {mg : Str → Option Value} {base : Heap} {CH : Addr}
theorem len3 {α : Type} {vs : List α} (h : vs.length = 3) : ∃ a b c, vs = [a, b, c] := by
  cases vs with
  | nil => cases h
  | cons a r =>
    obtain ⟨b, c, rfl⟩ := len2 (vs := r) (by simpa using h)
    exact ⟨a, b, c, rfl⟩
theorem len5 {α : Type} {vs : List α} (h : vs.length = 5) : ∃ a b c d e, vs = [a, b, c, d, e] := by
  cases vs with
  | nil => cases h
  | cons a r =>
    cases r with
    | nil => cases h
    | cons b r =>
      obtain ⟨c, d, e, rfl⟩ := len3 (vs := r) (by simpa using h)
      exact ⟨a, b, c, d, e, rfl⟩
theorem rep_evbox_inv {H : Hp} {v : V} {l s p : Int} {ns : List Int} (r : Rep H v (evD (.box l ns s p))) : ∃ t a, v = .ref t ∧ H t = some (.tup [.str "box", .int l, .ref a, .int s, .int p]) ∧ H a = some (.lst (ns.map V.int)) := by
  obtain ⟨t, vs, rfl, h, hl, hs⟩ := rep_tup_inv r
  obtain ⟨v0, v1, v2, v3, v4, rfl⟩ := len5 hl
  have e0 := rep_str_inv (hs 0 v0 _ rfl rfl)
  have e1 := rep_int_inv (hs 1 v1 _ rfl rfl)
  obtain ⟨a, e2, ha⟩ := rep_ints_inv (hs 2 v2 _ rfl rfl)
  have e3 := rep_int_inv (hs 3 v3 _ rfl rfl)
  have e4 := rep_int_inv (hs 4 v4 _ rfl rfl)
  subst e0 e1 e2 e3 e4
  exact ⟨t, a, rfl, h, ha⟩
theorem rep_flt_inv {H : Hp} {v : V} {x y : Str} {p : Int} (r : Rep H v (.tup [.str x, .str y, .int p])) : ∃ t, v = .ref t ∧ H t = some (.tup [.str x, .str y, .int p]) := by
  obtain ⟨t, vs, rfl, h, hl, hs⟩ := rep_tup_inv r
  obtain ⟨v0, v1, v2, rfl⟩ := len3 hl
  have e0 := rep_str_inv (hs 0 v0 _ rfl rfl)
  have e1 := rep_str_inv (hs 1 v1 _ rfl rfl)
  have e2 := rep_int_inv (hs 2 v2 _ rfl rfl)
  subst e0 e1 e2
  exact ⟨t, rfl, h⟩
theorem ev_cases (e : Ev) : (∃ l ns s p, e = .box l ns s p) ∨ ∃ (wd : Str) (p : Int), evD e = .tup [.str "fault", .str wd, .int p] ∧ fltD e = [.tup [.str wd, .int p]] ∧ (∀ st : Hs, st.ev e = st) ∧ bxW e = 0 := by
  cases e with
  | box l ns s p => exact .inl ⟨l, ns, s, p, rfl⟩
  | stray p => exact .inr ⟨"stray", p, rfl, rfl, fun _ => rfl, rfl⟩
  | escape p => exact .inr ⟨"escape", p, rfl, rfl, fun _ => rfl, rfl⟩
  | great p => exact .inr ⟨"great", p, rfl, rfl, fun _ => rfl, rfl⟩
  | check p => exact .inr ⟨"check", p, rfl, rfl, fun _ => rfl, rfl⟩
  | cut p => exact .inr ⟨"cut", p, rfl, rfl, fun _ => rfl, rfl⟩
  | fin p => exact .inr ⟨"end", p, rfl, rfl, fun _ => rfl, rfl⟩
theorem take_next {es : List Ev} {i : Nat} {e : Ev} (h : es[i]? = some e) : es.take (i + 1) = es.take i ++ [e] := by
  rw [List.take_add_one, h]; rfl
theorem bxWs_take (es : List Ev) (i : Nat) : bxWs (es.take i) ≤ bxWs es := by
  have h := bxWs_append (es.take i) (es.drop i)
  rw [List.take_append_drop] at h
  omega
theorem run_ok (es : List Ev) (i : Nat) : HsOk (Hs.nil.run (es.take i)) (0 + bxWs (es.take i)) (0 + 2 * (es.take i).length) := HsOk.run _ HsOk.nil
theorem scBehind : FnScope ["told", "hands", "one"] ["told"] (defScope s_hands_behind) := ⟨rfl, rfl, rfl, by decide +kernel, rfl, by decide +kernel, by decide +kernel⟩
theorem ok_behind {f fI fT : Addr} {fd dI dT : FuncData} (F : Fun K "hands_behind" "hands_behind" s_hands_behind f fd) (T : TH K mg CH) (M : Mk K CH fI) (bI : Binds K dI ["self"] []) (GI : FnOk P w K mg base (CXs P w) 1 fI dI ["self"] (spHInit CH))
    (DT : MDef K CH "take" "Hands.take" sHands_take ["self", "label", "numbers", "start", "place"] fT dT) (GT : FnOk P w K mg base (CXs P w) 4 fT dT ["self", "label", "numbers", "start", "place"] (spHTake CH)) : FnOk P w K mg base (CXs P w) 5 f fd ["told"] (spBehind CH) := by
  refine F.okX scBehind (fun vs H Q E h => ?_) (fun cdv A outer s H vs Q E hr h => ?_)
  · obtain ⟨v, es, rfl, _⟩ := h
    rfl
  obtain ⟨v, es, rfl, hv, hW, hL, q⟩ := h
  have hr2 : Room 2 _ := hr.mono (by decide)
  refine ⟨_, (pss_cons (ps_set (i := 1) scBehind.nd rfl (Or.inl rfl) (pe_make0 M GI hr2 rfl T.m bI .nil pass_on))
    (pss_cons (ps_for passes_def rfl (pi_list (pv 0)) (pg_name (i := 2) scBehind.nd rfl (Or.inl rfl))
      (pss_one (ps_if (pt_cmpR op_eq (pe_ix ix_tup (pv 2) pe_int (fun _ _ => rfl)) (pe_str (x := "box")) (nomark _))
        (pss_one (ps_expr (pe_meth (pv 1) T.cl DT.m GT hr DT.b .nil pass_on (pa_cons (pe_ix ix_tup (pv 2) pe_int (fun _ _ => rfl)) (pa_cons (pe_ix ix_tup (pv 2) pe_int (fun _ _ => rfl)) (pa_cons (pe_ix ix_tup (pv 2) pe_int (fun _ _ => rfl)) (pa_cons (pe_ix ix_tup (pv 2) pe_int (fun _ _ => rfl)) pa_nil)))))))
        pss_nil)))
    (pss_one (ps_ret (pv 1))))), ?_⟩
  obtain ⟨a, vs, rfl, ha, hl, hs⟩ := rep_list_inv hv
  rw [List.length_map] at hl
  refine fun x dx hx hdx hne => ⟨x, dx, rfl, upd_same, fun dd dn nl H1 hd hn hnl kp h1 => ⟨rfl, ?_⟩⟩
  have s01 : Same H (upd (upd H dx (.own x)) x (.ins CH dx [])) := (same_new hdx _).trans (same_new (by rw [upd_ne hne.symm]; exact hx) _)
  have hd0 := s01.free hd
  have hn0 := s01.free hn
  have hl0 := s01.free hnl
  have sB : Same H (Off [dd, dn, nl] H1) := fun b o e => by
    rw [off_get (by simp only [List.mem_cons, List.not_mem_nil, or_false, not_or]; exact ⟨ne_of_none e hd0, ne_of_none e hn0, ne_of_none e hl0⟩)]
    exact kp b o (ne_of_none e hx) (s01 _ _ e)
  refine ⟨_, rfl, a, rfl, ⟨_, SqL.of (off_sub _ _ (sB _ _ ha))⟩, for_list (K := K) (a := a) (xs := vs) (fun i σ H2 => ∃ o, σ = [some (.ref a), some (.ref x), o] ∧ Same H (Off [dd, dn, nl] H2) ∧ HandsAt CH H2 x dx dd dn nl (Hs.nil.run (es.take i)))
    ⟨none, rfl, sB, h1⟩ (fun i σ H2 _ ⟨_, _, s2, _⟩ => SqL.of (off_sub _ _ (s2 _ _ ha))) ?_ ?_⟩
  · rintro i v σ H2 hi ⟨o, rfl, s2, h2⟩
    have hil : i < es.length := by rw [← hl]; exact (List.getElem?_eq_some_iff.mp hi).1
    obtain ⟨e, he⟩ : ∃ e, es[i]? = some e := ⟨_, List.getElem?_eq_getElem hil⟩
    have hre := hs i v (evD e) hi (by rw [List.getElem?_map, he]; rfl)
    have et := take_next he
    have hok := run_ok es i
    have hbw := bxWs_take es (i + 1)
    rw [et, bxWs_append] at hbw
    have htl : (es.take i).length ≤ es.length := List.length_take_le' _ _
    rcases ev_cases e with ⟨l, ns, s', p, rfl⟩ | ⟨wd, p, ed, _, est, _⟩
    · obtain ⟨t, b, rfl, ht, hb⟩ := rep_evbox_inv hre
      have ht2 := off_sub _ _ (s2 _ _ ht)
      have hw : bxWs (es.take i) + (ns.length + 1) ≤ bxWs es := hbw
      refine ⟨_, rfl, t, _, _, _, rfl, rfl, SqT.of ht2, rfl, rfl, _, rfl, ifT (by decide +kernel) ?_⟩
      refine ⟨_, rfl, x, dx, _, rfl, h2.ob, hf_no (by decide +kernel) (by decide +kernel) (by decide +kernel), _, rfl, t, _, _, _, rfl, rfl, SqT.of ht2, rfl, _, rfl, t, _, _, _, rfl, rfl, SqT.of ht2, rfl, _, rfl, t, _, _, _, rfl, rfl, SqT.of ht2, rfl, _, rfl, t, _, _, _, rfl, rfl, SqT.of ht2, rfl, ?_⟩
      refine ⟨x, dx, dd, dn, nl, b, _, l, s', p, ns, _, _, rfl, h2, hok, by omega, by omega, s2 _ _ hb, fun H3 f3 h3 => ?_⟩
      exact ⟨_, rfl, s2.trans f3, by rw [et, Hs.run_snoc]; exact h3⟩
    · rw [ed] at hre
      obtain ⟨t, rfl, ht⟩ := rep_flt_inv hre
      have ht2 := off_sub _ _ (s2 _ _ ht)
      refine ⟨_, rfl, t, _, _, _, rfl, rfl, SqT.of ht2, rfl, rfl, _, rfl, ifF (by decide +kernel) ?_⟩
      exact ⟨_, rfl, s2, by rw [et, Hs.run_snoc, est]; exact h2⟩
  · rintro σ H2 ⟨o, rfl, s2, h2⟩
    rw [hl, List.take_length] at h2
    exact ⟨_, rfl, q x dx dd dn nl H2 (s2.trans off_sub) hx h2⟩
theorem scUnpacked : FnScope ["told"] ["told"] (defScope s_unpacked) := ⟨rfl, rfl, rfl, by decide +kernel, rfl, by decide +kernel, by decide +kernel⟩
theorem ok_unpacked {f g : Addr} {fd gd : FuncData} (F : Fun K "unpacked" "unpacked" s_unpacked f fd) (T : TH K mg CH) (D : Def K mg "hands_behind" s_hands_behind ["told"] g gd) (G : FnOk P w K mg base (CXs P w) 5 g gd ["told"] (spBehind CH)) :
    FnOk P w K mg base (CXs P w) 6 f fd ["told"] spUnpacked := by
  refine F.okX scUnpacked (fun vs H Q E h => ?_) (fun cdv A outer s H vs Q E hr h => ?_)
  · obtain ⟨v, es, rfl, _⟩ := h
    rfl
  obtain ⟨v, es, rfl, hv, hW, hL, q⟩ := h
  refine ⟨_, (pss_one (ps_ret (pe_fld (pe_call G hr rfl D.m D.F.kp D.b .nil pass_on (pa_cons (pv 0) pa_nil)) rfl))), ?_⟩
  refine ⟨_, rfl, v, es, rfl, hv, hW, hL, fun x dx dd dn nl H1 s1 nx h1 => ?_⟩
  obtain ⟨vs, e3, d3⟩ := h1.nw
  exact ⟨x, CH, dx, _, _, rfl, h1.ob, T.cl, T.n3, hf_news, q _ H1 s1 (rep_lst e3 (reps_mono off_sub d3))⟩
theorem scWaiting : FnScope ["told"] ["told"] (defScope s_waiting) := ⟨rfl, rfl, rfl, by decide +kernel, rfl, by decide +kernel, by decide +kernel⟩
theorem ok_waiting {f g : Addr} {fd gd : FuncData} (F : Fun K "waiting" "waiting" s_waiting f fd) (T : TH K mg CH) (mS : mg "sorted" = none) (D : Def K mg "hands_behind" s_hands_behind ["told"] g gd) (G : FnOk P w K mg base (CXs P w) 5 g gd ["told"] (spBehind CH)) :
    FnOk P w K mg base (CXs P w) 6 f fd ["told"] spWaiting := by
  refine F.okX scWaiting (fun vs H Q E h => ?_) (fun cdv A outer s H vs Q E hr h => ?_)
  · obtain ⟨v, es, rfl, _⟩ := h
    rfl
  obtain ⟨v, es, rfl, hv, hW, hL, h64, q⟩ := h
  refine ⟨_, (pss_one (ps_ret (pe_callB (call_sortedD hr.hd) rfl mS PyProof.Rows.boot_sorted (pa_cons (pe_fld (pe_call G hr rfl D.m D.F.kp D.b .nil pass_on (pa_cons (pv 0) pa_nil)) rfl) pa_nil)))), ?_⟩
  refine ⟨_, rfl, v, es, rfl, hv, hW, hL, fun x dx dd dn nl H1 s1 nx h1 => ?_⟩
  obtain ⟨kd, e1, d1⟩ := h1.du
  exact ⟨x, CH, dx, _, _, rfl, h1.ob, T.cl, T.n1, hf_due, dd, kd, _, rfl, .inl e1, d1.1, h64, fun l ns' hl hp hs => q l _ ns' (s1.trans (same_new hl _)) hp hs upd_same⟩
theorem scFaults : FnScope ["told"] ["told"] (defScope s_faults) := ⟨rfl, rfl, rfl, by decide +kernel, rfl, by decide +kernel, by decide +kernel⟩
theorem ok_faults {f : Addr} {fd : FuncData} (F : Fun K "faults" "faults" s_faults f fd) : FnOk P w K mg base (CXs P w) 1 f fd ["told"] spFaults := by
  refine F.okX scFaults (fun vs H Q E h => ?_) (fun cdv A outer s H vs Q E hr h => ?_)
  · obtain ⟨v, es, rfl, _⟩ := h
    rfl
  obtain ⟨v, es, rfl, hv, hL, q⟩ := h
  refine ⟨_, (pss_one (ps_ret (pe_lc [] [] ⟨rfl, by decide +kernel, by decide +kernel, rfl, by decide +kernel, frees_of (sc := defScope s_faults) rfl (by decide +kernel), rfl, by decide +kernel⟩ rfl (pi_list (pv 0)) (fun _ _ _ _ _ => pf_one (pt_cmpR op_eq (pe_ix (ix_tupK K rfl) (pv 0) pe_int (fun _ _ => rfl)) (pe_str (x := "fault")) (nomark _))) (fun _ _ _ _ _ => (pe_tup (pa_cons (pe_ix (ix_tupK K rfl) (pv 0) pe_int (fun _ _ => rfl)) (pa_cons (pe_ix (ix_tupK K rfl) (pv 0) pe_int (fun _ _ => rfl)) pa_nil))))))), ?_⟩
  obtain ⟨a, vs, rfl, ha, hl, hs⟩ := rep_list_inv hv
  rw [List.length_map] at hl
  refine ⟨_, rfl, a, rfl, ⟨_, SqL.of ha⟩, fun D hD => lc_list (K := K) (a := a) (xs := vs) (fun i σ H4 => ∃ (o : Option V) (ys : List V), σ = [o] ∧ LsAt H D H4 ((es.take i).flatMap fltD) ys ∧ ys.length ≤ i)
    ⟨none, [], rfl, LsAt.new (Same.refl _) hD, Nat.le_refl _⟩ (fun i σ H4 _ ⟨_, _, _, la, _⟩ => SqL.of (la.s _ _ ha)) ?_ ?_⟩
  · rintro i v σ H4 hi ⟨o, ys, rfl, la, hy⟩
    have hil : i < es.length := by rw [← hl]; exact (List.getElem?_eq_some_iff.mp hi).1
    obtain ⟨e, he⟩ : ∃ e, es[i]? = some e := ⟨_, List.getElem?_eq_getElem hil⟩
    have hre := hs i v (evD e) hi (by rw [List.getElem?_map, he]; rfl)
    have et := take_next he
    rcases ev_cases e with ⟨l, ns, s', p, rfl⟩ | ⟨wd, p, ed, efl, _, _⟩
    · obtain ⟨t, b, rfl, ht, hb⟩ := rep_evbox_inv hre
      have ht4 := la.s _ _ ht
      refine ⟨_, rfl, t, _, _, _, rfl, rfl, SqT.of ht4, rfl, rfl, _, rfl, ifF (by decide +kernel) ?_⟩
      refine ⟨_, ys, rfl, ?_, Nat.le_succ_of_le hy⟩
      rw [et, List.flatMap_append]
      show LsAt H D H4 (_ ++ []) ys
      rw [List.append_nil]; exact la
    · rw [ed] at hre
      obtain ⟨t, rfl, ht⟩ := rep_flt_inv hre
      have ht4 := la.s _ _ ht
      refine ⟨_, rfl, t, _, _, _, rfl, rfl, SqT.of ht4, rfl, rfl, _, rfl, ifT (by decide +kernel) ?_⟩
      refine ⟨_, rfl, t, _, _, _, rfl, rfl, SqT.of ht4, rfl, _, rfl, t, _, _, _, rfl, rfl, SqT.of ht4, rfl, (by show 2 ≤ sizeLine; decide), fun p1 hp1 => ?_⟩
      have s5 := same_new hp1 (.tup [.str wd, .int p])
      have la5 := la.mono s5
      refine ⟨ys, la5.a_, small (by omega), _, ys ++ [.ref p1], rfl, ?_, by rw [List.length_append]; exact Nat.succ_le_succ hy⟩
      rw [et, List.flatMap_append]
      show LsAt H D _ (_ ++ ([e].flatMap fltD)) _
      have e1 : [e].flatMap fltD = [.tup [.str wd, .int p]] := by rw [List.flatMap_singleton, efl]
      rw [e1]
      exact la5.push (rep_tup (off_new1 la.a_ hp1) (.cons (.str _) (.cons (.int _) .nil)))
  · rintro σ H4 ⟨o, ys, rfl, la, hy⟩
    rw [hl, List.take_length] at la
    exact q _ H4 la.s la.rep
end
end BB

set_option Elab.async false
set_option linter.all false
set_option maxRecDepth 100000
set_option maxHeartbeats 4000000
namespace BB
open PySem L2
/-! ### _law_so: two values of the same data -/
structure SoK (K : PySem.W.Frag) (mg : Str → Option Value) : Prop where
  isi : mg "isinstance" = none
  list : mg "list" = none
  tuple : mg "tuple" = none
  str : mg "str" = none
  bool : mg "bool" = none
  int : mg "int" = none
  len : mg "len" = none
  range : mg "range" = none
  al : PySem.W.kitAny K (.type "list") [.type "list", .type "tuple"] = some true
  at_ : PySem.W.kitAny K (.type "tuple") [.type "list", .type "tuple"] = some true
  as_ : PySem.W.kitAny K (.type "str") [.type "list", .type "tuple"] = some false
  ab : PySem.W.kitAny K (.type "bool") [.type "list", .type "tuple"] = some false
  an : PySem.W.kitAny K (.type "NoneType") [.type "list", .type "tuple"] = some false
  ai : PySem.W.kitAny K (.type "int") [.type "list", .type "tuple"] = some false
  ll : PySem.W.kitOne K (.type "list") (.type "list") = some true
  lt : PySem.W.kitOne K (.type "list") (.type "tuple") = some false
  tl : PySem.W.kitOne K (.type "tuple") (.type "list") = some false
  tt : PySem.W.kitOne K (.type "tuple") (.type "tuple") = some true
  ss : PySem.W.kitOne K (.type "str") (.type "str") = some true
  bs : PySem.W.kitOne K (.type "bool") (.type "str") = some false
  ns : PySem.W.kitOne K (.type "NoneType") (.type "str") = some false
  is : PySem.W.kitOne K (.type "int") (.type "str") = some false
  bb : PySem.W.kitOne K (.type "bool") (.type "bool") = some true
  nb : PySem.W.kitOne K (.type "NoneType") (.type "bool") = some false
  ib : PySem.W.kitOne K (.type "int") (.type "bool") = some false
  ii : PySem.W.kitOne K (.type "int") (.type "int") = some true
theorem bootTuple : bootBuiltins "tuple" = some (.type "tuple") := by decide +kernel
theorem bootStr : bootBuiltins "str" = some (.type "str") := by decide +kernel
section
variable {P : Program} {w : World} {K : PySem.W.Frag} {mg : Str → Option Value} {base : Heap} {C0 C1 C2 C3 : Addr}
/-- a list or a tuple -/
def Sq (K : PySem.W.Frag) (H : Hp) (v : V) (xs : List V) : Prop := ∃ a, v = .ref a ∧ (SqL K H a xs ∨ SqT K H a xs)
theorem Sq.ix {K : PySem.W.Frag} {H : Hp} {v u : V} {xs : List V} {i : Int} {Q : VK} (h : Sq K H v xs) (e : atI xs i = some u) (q : Q u H) : rIx K v (.int i) H Q := by
  obtain ⟨a, rfl, h | h⟩ := h
  · exact .inl ⟨a, xs, i, u, rfl, rfl, h, e, q⟩
  · exact .inr (.inl ⟨a, xs, i, u, rfl, rfl, h, e, q⟩)
structure Pr where
  p : Addr
  x : V
  y : V
  d : D
def spSo : Sp := fun vs H Q _ => ∃ (x y : V) (d : D), vs = [x, y] ∧ Rep H x d ∧ Rep H y d ∧ d.size ≤ 1000000 ∧ ∀ H', Same H H' → Q (.bl true) H'
theorem scSo : FnScope ["_law_found", "_law_due", "_law_todo", "_law_one", "_law_other", "_law_k"] ["_law_found", "_law_due"] (defScope sSo) := ⟨rfl, rfl, rfl, by decide +kernel, rfl, by decide +kernel, by decide +kernel⟩
theorem ok_so {f : Addr} {fd : FuncData} (F : Fun K "_law_so" "_law_so" sSo f fd) (S : SoK K mg) : FnOk P w K mg base (CXs P w) 1 f fd ["_law_found", "_law_due"] spSo := by
  refine F.okX scSo (fun vs H Q E h => ?_) (fun cdv A outer s H vs Q E hr h => ?_)
  · obtain ⟨x, y, d, rfl, _⟩ := h
    rfl
  obtain ⟨x, y, d, rfl, hx, hy, hd, q⟩ := h
  have hu := hr.units0
  refine ⟨_, pss_cons (ps_set (i := 2) scSo.nd rfl (Or.inl rfl) (pe_lst (pa_cons (pe_tup (pa_cons (pv 0) (pa_cons (pv 1) pa_nil))) pa_nil)))
    (pss_cons (ps_while passes_def (pt_cmpR (op_neN hu) (pv 2) (pe_lst pa_nil) (nomark _))
      (pss_cons (ps_asg (pe_bm0 PySem.F.plainAttrs_list PySem.F.slot_list_pop PySem.F.type_list_pop mt_pop (pv 2)) (pg_tup rfl (pgs_cons (pg_name (i := 3) scSo.nd rfl (Or.inl rfl)) (pgs_cons (pg_name (i := 4) scSo.nd rfl (Or.inl rfl)) pgs_nil))))
      (pss_one (ps_if (pt_val (pe_callB call_isT rfl S.isi PyProof.Rows.boot_isinstance (pa_cons (pv 4) (pa_cons (pe_tup (pa_cons (pe_bltn (v := .ty "list") rfl S.list PyProof.Rows.boot_list rfl) (pa_cons (pe_bltn (v := .ty "tuple") rfl S.tuple bootTuple rfl) pa_nil))) pa_nil))))
        (pss_cons (ps_if (pt_cmpR op_ne (pe_isT S.isi rfl (pv 3) rfl S.list PyProof.Rows.boot_list) (pe_isT S.isi rfl (pv 4) rfl S.list PyProof.Rows.boot_list) (nomark _)) (pss_one (ps_ret pe_bl)) pss_nil)
        (pss_cons (ps_if (pt_cmpR op_ne (pe_isT S.isi rfl (pv 3) rfl S.tuple bootTuple) (pe_isT S.isi rfl (pv 4) rfl S.tuple bootTuple) (nomark _)) (pss_one (ps_ret pe_bl)) pss_nil)
        (pss_cons (ps_if (pt_cmpR op_ne (pe_callB call_len_seq rfl S.len PySem.boot_len (pa_cons (pv 3) pa_nil)) (pe_callB call_len_seq rfl S.len PySem.boot_len (pa_cons (pv 4) pa_nil)) (nomark _)) (pss_one (ps_ret pe_bl)) pss_nil)
        (pss_one (ps_for passes_def rfl (pi_range1 rfl S.range (pa_cons (pe_callB call_len_seq rfl S.len PySem.boot_len (pa_cons (pv 4) pa_nil)) pa_nil)) (pg_name (i := 5) scSo.nd rfl (Or.inl rfl))
          (pss_one (ps_expr (pe_bm PySem.F.plainAttrs_list PySem.F.slot_list_append PySem.F.type_list_append mt_append (pv 2) (pa_cons (pe_tup (pa_cons (pe_ix ix_seq (pv 3) (pv 5) (fun _ _ => rfl)) (pa_cons (pe_ix ix_seq (pv 4) (pv 5) (fun _ _ => rfl)) pa_nil))) pa_nil)))))))))
        (pss_one (ps_if (pt_val (pe_isT S.isi rfl (pv 4) rfl S.str bootStr))
          (pss_one (ps_if (PW.pt (pw_or (pt_not (pt_val (pe_isT S.isi rfl (pv 3) rfl S.str bootStr))) (pw_or1 (pt_cmpR op_ne (pv 3) (pv 4) (nomark _))))) (pss_one (ps_ret pe_bl)) pss_nil))
          (pss_one (ps_if (pt_val (pe_isT S.isi rfl (pv 4) rfl S.bool bootBool))
            (pss_one (ps_if (PW.pt (pw_or (pt_not (pt_val (pe_isT S.isi rfl (pv 3) rfl S.bool bootBool))) (pw_or1 (pt_cmpR op_ne (pv 3) (pv 4) (nomark _))))) (pss_one (ps_ret pe_bl)) pss_nil))
            (pss_one (ps_if (pt_cmpR op_isN (pv 4) pe_non (nomark _))
              (pss_one (ps_if (pt_cmpR op_notN (pv 3) pe_non (nomark _)) (pss_one (ps_ret pe_bl)) pss_nil))
              (pss_one (ps_if (PW.pt (pw_or (pt_not (pt_val (pe_isT S.isi rfl (pv 3) rfl S.int PyProof.Rows.boot_int))) (pw_or (pt_val (pe_isT S.isi rfl (pv 3) rfl S.bool bootBool)) (pw_or1 (pt_cmpR op_ne (pv 3) (pv 4) (nomark _)))))) (pss_one (ps_ret pe_bl)) pss_nil))))))))))))
    (pss_one (ps_ret pe_bl))), ?_⟩
  refine ⟨_, rfl, _, rfl, (by show 2 ≤ sizeLine; decide), fun p0 hp0 => ⟨(by show 1 ≤ sizeLine; decide), fun T hT => ?_⟩⟩
  have nT : H T = none := (same_new hp0 _).free hT
  have s1 : Same H (upd (upd H p0 (.tup [x, y])) T (.lst [.ref p0])) := (same_new hp0 _).trans (same_new hT _)
  have ne0 : p0 ≠ T := ne_of_none upd_same hT
  refine ⟨fun m σ H2 => ∃ (prs : List Pr) (o1 o2 kk : Option V), σ = [some x, some y, some (.ref T), o1, o2, kk] ∧ Same H H2 ∧ H2 T = some (.lst (prs.map fun r => .ref r.p)) ∧ (∀ r ∈ prs, H2 r.p = some (.tup [r.x, r.y]) ∧ Rep H r.x r.d ∧ Rep H r.y r.d) ∧ D.sizes (prs.map (·.d)) = m ∧ m ≤ 1000000,
    ⟨d.size, [⟨p0, x, y, d⟩], none, none, none, rfl, s1, upd_same, ?_, ?_, hd⟩, ?_⟩
  · intro r hr'
    have e : r = ⟨p0, x, y, d⟩ := by simpa using hr'
    subst e
    exact ⟨by rw [upd_ne ne0, upd_same], hx, hy⟩
  · show d.size + 0 = d.size; omega
  rintro m σ H2 ⟨prs, o1, o2, kk, rfl, s2, hT2, hps, hm, hm2⟩
  refine ⟨_, rfl, (by show 0 ≤ sizeLine; decide), fun pe hpe => ?_⟩
  have s3 : Same H2 (upd H2 pe (.lst [])) := same_new hpe _
  refine ⟨T, pe, _, rfl, rfl, SqL.of (s3 _ _ hT2), SqL.of upd_same, _, rfl, ?_⟩
  rcases List.eq_nil_or_concat prs with e | ⟨ini, ⟨p, u, v, d'⟩, e⟩
  · subst e
    refine iteF ?_
    exact q _ (s2.trans s3)
  subst e
  have hne : (!((List.concat ini ⟨p, u, v, d'⟩).map fun r => V.ref r.p).isEmpty) = true := by
    rw [List.concat_eq_append, List.map_append]
    cases ini <;> rfl
  rw [hne]
  refine iteT ?_
  rw [List.concat_eq_append] at hT2 hps hm
  generalize hH3 : upd H2 pe (.lst []) = H3 at s3
  have hT3 : H3 T = some (.lst ((ini.map fun r => .ref r.p) ++ [.ref p])) := by
    have := s3 _ _ hT2
    rw [List.map_append] at this
    exact this
  obtain ⟨hp, hu1, hv1⟩ := hps ⟨p, u, v, d'⟩ (List.mem_append_right _ (List.Mem.head _))
  have hsz : D.sizes (ini.map (·.d)) + d'.size = m := by
    rw [List.map_append, D.sizes_append] at hm
    have : D.sizes (ini.map (·.d)) + (d'.size + 0) = m := hm
    omega
  have hdp := D.size_pos d'
  refine ⟨fun σ' H' => ∃ m', m' < m ∧ ∃ (prs : List Pr) (o1 o2 kk : Option V), σ' = [some x, some y, some (.ref T), o1, o2, kk] ∧ Same H H' ∧ H' T = some (.lst (prs.map fun r => .ref r.p)) ∧ (∀ r ∈ prs, H' r.p = some (.tup [r.x, r.y]) ∧ Rep H r.x r.d ∧ Rep H r.y r.d) ∧ D.sizes (prs.map (·.d)) = m' ∧ m' ≤ 1000000, fun _ _ z => z, ?_⟩
  -- one, other = todo.pop()
  refine ⟨_, rfl, .inl ⟨rfl, _, SqL.of hT3⟩, T, _, .ref p, rfl, rfl, hT3, by simp, ?_⟩
  rw [List.dropLast_concat]
  have pT : p ≠ T := ne_of hp hT2 (by intro z; cases z)
  have s4 : Same H (upd H3 T (.lst (ini.map fun r => .ref r.p))) := same_upd (s2.trans s3) nT _
  refine ⟨p, _, rfl, SqT.of (by rw [upd_ne pT]; exact s3 _ _ hp), rfl, _, _, rfl, _, _, rfl, rfl, ?_⟩
  generalize hH4 : upd H3 T (.lst (ini.map fun r => .ref r.p)) = H4 at s4
  have hT4 : H4 T = some (.lst (ini.map fun r => .ref r.p)) := by rw [← hH4]; exact upd_same
  have hps4 : ∀ r ∈ ini, H4 r.p = some (.tup [r.x, r.y]) ∧ Rep H r.x r.d ∧ Rep H r.y r.d := fun r hr' => by
    obtain ⟨h1, h2, h3⟩ := hps r (List.mem_append_left _ hr')
    have rT : r.p ≠ T := ne_of h1 hT2 (by intro z; cases z)
    exact ⟨by rw [← hH4, upd_ne rT]; exact s3 _ _ h1, h2, h3⟩
  -- nothing more to compare within it
  have flat : ∀ (H5 : Hp), Same H4 H5 → d'.size = 1 → ∃ m', m' < m ∧ ∃ (prs : List Pr) (o1 o2 kk' : Option V), [some x, some y, some (V.ref T), some u, some v, kk] = [some x, some y, some (.ref T), o1, o2, kk'] ∧ Same H H5 ∧ H5 T = some (.lst (prs.map fun r => .ref r.p)) ∧ (∀ r ∈ prs, H5 r.p = some (.tup [r.x, r.y]) ∧ Rep H r.x r.d ∧ Rep H r.y r.d) ∧ D.sizes (prs.map (·.d)) = m' ∧ m' ≤ 1000000 :=
    fun H5 s5 h1 => ⟨D.sizes (ini.map (·.d)), by omega, ini, _, _, _, rfl, s4.trans s5, s5 _ _ hT4, fun r hr' => ⟨s5 _ _ (hps4 r hr').1, (hps4 r hr').2⟩, rfl, by omega⟩
  -- its items
  have kids : ∀ (vs ws : List V) (ds : List D) (H5 : Hp), Same H4 H5 → Sq K H5 u vs → Sq K H5 v ws → (∀ H6, Same H H6 → Sq K H6 u vs ∧ Sq K H6 v ws) → vs.length = ds.length → ws.length = ds.length → (∀ (i : Nat) z t, vs[i]? = some z → ds[i]? = some t → Rep H z t) → (∀ (i : Nat) z t, ws[i]? = some z → ds[i]? = some t → Rep H z t) → D.sizes ds + 1 = d'.size →
      ∀ D' : Ends, D'.nx = (fun σ' H' => ∃ m', m' < m ∧ ∃ (prs : List Pr) (o1 o2 kk : Option V), σ' = [some x, some y, some (.ref T), o1, o2, kk] ∧ Same H H' ∧ H' T = some (.lst (prs.map fun r => .ref r.p)) ∧ (∀ r ∈ prs, H' r.p = some (.tup [r.x, r.y]) ∧ Rep H r.x r.d ∧ Rep H r.y r.d) ∧ D.sizes (prs.map (·.d)) = m' ∧ m' ≤ 1000000) →
      tSeq (tIfS (tTest (tOp rNe (tCB (fun xs H Q => ∃ p ys, xs = [.ref p] ∧ (SqL K H p ys ∨ SqT K H p ys) ∧ Q (.int ys.length) H) (tCons (tVar 3) tNil)) (tCB (fun xs H Q => ∃ p ys, xs = [.ref p] ∧ (SqL K H p ys ∨ SqT K H p ys) ∧ Q (.int ys.length) H) (tCons (tVar 4) tNil)))) (tRet (tC (.bl false))) tNext)
        (tFor (iRng1 (tCons (tCB (fun xs H Q => ∃ p ys, xs = [.ref p] ∧ (SqL K H p ys ∨ SqT K H p ys) ∧ Q (.int ys.length) H) (tCons (tVar 4) tNil)) tNil)) (gName 5)
          (tDrop (tBM K "list" rAppend (tVar 2) (tCons (tTup (tCons (tOp (rIx K) (tVar 3) (tVar 5)) (tCons (tOp (rIx K) (tVar 4) (tVar 5)) tNil))) tNil)))) D' [some x, some y, some (.ref T), some u, some v, kk] H5 := by
    intro vs ws ds H5 s5 hsu hsv hst hlv hlw hrv hrw hds D' hD'
    obtain ⟨au, eu, hu5⟩ := id hsu
    obtain ⟨av, ev, hv5⟩ := id hsv
    refine ⟨_, rfl, au, vs, by rw [eu], hu5, _, rfl, av, ws, by rw [ev], hv5, rfl, _, rfl, ?_⟩
    refine iteNS (by rw [hlv, hlw]) ?_
    have hlen : ws.length ≤ 1000000 := by have := D.sizes_len ds; omega
    refine ⟨_, rfl, av, ws, by rw [ev], hv5, _, rfl, by omega, by omega, for_range (lo := 0) (n := _) (fun i σ' H' => ∃ (prs : List Pr) (kk : Option V), σ' = [some x, some y, some (.ref T), some u, some v, kk] ∧ Same H H' ∧ H' T = some (.lst (prs.map fun r => .ref r.p)) ∧ (∀ r ∈ prs, H' r.p = some (.tup [r.x, r.y]) ∧ Rep H r.x r.d ∧ Rep H r.y r.d) ∧ prs.length = ini.length + i ∧ D.sizes (prs.map (·.d)) = D.sizes (ini.map (·.d)) + D.sizes (ds.take i))
      ⟨ini, kk, rfl, s4.trans s5, s5 _ _ hT4, fun r hr' => ⟨s5 _ _ (hps4 r hr').1, (hps4 r hr').2⟩, by omega, by show _ = _ + 0; omega⟩ ?_ ?_⟩
    · rintro i σ' H6 hi ⟨prs, kk', rfl, s6, hT6, hps6, hl6, hz6⟩
      have hi' : i < ds.length := by omega
      obtain ⟨z1, e1⟩ : ∃ z, vs[i]? = some z := ⟨vs[i]'(by omega), List.getElem?_eq_getElem (by omega)⟩
      obtain ⟨z2, e2⟩ : ∃ z, ws[i]? = some z := ⟨ws[i]'(by omega), List.getElem?_eq_getElem (by omega)⟩
      obtain ⟨t, et⟩ : ∃ t, ds[i]? = some t := ⟨ds[i], List.getElem?_eq_getElem hi'⟩
      have ei : (0 : Int) + (i : Int) = ((i : Nat) : Int) := by omega
      obtain ⟨q1, q2⟩ := hst H6 s6
      have htk : ds.take (i + 1) = ds.take i ++ [t] := take_succ et
      have hzz : D.sizes (ds.take (i + 1)) = D.sizes (ds.take i) + t.size := by
        rw [htk, D.sizes_append]; show _ + (t.size + 0) = _; omega
      refine ⟨_, rfl, .inl ⟨rfl, _, SqL.of hT6⟩, _, rfl, _, rfl, q1.ix (by rw [ei]; exact atI_nat e1) ⟨_, rfl, _, rfl, q2.ix (by rw [ei]; exact atI_nat e2) ⟨(by show 2 ≤ sizeLine; decide), fun pn hpn => ?_⟩⟩⟩
      have nTp : T ≠ pn := ne_of_none hT6 hpn
      refine ⟨T, _, _, rfl, rfl, by rw [upd_ne nTp]; exact hT6, ?_, prs ++ [⟨pn, z1, z2, t⟩], _, rfl, same_upd (same_upd s6 (s6.free hpn) _) nT _, by rw [upd_same, List.map_append]; rfl, ?_, by rw [List.length_append, hl6]; show _ + _ + 1 = _; omega, ?_⟩
      · rw [List.length_map, hl6]
        have h1 := D.sizes_len (ini.map (·.d))
        rw [List.length_map] at h1
        have h2 := D.sizes_len ds
        exact small (by omega)
      · intro r hr'
        rcases List.mem_append.mp hr' with z | z
        · obtain ⟨h1, h2, h3⟩ := hps6 r z
          have r1 : r.p ≠ T := ne_of h1 hT6 (by intro z; cases z)
          have r2 : r.p ≠ pn := ne_of_none h1 hpn
          exact ⟨by rw [upd_ne r1, upd_ne r2]; exact h1, h2, h3⟩
        · have z' : r = ⟨pn, z1, z2, t⟩ := by simpa using z
          subst z'
          exact ⟨by rw [upd_ne nTp.symm, upd_same], hrv i z1 t e1 et, hrw i z2 t e2 et⟩
      · rw [List.map_append, D.sizes_append, hz6, hzz]
        show _ + (t.size + 0) = _
        omega
    · rintro σ' H6 ⟨prs, kk', rfl, s6, hT6, hps6, hl6, hz6⟩
      rw [hD']
      have en : ((ws.length : Int)).toNat = ds.length := by omega
      rw [en, List.take_length] at hz6
      exact ⟨D.sizes (prs.map (·.d)), by omega, prs, _, _, _, rfl, s6, hT6, hps6, rfl, by omega⟩
  have tyw : ∀ {H5 : Hp} {z : V} {e : D} {t : Value}, True := trivial
  cases hv1 with
  | int i =>
    cases hu1
    refine ⟨_, rfl, (by show 2 ≤ sizeLine; decide), fun tp htp => ⟨_, tp, _, _, _, _, rfl, upd_same, rfl, .int i, S.ai, _, rfl, ?_⟩⟩
    refine iteF ?_
    refine ⟨_, rfl, _, _, _, _, _, rfl, rfl, .int i, S.is, _, rfl, ?_⟩
    refine iteF ?_
    refine ⟨_, rfl, _, _, _, _, _, rfl, rfl, .int i, S.ib, _, rfl, ?_⟩
    refine iteF ?_
    refine ⟨_, rfl, rfl, _, rfl, ?_⟩
    refine iteF ?_
    refine ⟨_, rfl, _, _, _, _, _, rfl, rfl, .int i, S.ii, _, rfl, ?_⟩
    refine iteF ?_
    refine ⟨_, rfl, _, _, _, _, _, rfl, rfl, .int i, S.ib, _, rfl, ?_⟩
    refine iteF ?_
    refine ⟨_, rfl, _, rfl, rfl, _, rfl, ?_⟩
    refine iteNS rfl ?_
    exact flat _ (same_new htp _) rfl
  | str c =>
    cases hu1
    refine ⟨_, rfl, (by show 2 ≤ sizeLine; decide), fun tp htp => ⟨_, tp, _, _, _, _, rfl, upd_same, rfl, .str c, S.as_, _, rfl, ?_⟩⟩
    refine iteF ?_
    refine ⟨_, rfl, _, _, _, _, _, rfl, rfl, .str c, S.ss, _, rfl, ?_⟩
    refine iteT ?_
    refine ⟨_, rfl, _, _, _, _, _, rfl, rfl, .str c, S.ss, _, rfl, ?_⟩
    refine iteF ?_
    refine ⟨_, rfl, _, rfl, rfl, _, rfl, ?_⟩
    refine iteNS rfl ?_
    exact flat _ (same_new htp _) rfl
  | bl b =>
    cases hu1
    refine ⟨_, rfl, (by show 2 ≤ sizeLine; decide), fun tp htp => ⟨_, tp, _, _, _, _, rfl, upd_same, rfl, .bl b, S.ab, _, rfl, ?_⟩⟩
    refine iteF ?_
    refine ⟨_, rfl, _, _, _, _, _, rfl, rfl, .bl b, S.bs, _, rfl, ?_⟩
    refine iteF ?_
    refine ⟨_, rfl, _, _, _, _, _, rfl, rfl, .bl b, S.bb, _, rfl, ?_⟩
    refine iteT ?_
    refine ⟨_, rfl, _, _, _, _, _, rfl, rfl, .bl b, S.bb, _, rfl, ?_⟩
    refine iteF ?_
    refine ⟨_, rfl, _, rfl, rfl, _, rfl, ?_⟩
    refine iteNS rfl ?_
    exact flat _ (same_new htp _) rfl
  | non =>
    cases hu1
    refine ⟨_, rfl, (by show 2 ≤ sizeLine; decide), fun tp htp => ⟨_, tp, _, _, _, _, rfl, upd_same, rfl, .non, S.an, _, rfl, ?_⟩⟩
    refine iteF ?_
    refine ⟨_, rfl, _, _, _, _, _, rfl, rfl, .non, S.ns, _, rfl, ?_⟩
    refine iteF ?_
    refine ⟨_, rfl, _, _, _, _, _, rfl, rfl, .non, S.nb, _, rfl, ?_⟩
    refine iteF ?_
    refine ⟨_, rfl, rfl, _, rfl, ?_⟩
    refine iteT ?_
    refine ⟨_, rfl, rfl, _, rfl, ?_⟩
    refine iteF ?_
    exact flat _ (same_new htp _) rfl
  | @lst b ws ds hb hlw hrw =>
    cases hu1 with
    | @lst a vs _ ha hlv hrv =>
    refine ⟨_, rfl, (by show 2 ≤ sizeLine; decide), fun tp htp => ⟨_, tp, _, _, _, _, rfl, upd_same, rfl, .lst (same_new htp _ _ _ (s4 _ _ hb)), S.al, _, rfl, ?_⟩⟩
    have s5 := same_new htp (.tup [.ty "list", .ty "tuple"])
    have ha5 := s5 _ _ (s4 _ _ ha)
    have hb5 := s5 _ _ (s4 _ _ hb)
    refine iteT ?_
    refine ⟨_, rfl, _, _, _, _, _, rfl, rfl, .lst ha5, S.ll, _, rfl, _, _, _, _, _, rfl, rfl, .lst hb5, S.ll, rfl, _, rfl, ?_⟩
    refine iteNS rfl ?_
    refine ⟨_, rfl, _, _, _, _, _, rfl, rfl, .lst ha5, S.lt, _, rfl, _, _, _, _, _, rfl, rfl, .lst hb5, S.lt, rfl, _, rfl, ?_⟩
    refine iteNS rfl ?_
    exact kids vs ws ds _ s5 ⟨a, rfl, .inl (SqL.of ha5)⟩ ⟨b, rfl, .inl (SqL.of hb5)⟩ (fun H6 s6 => ⟨⟨a, rfl, .inl (SqL.of (s6 _ _ ha))⟩, ⟨b, rfl, .inl (SqL.of (s6 _ _ hb))⟩⟩) hlv hlw hrv hrw rfl _ rfl
  | @tup b ws ds hb hlw hrw =>
    cases hu1 with
    | @tup a vs _ ha hlv hrv =>
    refine ⟨_, rfl, (by show 2 ≤ sizeLine; decide), fun tp htp => ⟨_, tp, _, _, _, _, rfl, upd_same, rfl, .tup (same_new htp _ _ _ (s4 _ _ hb)), S.at_, _, rfl, ?_⟩⟩
    have s5 := same_new htp (.tup [.ty "list", .ty "tuple"])
    have ha5 := s5 _ _ (s4 _ _ ha)
    have hb5 := s5 _ _ (s4 _ _ hb)
    refine iteT ?_
    refine ⟨_, rfl, _, _, _, _, _, rfl, rfl, .tup ha5, S.tl, _, rfl, _, _, _, _, _, rfl, rfl, .tup hb5, S.tl, rfl, _, rfl, ?_⟩
    refine iteNS rfl ?_
    refine ⟨_, rfl, _, _, _, _, _, rfl, rfl, .tup ha5, S.tt, _, rfl, _, _, _, _, _, rfl, rfl, .tup hb5, S.tt, rfl, _, rfl, ?_⟩
    refine iteNS rfl ?_
    exact kids vs ws ds _ s5 ⟨a, rfl, .inr (SqT.of ha5)⟩ ⟨b, rfl, .inr (SqT.of hb5)⟩ (fun H6 s6 => ⟨⟨a, rfl, .inr (SqT.of (s6 _ _ ha))⟩, ⟨b, rfl, .inr (SqT.of (s6 _ _ hb))⟩⟩) hlv hlw hrv hrw rfl _ rfl
end
end BB

set_option Elab.async false
set_option linter.all false
set_option maxRecDepth 100000
set_option maxHeartbeats 4000000
namespace BB
open PySem L2
section
variable {P : Program} {w : World} {K : PySem.W.Frag} {mg : Str → Option Value} {base : Heap}
/-! ### _law_told_list, _law_same_told -/
structure EvDu (H : Hp) (ev du : Addr) (H2 : Hp) (es : List Ev) (vs : List V) (due : List Int) : Prop where
  s : Same H H2
  n1 : H ev = none
  n2 : H du = none
  ne : ev ≠ du
  a1 : H2 ev = some (.lst vs)
  a2 : H2 du = some (.lst (due.map V.int))
  v : All2 (Rep (Off [ev, du] H2)) vs (es.map evD)
  l : due.length = 128
theorem EvDu.mono {H : Hp} {ev du : Addr} {H2 H3 : Hp} {es : List Ev} {vs : List V} {due : List Int} (h : EvDu H ev du H2 es vs due) (s : Same H2 H3) : EvDu H ev du H3 es vs due :=
  ⟨h.s.trans s, h.n1, h.n2, h.ne, s _ _ h.a1, s _ _ h.a2, reps_mono (off_same s) h.v, h.l⟩
theorem EvDu.push {H : Hp} {ev du : Addr} {H2 : Hp} {es : List Ev} {vs : List V} {due : List Int} {u : V} {e : Ev} (h : EvDu H ev du H2 es vs due) (r : Rep (Off [ev, du] H2) u (evD e)) : EvDu H ev du (upd H2 ev (.lst (vs ++ [u]))) (es ++ [e]) (vs ++ [u]) due :=
  ⟨same_upd h.s h.n1 _, h.n1, h.n2, h.ne, upd_same, by rw [upd_ne h.ne.symm]; exact h.a2, by rw [off_upd (by simp), List.map_append]; exact h.v.snoc r, h.l⟩
theorem EvDu.set {H : Hp} {ev du : Addr} {H2 : Hp} {es : List Ev} {vs : List V} {due : List Int} {j : Nat} {n : Int} (h : EvDu H ev du H2 es vs due) : EvDu H ev du (upd H2 du (.lst ((due.map V.int).set j (.int n)))) es vs (due.set j n) :=
  ⟨same_upd h.s h.n2 _, h.n1, h.n2, h.ne, by rw [upd_ne h.ne]; exact h.a1, by rw [upd_same, List.map_set], by rw [off_upd (by simp)]; exact h.v, by rw [List.length_set]; exact h.l⟩
theorem EvDu.new {H : Hp} {ev du : Addr} {H2 : Hp} {es : List Ev} {vs : List V} {due : List Int} {t : Addr} {o : HO} (h : EvDu H ev du H2 es vs due) (ht : H2 t = none) : Off [ev, du] (upd H2 t o) t = some o := by
  have m1 := ne_isSome h.a1 ht
  have m2 := ne_isSome h.a2 ht
  rw [off_get (by simp only [List.mem_cons, List.not_mem_nil, or_false, not_or]; exact ⟨m1, m2⟩), upd_same]
def spToldList : Sp := fun vs H Q _ => ∃ (c : Addr) (cs : List Int), vs = [.ref c] ∧ H c = some (.lst (cs.map V.int)) ∧ cs.length ≤ 63 ∧
  ∀ r (es : List Ev) (vs : List V) H', LsAt H r H' (es.map evD) vs → es.length = cs.length → bxWs es ≤ 4 * cs.length → Q (.ref r) H'
theorem scToldList : FnScope ["_law_cells", "_law_events", "_law_due", "_law_k", "_law_cell", "_law_far", "_law_rest", "_law_words", "_law_label", "_law_count", "_law_some", "_law_content"] ["_law_cells"] (defScope sToldList) := ⟨rfl, rfl, rfl, by decide +kernel, rfl, by decide +kernel, by decide +kernel⟩
theorem words6 {k : Int} (h0 : 0 ≤ k) (h1 : k < 6) : ∃ (wd : Str) (e : Int → Ev), atI [V.str "stray", .str "check", .str "cut", .str "great", .str "end", .str "escape"] k = some (.str wd) ∧ ∀ p, evD (e p) = .tup [.str "fault", .str wd, .int p] ∧ bxW (e p) = 0 := by
  obtain rfl | rfl | rfl | rfl | rfl | rfl : k = 0 ∨ k = 1 ∨ k = 2 ∨ k = 3 ∨ k = 4 ∨ k = 5 := by omega
  · exact ⟨_, .stray, rfl, fun p => ⟨rfl, rfl⟩⟩
  · exact ⟨_, .check, rfl, fun p => ⟨rfl, rfl⟩⟩
  · exact ⟨_, .cut, rfl, fun p => ⟨rfl, rfl⟩⟩
  · exact ⟨_, .great, rfl, fun p => ⟨rfl, rfl⟩⟩
  · exact ⟨_, .fin, rfl, fun p => ⟨rfl, rfl⟩⟩
  · exact ⟨_, .escape, rfl, fun p => ⟨rfl, rfl⟩⟩
theorem ixN_ok {n : Nat} {k : Int} (h0 : 0 ≤ k) (h1 : k < (n : Int)) : ixN n k = some k.toNat := by
  unfold ixN
  rw [if_pos h0, if_pos h1]
theorem ok_toldList {f : Addr} {fd : FuncData} (F : Fun K "_law_told_list" "_law_told_list" sToldList f fd) (B : Blt K mg) (mm : mg "min" = none) : FnOk P w K mg base (CXs P w) 1 f fd ["_law_cells"] spToldList := by
  refine F.okX scToldList (fun vs H Q E h => ?_) (fun cdv A outer s H vs Q E hr h => ?_)
  · obtain ⟨c, cs, rfl, _⟩ := h
    rfl
  obtain ⟨c, cs, rfl, hc, h63, q⟩ := h
  refine ⟨_, (pss_cons (ps_set (i := 1) scToldList.nd rfl (Or.inl rfl) (pe_lst pa_nil))
    (pss_cons (ps_set (i := 2) scToldList.nd rfl (Or.inl rfl) (pe_op op_rep (pe_lst (pa_cons pe_int pa_nil)) pe_int))
    (pss_cons (ps_for passes_def rfl (pi_range1 rfl B.range (pa_cons (pe_callB call_len_seq rfl B.len PySem.boot_len (pa_cons (pv 0) pa_nil)) pa_nil)) (pg_name (i := 3) scToldList.nd rfl (Or.inl rfl))
      (pss_cons (ps_set (i := 4) scToldList.nd rfl (Or.inl rfl) (pe_ix ix_list (pv 0) (pv 3) (fun _ _ => rfl)))
      (pss_cons (ps_set (i := 5) scToldList.nd rfl (Or.inl rfl) (pe_ix ix_list (pv 0) (pe_op op_mod (pe_op op_add (pv 3) pe_int) (pe_callB call_len_seq rfl B.len PySem.boot_len (pa_cons (pv 0) pa_nil))) (fun _ _ => rfl)))
      (pss_cons (ps_set (i := 6) scToldList.nd rfl (Or.inl rfl) (pe_op op_fdiv (pv 4) pe_int))
      (pss_one (ps_if (pt_cmpR op_eq (pe_op op_mod (pv 4) pe_int) pe_int (nomark _))
        (pss_cons (ps_set (i := 7) scToldList.nd rfl (Or.inl rfl) (pe_lst (pa_cons (pe_str (x := "stray")) (pa_cons (pe_str (x := "check")) (pa_cons (pe_str (x := "cut")) (pa_cons (pe_str (x := "great")) (pa_cons (pe_str (x := "end")) (pa_cons (pe_str (x := "escape")) pa_nil))))))))
        (pss_one (ps_expr (pe_bm PySem.F.plainAttrs_list PySem.F.slot_list_append PySem.F.type_list_append mt_append (pv 1) (pa_cons (pe_tup (pa_cons (pe_str (x := "fault")) (pa_cons (pe_ix ix_list (pv 7) (pe_op op_mod (pv 6) pe_int) (fun _ _ => rfl)) (pa_cons (pe_op op_mul pe_int (pv 3)) pa_nil)))) pa_nil)))))
        (pss_cons (ps_set (i := 8) scToldList.nd rfl (Or.inl rfl) (pe_ix ix_list (pe_lst (pa_cons (pe_op op_mod (pv 6) pe_int) (pa_cons (pe_op op_mod (pv 6) pe_int) (pa_cons (pe_op op_mod (pv 6) pe_int) pa_nil)))) (pe_op op_mod (pv 4) pe_int) (fun _ _ => rfl)))
        (pss_cons (ps_set (i := 9) scToldList.nd rfl (Or.inl rfl) (pe_callB (call_min2 rfl) rfl mm PyProof.Rows.boot_min (pa_cons pe_int (pa_cons (pe_ix ix_list (pv 2) (pe_op op_fdiv (pv 8) pe_int) (fun _ _ => rfl)) pa_nil))))
        (pss_cons (ps_if (pt_cmpR op_eq (pe_op op_mod (pe_op op_fdiv (pv 6) pe_int) pe_int) pe_int (nomark _))
          (pss_one (ps_set (i := 9) scToldList.nd rfl (Or.inl rfl) (pe_ix ix_list (pe_lst (pa_cons pe_int (pa_cons pe_int (pa_cons pe_int (pa_cons pe_int (pa_cons pe_int (pa_cons (pe_op op_mod (pv 5) pe_int) pa_nil))))))) (pe_op op_mod (pe_op op_fdiv (pv 5) pe_int) pe_int) (fun _ _ => rfl))))
          pss_nil)
        (pss_cons (ps_set (i := 10) scToldList.nd rfl (Or.inl rfl) (pe_lst (pa_cons (pe_op op_mod (pe_op op_fdiv (pv 5) pe_int) pe_int) (pa_cons (pe_op op_mod (pe_op op_add (pv 4) (pe_op op_mul pe_int (pv 3))) pe_int) pa_nil))))
        (pss_cons (ps_set (i := 11) scToldList.nd rfl (Or.inl rfl) (pe_op op_cat (pe_lst (pa_cons (pv 9) pa_nil)) (pe_slice sl_list (pv 10) po_none (po_some (pe_op op_mod (pe_op op_fdiv (pv 5) pe_int) pe_int)))))
        (pss_cons (ps_if (PW.pt (pw_and (pt_cmpR op_eq (pe_op op_mod (pe_op op_fdiv (pv 6) pe_int) pe_int) pe_int (nomark _)) (pw_and1 (pt_cmpR op_eq (pe_op op_mod (pv 5) pe_int) pe_int (nomark _)))))
          (pss_one (ps_set (i := 11) scToldList.nd rfl (Or.inl rfl) (pe_lst pa_nil)))
          pss_nil)
        (pss_cons (ps_asg (pe_op op_add (pv 9) pe_int) (pg_sub (pv 2) (pe_op op_fdiv (pv 8) pe_int) set_list))
        (pss_cons (ps_if (pt_cmpR op_eq (pe_op op_mod (pv 8) pe_int) pe_int (nomark _))
          (pss_one (ps_asg pe_int (pg_sub (pv 2) (pe_op op_fdiv (pv 8) pe_int) set_list)))
          pss_nil)
        (pss_one (ps_expr (pe_bm PySem.F.plainAttrs_list PySem.F.slot_list_append PySem.F.type_list_append mt_append (pv 1) (pa_cons (pe_tup (pa_cons (pe_str (x := "box")) (pa_cons (pv 8) (pa_cons (pv 11) (pa_cons (pe_op op_mul pe_int (pv 3)) (pa_cons (pe_op op_add (pe_op op_mul pe_int (pv 3)) pe_int) pa_nil)))))) pa_nil))))))))))))))))))
    (pss_one (ps_ret (pv 1)))))), ?_⟩
  refine ⟨(by show 0 ≤ sizeLine; decide), fun ev hev => ?_⟩
  have t0 := same_new hev (.lst [])
  refine ⟨(by show 1 ≤ sizeLine; decide), fun p hp => ?_⟩
  have t1 := same_new hp (.lst [V.int 0])
  refine ⟨p, 128, _, rfl, rfl, upd_same, by decide, by decide, by decide, fun du hdu => ?_⟩
  have t2 := same_new hdu (.lst (List.replicate (128 : Int).toNat [V.int 0]).flatten)
  have h0 : EvDu H ev du (upd (upd (upd H ev (.lst [])) p (.lst [V.int 0])) du (.lst (List.replicate (128 : Int).toNat [V.int 0]).flatten)) [] [] (List.replicate 128 0) :=
    ⟨(t0.trans t1).trans t2, hev, (t0.trans t1).free hdu, (ne_isSome (t1 _ _ upd_same) hdu).symm, t2 _ _ (t1 _ _ upd_same), by rw [upd_same]; rfl, .nil, List.length_replicate⟩
  generalize upd (upd (upd H ev (.lst [])) p (.lst [V.int 0])) du (.lst (List.replicate (128 : Int).toNat [V.int 0]).flatten) = H3 at h0
  have hlc : (((cs.map V.int).length : Nat) : Int) = (cs.length : Int) := by rw [List.length_map]
  refine ⟨_, rfl, c, _, rfl, .inl (SqL.of (h0.s _ _ hc)), ?_⟩
  rw [List.length_map]
  refine ⟨_, rfl, by omega, by omega, for_range (lo := 0) (n := _) (fun i σ H4 => ∃ (o3 o4 o5 o6 o7 o8 o9 o10 o11 : Option V) (es : List Ev) (vs : List V) (due : List Int), σ = [some (.ref c), some (.ref ev), some (.ref du), o3, o4, o5, o6, o7, o8, o9, o10, o11] ∧ EvDu H ev du H4 es vs due ∧ es.length = i ∧ bxWs es ≤ 4 * i)
    ⟨none, none, none, none, none, none, none, none, none, [], [], _, rfl, h0, rfl, Nat.le_refl _⟩ ?_ ?_⟩
  · rintro i σ H4 hi ⟨o3, o4, o5, o6, o7, o8, o9, o10, o11, es, vs, due, rfl, h4, hel, hbw⟩
    have hin : i < cs.length := by omega
    have hvl : vs.length = i := by rw [h4.v.length_eq, List.length_map]; exact hel
    have e0 : (0 : Int) + (i : Int) = (i : Int) := by omega
    rw [e0]
    have hc4 := h4.s _ _ hc
    obtain ⟨cell, _, hcell⟩ := pickI cs (k := (i : Int)) (by omega) (by omega)
    obtain ⟨far, _, hfar⟩ := pickI cs (k := ((i : Int) + 1) % (cs.length : Int)) (by apply Int.emod_nonneg; omega) (by apply Int.emod_lt_of_pos; omega)
    refine ⟨_, rfl, _, rfl, c, _, _, _, rfl, rfl, SqL.of hc4, hcell, ?_⟩
    refine ⟨_, rfl, _, rfl, _, _, rfl, rfl, _, rfl, c, _, rfl, .inl (SqL.of hc4), _, _, rfl, rfl, by rw [List.length_map]; omega, c, _, _, _, rfl, rfl, SqL.of hc4, by rw [List.length_map]; exact hfar, ?_⟩
    refine ⟨_, rfl, _, _, rfl, rfl, ⟨by decide, by decide⟩, ?_⟩
    refine ⟨_, rfl, _, _, rfl, rfl, (by show (0 : Int) < 7; decide), rfl, _, rfl, ?_⟩
    refine ite2 (fun _ => ?_) (fun _ => ?_)
    · obtain ⟨wd, ew, hat, hew⟩ := words6 (k := cell / 7 % 6) (by omega) (by omega)
      refine ⟨(by show 6 ≤ sizeLine; decide), fun p1 hp1 => ?_⟩
      have u1 := same_new hp1 (.lst [V.str "stray", .str "check", .str "cut", .str "great", .str "end", .str "escape"])
      have h5 := h4.mono u1
      refine ⟨_, rfl, .inl ⟨rfl, _, SqL.of h5.a1⟩, _, rfl, _, rfl, _, _, rfl, rfl, (by show (0 : Int) < 6; decide), p1, _, _, _, rfl, rfl, SqL.of upd_same, hat, _, rfl, _, _, rfl, rfl, .inl ⟨by decide, by decide⟩, (by show 3 ≤ sizeLine; decide), fun p2 hp2 => ?_⟩
      have u2 := same_new hp2 (.tup [.str "fault", .str wd, .int (10 * (i : Int))])
      have h6 := h5.mono u2
      refine ⟨ev, _, _, rfl, rfl, h6.a1, small (by omega), ?_⟩
      obtain ⟨e1, e2⟩ := hew (10 * (i : Int))
      refine ⟨_, _, _, _, _, _, _, _, _, es ++ [ew (10 * (i : Int))], _, due, rfl, h6.push ?_, by rw [List.length_append, hel]; rfl, ?_⟩
      · rw [e1]; exact rep_fault (h5.new hp2)
      · rw [bxWs_append]; show _ + (bxW _ + 0) ≤ _; rw [e2]; omega
    obtain ⟨lab, hlm, hlab⟩ := pickI [cell / 7 % 6, cell / 7 % 6, cell / 7 % 256] (k := cell % 3) (by omega) (by show cell % 3 < 3; omega)
    have okl : 0 ≤ lab ∧ lab ≤ 255 := by
      simp only [List.mem_cons, List.not_mem_nil, or_false] at hlm
      omega
    refine ⟨_, rfl, _, _, rfl, rfl, (by show (0 : Int) < 6; decide), _, rfl, _, _, rfl, rfl, (by show (0 : Int) < 6; decide), _, rfl, _, _, rfl, rfl, (by show (0 : Int) < 256; decide), (by show 3 ≤ sizeLine; decide), fun p1 hp1 => ?_⟩
    have u1 := same_new hp1 (.lst [V.int (cell / 7 % 6), .int (cell / 7 % 6), .int (cell / 7 % 256)])
    have h5 := h4.mono u1
    refine ⟨_, rfl, _, _, rfl, rfl, (by show (0 : Int) < 3; decide), p1, _, _, _, rfl, rfl, SqL.of upd_same, hlab, ?_⟩
    generalize upd H4 p1 (.lst [V.int (cell / 7 % 6), .int (cell / 7 % 6), .int (cell / 7 % 256)]) = H5 at h5
    obtain ⟨d0, _, hd0⟩ := pickI due (k := lab / 2) (by omega) (by rw [h5.l]; omega)
    have hix : ixN (due.map V.int).length (lab / 2) = some (lab / 2).toNat := ixN_ok (by omega) (by rw [List.length_map, h5.l]; omega)
    try dsimp only [gName]
    refine seq_by (fun σ H6 => ∃ cnt : Int, σ = [some (.ref c), some (.ref ev), some (.ref du), some (.int (i : Int)), some (.int cell), some (.int far), some (.int (cell / 7)), o7, some (.int lab), some (.int cnt), o10, o11] ∧ H6 = H5) ?_ ?_
    rotate_left
    · intro nx hnx
      exact ⟨_, rfl, _, rfl, _, _, rfl, rfl, ⟨by decide, by decide⟩, du, _, _, _, rfl, rfl, SqL.of h5.a2, hd0, _, _, rfl, hnx _ _ ⟨_, rfl, rfl⟩⟩
    rintro σ H6 ⟨cnt, rfl, rfl⟩
    try dsimp only [gName]
    refine seq_by (t := tIfS _ _ _) (fun σ H7 => ∃ cnt : Int, σ = [some (.ref c), some (.ref ev), some (.ref du), some (.int (i : Int)), some (.int cell), some (.int far), some (.int (cell / 7)), o7, some (.int lab), some (.int cnt), o10, o11] ∧ EvDu H ev du H7 es vs due) ?_ ?_
    rotate_left
    · intro nx hnx
      refine ⟨_, rfl, _, _, rfl, rfl, ⟨by decide, by decide⟩, _, _, rfl, rfl, (by show (0 : Int) < 4; decide), rfl, _, rfl, ?_⟩
      refine ite2 (fun _ => ?_) (fun _ => hnx _ _ ⟨_, rfl, h5⟩)
      obtain ⟨n, _, hn⟩ := pickI [0, 1, 2, 3, 255, far % 256] (k := far / 5 % 6) (by omega) (by show far / 5 % 6 < 6; omega)
      refine ⟨_, rfl, _, _, rfl, rfl, (by show (0 : Int) < 256; decide), (by show 6 ≤ sizeLine; decide), fun p2 hp2 => ?_⟩
      have u2 := same_new hp2 (.lst [V.int 0, .int 1, .int 2, .int 3, .int 255, .int (far % 256)])
      exact ⟨_, rfl, _, _, rfl, rfl, ⟨by decide, by decide⟩, _, _, rfl, rfl, (by show (0 : Int) < 6; decide), p2, _, _, _, rfl, rfl, SqL.of upd_same, hn, hnx _ _ ⟨_, rfl, h5.mono u2⟩⟩
    rintro σ H7 ⟨cnt', rfl, h7⟩
    refine ⟨_, rfl, _, _, rfl, rfl, ⟨by decide, by decide⟩, _, _, rfl, rfl, (by show (0 : Int) < 256; decide), _, rfl, _, rfl, _, _, rfl, rfl, .inl ⟨by decide, by decide⟩, _, _, rfl, rfl, _, _, rfl, rfl, (by show (0 : Int) < 256; decide), (by show 2 ≤ sizeLine; decide), fun p3 hp3 => ?_⟩
    have u3 := same_new hp3 (.lst [V.int (far / 2 % 256), .int ((cell + 37 * (i : Int)) % 256)])
    have h8 := h7.mono u3
    refine ⟨_, rfl, (by show 1 ≤ sizeLine; decide), fun p4 hp4 => ?_⟩
    have u4 := same_new hp4 (.lst [V.int cnt'])
    have h9 := h8.mono u4
    refine ⟨_, rfl, _, rfl, _, _, rfl, rfl, ⟨by decide, by decide⟩, _, _, rfl, rfl, (by show (0 : Int) < 3; decide), _, rfl, p3, _, rfl, SqL.of (u4 _ _ upd_same), fun p5 hp5 => ?_⟩
    have ec : [V.int (far / 2 % 256), V.int ((cell + 37 * (i : Int)) % 256)] = [far / 2 % 256, (cell + 37 * (i : Int)) % 256].map V.int := rfl
    rw [ec, cutV_ints]
    have hcl := cutI_len [far / 2 % 256, (cell + 37 * (i : Int)) % 256] none (some (far / 3 % 3))
    generalize cutI [far / 2 % 256, (cell + 37 * (i : Int)) % 256] none (some (far / 3 % 3)) = sm at hcl
    have hcl' : sm.length ≤ 2 := hcl
    have u5 := same_new hp5 (.lst (sm.map V.int))
    have hA := h9.mono u5
    refine ⟨p4, p5, _, _, rfl, rfl, u5 _ _ upd_same, upd_same, by rw [List.length_map]; exact small' (by show 1 + _ ≤ _; omega), fun p6 hp6 => ?_⟩
    have u6 := same_new hp6 (.lst ([V.int cnt'] ++ sm.map V.int))
    have hB := hA.mono u6
    have hcon := hA.new (o := .lst ((cnt' :: sm).map V.int)) hp6
    try dsimp only [gName]
    refine seq_by (t := tIfS _ _ _) (fun σ HC => ∃ (ca : Addr) (con : List Int), σ = [some (.ref c), some (.ref ev), some (.ref du), some (.int (i : Int)), some (.int cell), some (.int far), some (.int (cell / 7)), o7, some (.int lab), some (.int cnt'), some (.ref p3), some (.ref ca)] ∧ EvDu H ev du HC es vs due ∧ Off [ev, du] HC ca = some (.lst (con.map V.int)) ∧ con.length ≤ 3) ?_ ?_
    rotate_left
    · intro nx hnx
      have keep := hnx [some (.ref c), some (.ref ev), some (.ref du), some (.int (i : Int)), some (.int cell), some (.int far), some (.int (cell / 7)), o7, some (.int lab), some (.int cnt'), some (.ref p3), some (.ref p6)] _ ⟨p6, cnt' :: sm, rfl, hB, hcon, by show sm.length + 1 ≤ 3; omega⟩
      refine ⟨_, rfl, _, _, rfl, rfl, ⟨by decide, by decide⟩, _, _, rfl, rfl, (by show (0 : Int) < 4; decide), rfl, _, rfl, ?_⟩
      refine ite2 (fun _ => ?_) (fun _ => ifF rfl keep)
      refine ⟨_, rfl, _, _, rfl, rfl, (by show (0 : Int) < 4; decide), rfl, _, rfl, ?_⟩
      refine ite2 (fun _ => ?_) (fun _ => keep)
      refine ⟨(by show 0 ≤ sizeLine; decide), fun p7 hp7 => ?_⟩
      exact hnx _ _ ⟨p7, [], rfl, hB.mono (same_new hp7 _), hB.new hp7, Nat.zero_le _⟩
    rintro σ HC ⟨ca, con, rfl, hC, hca, hcon3⟩
    refine ⟨_, rfl, _, _, rfl, rfl, _, rfl, _, rfl, _, _, rfl, rfl, ⟨by decide, by decide⟩, du, _, _, _, rfl, rfl, hC.a2, hix, ?_⟩
    have hD := hC.set (j := (lab / 2).toNat) (n := cnt' + 1)
    have hca1 : Off [ev, du] (upd HC du (.lst ((due.map V.int).set (lab / 2).toNat (.int (cnt' + 1))))) ca = some (.lst (con.map V.int)) := by rw [off_upd (by simp)]; exact hca
    try dsimp only [gName]
    refine seq_by (t := tIfS _ _ _) (fun σ HE => ∃ (due' : List Int), σ = [some (.ref c), some (.ref ev), some (.ref du), some (.int (i : Int)), some (.int cell), some (.int far), some (.int (cell / 7)), o7, some (.int lab), some (.int cnt'), some (.ref p3), some (.ref ca)] ∧ EvDu H ev du HE es vs due' ∧ Off [ev, du] HE ca = some (.lst (con.map V.int))) ?_ ?_
    rotate_left
    · intro nx hnx
      refine ⟨_, rfl, _, _, rfl, rfl, (by show (0 : Int) < 2; decide), rfl, _, rfl, ?_⟩
      refine ite2 (fun _ => ?_) (fun _ => hnx _ _ ⟨_, rfl, hD, hca1⟩)
      refine ⟨_, rfl, _, rfl, _, _, rfl, rfl, ⟨by decide, by decide⟩, du, _, _, _, rfl, rfl, hD.a2, ixN_ok (by omega) (by rw [List.length_map, hD.l]; omega), ?_⟩
      exact hnx _ _ ⟨_, rfl, hD.set, by rw [off_upd (by simp)]; exact hca1⟩
    rintro σ HE ⟨due', rfl, hE, hca2⟩
    refine ⟨_, rfl, .inl ⟨rfl, _, SqL.of hE.a1⟩, _, rfl, _, rfl, _, rfl, _, _, rfl, rfl, .inl ⟨by decide, by decide⟩, _, rfl, _, _, rfl, rfl, .inl ⟨by decide, by decide⟩, _, _, rfl, rfl, (by show 5 ≤ sizeLine; decide), fun p8 hp8 => ?_⟩
    have u8 := same_new hp8 (.tup [.str "box", .int lab, .ref ca, .int (10 * (i : Int)), .int (10 * (i : Int) + 9)])
    have hF := hE.mono u8
    have hca3 := off_same (es := [ev, du]) u8 _ _ hca2
    refine ⟨ev, _, _, rfl, rfl, hF.a1, small (by omega), ?_⟩
    refine ⟨_, _, _, _, _, _, _, _, _, es ++ [.box lab con (10 * (i : Int)) (10 * (i : Int) + 9)], _, due', rfl, hF.push ?_, by rw [List.length_append, hel]; rfl, ?_⟩
    · exact rep_tup (hE.new hp8) (.cons (.str _) (.cons (.int _) (.cons (rep_ints hca3) (.cons (.int _) (.cons (.int _) .nil)))))
    · rw [bxWs_append]; show _ + (con.length + 1 + 0) ≤ _; omega
  · rintro σ H4 ⟨o3, o4, o5, o6, o7, o8, o9, o10, o11, es, vs, due, rfl, h4, hel, hbw⟩
    have e : ((cs.length : Int)).toNat = cs.length := Int.toNat_natCast _
    have hel' : es.length = cs.length := by first | exact hel | (rw [e] at hel; exact hel)
    have hbw' : bxWs es ≤ 4 * cs.length := by first | exact hbw | (rw [e] at hbw; exact hbw)
    refine ⟨_, rfl, q ev es vs H4 ⟨h4.s, h4.n1, h4.a1, ?_⟩ hel' hbw'⟩
    refine reps_mono (fun b o hb => ?_) h4.v
    by_cases hm : b ∈ [ev, du]
    · unfold Off at hb; rw [if_pos hm] at hb; cases hb
    · rw [off_get hm] at hb
      rw [off_get (fun z => hm (by simp only [List.mem_cons, List.not_mem_nil, or_false] at z ⊢; exact .inl z))]
      exact hb
theorem scSameTold : FnScope ["_law_found", "_law_due"] ["_law_found", "_law_due"] (defScope sSameTold) := ⟨rfl, rfl, rfl, by decide +kernel, rfl, by decide +kernel, by decide +kernel⟩
theorem ok_sameTold {f g : Addr} {fd gd : FuncData} (F : Fun K "_law_same_told" "_law_same_told" sSameTold f fd) (D : Def K mg "_law_so" sSo ["_law_found", "_law_due"] g gd) (G : FnOk P w K mg base (CXs P w) 1 g gd ["_law_found", "_law_due"] spSo) :
    FnOk P w K mg base (CXs P w) 2 f fd ["_law_found", "_law_due"] spSo := by
  refine F.okX scSameTold (fun vs H Q E h => ?_) (fun cdv A outer s H vs Q E hr h => ?_)
  · obtain ⟨x, y, d, rfl, _⟩ := h
    rfl
  obtain ⟨x, y, d, rfl, hx, hy, hd, q⟩ := h
  refine ⟨_, (pss_one (ps_ret (pe_call G hr rfl D.m D.F.kp D.b .nil pass_on (pa_cons (pv 0) (pa_cons (pv 1) pa_nil))))), ?_⟩
  exact ⟨_, rfl, _, rfl, x, y, d, rfl, hx, hy, hd, q⟩
end
end BB

set_option Elab.async false
set_option linter.all false
set_option maxRecDepth 100000
set_option maxHeartbeats 4000000
namespace BB
open PySem L2
section
variable {P : Program} {w : World} {K : PySem.W.Frag} {mg : Str → Option Value} {base : Heap}
/-! ### the law's own keeping -/
def dueOf (st : Hs) (k : Int) : Int := if k ∈ st.ks then (st.f k).1 else 0
def numsOf (st : Hs) (k : Int) : List Int := if k ∈ st.ks then (st.f k).2 else []
def goodB (d : Int) : List Int → Bool
  | [] => false
  | c :: _ => decide (c = 0) || decide (d = c)
def lawLost (st : Hs) (l : Int) (con : List Int) (s : Int) : Hs := if goodB (dueOf st (l / 2)) con = false ∨ con.head? = some 0 then st.lose (l / 2) s else st
def lawStep (st : Hs) (l : Int) (con : List Int) (s p : Int) : Hs :=
  if goodB (dueOf st (l / 2)) con = true then
    (if l % 2 = 1 then ((lawLost st l con s).hold (l / 2) (numsOf (lawLost st l con s) (l / 2) ++ con.tail) (con.headD 0 + 1)).give (l / 2) p
     else (lawLost st l con s).hold (l / 2) (numsOf (lawLost st l con s) (l / 2) ++ con.tail) (con.headD 0 + 1))
  else lawLost st l con s
theorem lose_not (st : Hs) (k s : Int) : k ∉ (st.lose k s).ks := by
  unfold Hs.lose
  split
  · exact not_delK
  · assumption
theorem lawStep_eq {st : Hs} {W M : Nat} (h : HsOk st W M) (l : Int) (con : List Int) (s p : Int) : lawStep st l con s p = st.take l con s p := by
  have fin : ∀ {L st1 : Hs} {b : Bool}, lawLost st l con s = L → st.keep (l / 2) con s = (st1, b) → goodB (dueOf st (l / 2)) con = b → (b = true → L.hold (l / 2) (numsOf L (l / 2) ++ con.tail) (con.headD 0 + 1) = st1) → (b = false → L = st1) → lawStep st l con s p = st.take l con s p := by
    intro L st1 b e1 e2 e3 e4 e5
    unfold lawStep Hs.take
    rw [e1, e2, e3]
    cases b with
    | true =>
      rw [if_pos rfl, e4 rfl]
      by_cases hl : l % 2 = 1
      · rw [if_pos hl, if_pos ⟨rfl, hl⟩]
      · rw [if_neg hl, if_neg (fun z => hl z.2)]
    | false =>
      rw [if_neg Bool.false_ne_true, if_neg (fun z => Bool.false_ne_true z.1)]
      exact e5 rfl
  cases con with
  | nil => exact fin (L := st.lose (l / 2) s) (st1 := st.lose (l / 2) s) (b := false) (if_pos (.inl rfl)) ((if_neg (fun z => by cases z.2)).trans (if_neg (fun z => by cases z))) rfl (fun z => by cases z) (fun _ => rfl)
  | cons c r =>
    by_cases c0 : c = 0
    · subst c0
      have hn : ¬ (l / 2 ∈ st.ks ∧ (0 :: r).head? = some (st.f (l / 2)).1) := fun z => by
        have h1 := h.d _ z.1
        have h2 : (0 : Int) = (st.f (l / 2)).1 := Option.some.inj z.2
        omega
      have e1 : numsOf (st.lose (l / 2) s) (l / 2) = [] := if_neg (lose_not _ _ _)
      refine fin (L := st.lose (l / 2) s) (st1 := (st.lose (l / 2) s).hold (l / 2) r 1) (b := true) (if_pos (.inr rfl)) ((if_neg hn).trans (if_pos rfl)) rfl (fun _ => ?_) (fun z => by cases z)
      rw [e1]; rfl
    · have hh : ¬ (c :: r).head? = some 0 := fun z => c0 (Option.some.inj z)
      by_cases hk : l / 2 ∈ st.ks
      · have hd : dueOf st (l / 2) = (st.f (l / 2)).1 := if_pos hk
        by_cases hc : (st.f (l / 2)).1 = c
        · have hg : goodB (dueOf st (l / 2)) (c :: r) = true := by
            show (decide (c = 0) || decide (dueOf st (l / 2) = c)) = true
            rw [hd, decide_eq_true hc, Bool.or_true]
          have e1 : numsOf st (l / 2) = (st.f (l / 2)).2 := if_pos hk
          refine fin (L := st) (st1 := st.hold (l / 2) ((st.f (l / 2)).2 ++ r) ((st.f (l / 2)).1 + 1)) (b := true) (if_neg ?_) (if_pos ⟨hk, congrArg some hc.symm⟩) hg (fun _ => ?_) (fun z => by cases z)
          · rw [hg]
            rintro (z | z)
            · cases z
            · exact hh z
          · rw [e1, hc]; rfl
        · have hg : goodB (dueOf st (l / 2)) (c :: r) = false := by
            show (decide (c = 0) || decide (dueOf st (l / 2) = c)) = false
            rw [hd, decide_eq_false hc, decide_eq_false c0]; rfl
          exact fin (L := st.lose (l / 2) s) (st1 := st.lose (l / 2) s) (b := false) (if_pos (.inl hg)) ((if_neg (fun z => hc (Option.some.inj z.2).symm)).trans (if_neg hh)) hg (fun z => by cases z) (fun _ => rfl)
      · have hd : dueOf st (l / 2) = 0 := if_neg hk
        have c0' : ¬ (0 : Int) = c := fun z => c0 z.symm
        have hg : goodB (dueOf st (l / 2)) (c :: r) = false := by
          show (decide (c = 0) || decide (dueOf st (l / 2) = c)) = false
          rw [hd, decide_eq_false c0, decide_eq_false c0']; rfl
        exact fin (L := st.lose (l / 2) s) (st1 := st.lose (l / 2) s) (b := false) (if_pos (.inl hg)) ((if_neg (fun z => hk z.1)).trans (if_neg hh)) hg (fun z => by cases z) (fun _ => rfl)
structure SumsAt (H : Hp) (td sm : Addr) (H2 : Hp) (st : Hs) : Prop where
  s : Same H H2
  n1 : H td = none
  n2 : H sm = none
  a1 : ∃ vs, H2 td = some (.lst vs) ∧ All2 (Rep (Off [td, sm] H2)) vs (st.news.map toldD)
  a2 : ∃ kvs, H2 sm = some (.dK kvs) ∧ DictI kvs st.ks (fun k v => ∃ t a, v = .ref t ∧ Off [td, sm] H2 t = some (.tup [.int (st.f k).1, .ref a]) ∧ Off [td, sm] H2 a = some (.lst ((st.f k).2.map V.int)))
section
variable {H H2 : Hp} {td sm : Addr} {st : Hs}
theorem SumsAt.ne (h : SumsAt H td sm H2 st) : td ≠ sm := by
  obtain ⟨v, e, _⟩ := h.a1
  obtain ⟨k, e', _⟩ := h.a2
  exact ne_of e e' (by intro z; cases z)
theorem SumsAt.mono {H3 : Hp} (h : SumsAt H td sm H2 st) (s : Same H2 H3) : SumsAt H td sm H3 st := by
  obtain ⟨vs, e1, d1⟩ := h.a1
  obtain ⟨kv, e2, d2⟩ := h.a2
  exact ⟨h.s.trans s, h.n1, h.n2, ⟨vs, s _ _ e1, reps_mono (off_same s) d1⟩, ⟨kv, s _ _ e2, d2.imp fun j u ⟨t, a, ea, ht, ha⟩ => ⟨t, a, ea, off_same s _ _ ht, off_same s _ _ ha⟩⟩⟩
theorem SumsAt.new {t : Addr} {o : HO} (h : SumsAt H td sm H2 st) (ht : H2 t = none) : Off [td, sm] (upd H2 t o) t = some o := by
  obtain ⟨vs, e1, d1⟩ := h.a1
  obtain ⟨kv, e2, d2⟩ := h.a2
  have m1 := ne_isSome e1 ht
  have m2 := ne_isSome e2 ht
  rw [off_get (by simp only [List.mem_cons, List.not_mem_nil, or_false, not_or]; exact ⟨m1, m2⟩), upd_same]
theorem SumsAt.tell {vs : List V} {u : V} {t : Told} (h : SumsAt H td sm H2 st) (e1 : H2 td = some (.lst vs)) (d1 : All2 (Rep (Off [td, sm] H2)) vs (st.news.map toldD)) (r : Rep (Off [td, sm] H2) u (toldD t)) : SumsAt H td sm (upd H2 td (.lst (vs ++ [u]))) (st.tell t) := by
  have eo : Off [td, sm] (upd H2 td (.lst (vs ++ [u]))) = Off [td, sm] H2 := off_upd (by simp)
  obtain ⟨kv, e2, d2⟩ := h.a2
  refine ⟨same_upd h.s h.n1 _, h.n1, h.n2, ⟨_, upd_same, ?_⟩, ⟨kv, by rw [upd_ne h.ne.symm]; exact e2, by rw [eo]; exact d2⟩⟩
  show All2 _ _ ((st.news ++ [t]).map toldD)
  rw [eo, List.map_append]
  exact d1.snoc r
theorem SumsAt.drop {kv : List (Key × V)} {k : Int} (h : SumsAt H td sm H2 st) (e2 : H2 sm = some (.dK kv)) (d2 : DictI kv st.ks (fun k v => ∃ t a, v = .ref t ∧ Off [td, sm] H2 t = some (.tup [.int (st.f k).1, .ref a]) ∧ Off [td, sm] H2 a = some (.lst ((st.f k).2.map V.int)))) :
    SumsAt H td sm (upd H2 sm (.dK (dropK kv (Sum.inl k)))) (st.drop k) := by
  have eo : Off [td, sm] (upd H2 sm (.dK (dropK kv (Sum.inl k)))) = Off [td, sm] H2 := off_upd (by simp)
  obtain ⟨vs, e1, d1⟩ := h.a1
  exact ⟨same_upd h.s h.n2 _, h.n1, h.n2, ⟨vs, by rw [upd_ne h.ne]; exact e1, by rw [eo]; exact d1⟩, ⟨_, upd_same, by rw [eo]; exact d2.drop⟩⟩
theorem SumsAt.put {kv : List (Key × V)} {k d : Int} {ns : List Int} {t a : Addr} (h : SumsAt H td sm H2 st) (e2 : H2 sm = some (.dK kv)) (d2 : DictI kv st.ks (fun k v => ∃ t a, v = .ref t ∧ Off [td, sm] H2 t = some (.tup [.int (st.f k).1, .ref a]) ∧ Off [td, sm] H2 a = some (.lst ((st.f k).2.map V.int))))
    (ht : Off [td, sm] H2 t = some (.tup [.int d, .ref a])) (ha : Off [td, sm] H2 a = some (.lst (ns.map V.int))) : SumsAt H td sm (upd H2 sm (.dK (putK kv (Sum.inl k) (.ref t)))) (st.hold k ns d) := by
  have eo : Off [td, sm] (upd H2 sm (.dK (putK kv (Sum.inl k) (.ref t)))) = Off [td, sm] H2 := off_upd (by simp)
  obtain ⟨vs, e1, d1⟩ := h.a1
  refine ⟨same_upd h.s h.n2 _, h.n1, h.n2, ⟨vs, by rw [upd_ne h.ne]; exact e1, by rw [eo]; exact d1⟩, ⟨_, upd_same, ?_⟩⟩
  rw [eo]
  refine d2.put (fun j u z e => ?_) ⟨t, a, rfl, ?_, ?_⟩
  · show ∃ t a, u = .ref t ∧ Off [td, sm] H2 t = some (.tup [.int (setF st.f k (d, ns) j).1, .ref a]) ∧ Off [td, sm] H2 a = some (.lst ((setF st.f k (d, ns) j).2.map V.int))
    rw [setF_ne z]; exact e
  · show _ = some (HO.tup [.int (setF st.f k (d, ns) k).1, .ref a])
    rw [setF_eq]; exact ht
  · show _ = some (HO.lst ((setF st.f k (d, ns) k).2.map V.int))
    rw [setF_eq]; exact ha
end
theorem sorted_one : ∀ {xs ys : List Int}, xs.Perm ys → xs.Pairwise (· ≤ ·) → ys.Pairwise (· ≤ ·) → xs = ys
  | [], [], _, _, _ => rfl
  | [], y :: r, h, _, _ => by have := h.length_eq; cases this
  | x :: r, [], h, _, _ => by have := h.length_eq; cases this
  | x :: r, y :: q, h, h1, h2 => by
    have e : x = y := by
      have m1 : x ∈ y :: q := h.mem_iff.mp (List.Mem.head _)
      have m2 : y ∈ x :: r := h.mem_iff.mpr (List.Mem.head _)
      rcases List.mem_cons.mp m1 with z | z
      · exact z
      · rcases List.mem_cons.mp m2 with z' | z'
        · exact z'.symm
        · have a1 := (List.pairwise_cons.mp h1).1 y z'
          have a2 := (List.pairwise_cons.mp h2).1 x z
          omega
    subst e
    rw [sorted_one (List.Perm.cons_inv h) (List.pairwise_cons.mp h1).2 (List.pairwise_cons.mp h2).2]
theorem flt_sizes : ∀ es : List Ev, D.sizes (es.flatMap fltD) ≤ 3 * es.length
  | [] => Nat.le_refl _
  | e :: r => by
    have ih := flt_sizes r
    cases e with
    | box l ns s p => show D.sizes (r.flatMap fltD) ≤ 3 * (r.length + 1); omega
    | _ => show 3 + D.sizes (r.flatMap fltD) ≤ 3 * (r.length + 1); omega
theorem evs_le : ∀ es : List Ev, evWs es ≤ 6 * es.length + bxWs es
  | [] => Nat.le_refl _
  | e :: r => by
    have ih := evs_le r
    cases e with
    | box l ns s p => show (ns.length + 6) + evWs r ≤ 6 * (r.length + 1) + (ns.length + 1 + bxWs r); omega
    | _ => show 4 + evWs r ≤ 6 * (r.length + 1) + (0 + bxWs r); omega
theorem set_last {vs : List V} {u u' : V} : (vs ++ [u]).set vs.length u' = vs ++ [u'] := by
  rw [List.set_append_right _ _ (Nat.le_refl _), Nat.sub_self]; rfl
theorem ixN_last {n : Nat} : ixN (n + 1) (-1) = some n := by
  unfold ixN
  rw [if_neg (by decide), if_pos (by omega)]
  congr 1
  omega
def spLaw (K : PySem.W.Frag) : Sp := fun vs H Q _ => ∃ (a : Addr) (ns : List Int), vs = [.ref a] ∧ SqL K H a (ns.map V.int) ∧ ns.length ≤ 63 ∧ ∀ H', Q (.bl true) H'
theorem scLaw : FnScope ["_law_script", "_law_events", "_law_handed", "_law_one", "_law_told", "_law_sums", "_law_sender", "_law_content", "_law_due", "_law_good", "_law_numbers", "_law_found", "_law_bad"] ["_law_script"] (defScope sLaw) := ⟨rfl, rfl, rfl, by decide +kernel, rfl, by decide +kernel, by decide +kernel⟩
theorem ok_law {f fL fS fE fU fF fW : Addr} {fd dL dS dE dU dF dW : FuncData} (F : Fun K "law" "law" sLaw f fd) (B : Blt K mg) (mS : mg "sorted" = none)
    (DL : Def K mg "_law_told_list" sToldList ["_law_cells"] fL dL) (GL : FnOk P w K mg base (CXs P w) 1 fL dL ["_law_cells"] spToldList)
    (DS : Def K mg "_law_so" sSo ["_law_found", "_law_due"] fS dS) (GS : FnOk P w K mg base (CXs P w) 1 fS dS ["_law_found", "_law_due"] spSo)
    (DE : Def K mg "_law_same_told" sSameTold ["_law_found", "_law_due"] fE dE) (GE : FnOk P w K mg base (CXs P w) 2 fE dE ["_law_found", "_law_due"] spSo)
    (DU : Def K mg "unpacked" s_unpacked ["told"] fU dU) (GU : FnOk P w K mg base (CXs P w) 6 fU dU ["told"] spUnpacked)
    (DF : Def K mg "faults" s_faults ["told"] fF dF) (GF : FnOk P w K mg base (CXs P w) 1 fF dF ["told"] spFaults)
    (DW : Def K mg "waiting" s_waiting ["told"] fW dW) (GW : FnOk P w K mg base (CXs P w) 6 fW dW ["told"] spWaiting) :
    FnOk P w K mg base (CXs P w) 8 f fd ["_law_script"] (spLaw K) := by
  refine F.okX scLaw (fun vs H Q E h => ?_) (fun cdv A outer s H vs Q E hr h => ?_)
  · obtain ⟨a, ns, rfl, _⟩ := h
    rfl
  obtain ⟨a, ns, rfl, ha, h63, q⟩ := h
  have hu := hu_of hr
  have hu0 := hr.units0
  have hr1 : Room 1 _ := hr.mono (by decide)
  have hr2 : Room 2 _ := hr.mono (by decide)
  have hr6 : Room 6 _ := hr.mono (by decide)
  refine ⟨_, (pss_cons (ps_set (i := 1) scLaw.nd rfl (Or.inl rfl) (pe_call GL hr1 rfl DL.m DL.F.kp DL.b .nil pass_on (pa_cons (pe_slice sl_list (pv 0) (po_some pe_int) (po_some pe_int)) pa_nil)))
    (pss_cons (ps_set (i := 2) scLaw.nd rfl (Or.inl rfl) (pe_lst pa_nil))
    (pss_cons (ps_for passes_def rfl (pi_list (pv 1)) (pg_name (i := 3) scLaw.nd rfl (Or.inl rfl))
      (pss_cons (ps_expr (pe_bm PySem.F.plainAttrs_list PySem.F.slot_list_append PySem.F.type_list_append mt_append (pv 2) (pa_cons (pv 3) pa_nil)))
      (pss_one (ps_if (pt_cmpR op_eq (pe_ix ix_tup (pv 3) pe_int (fun _ _ => rfl)) (pe_str (x := "box")) (nomark _))
        (pss_one (ps_asg (pe_op op_catT (pe_op op_catT (pe_slice sl_tup (pv 3) po_none (po_some pe_int)) (pe_tup (pa_cons (pe_callTy call_list_of rfl B.list PyProof.Rows.boot_list (pa_cons (pe_ix ix_tup (pv 3) pe_int (fun _ _ => rfl)) pa_nil)) pa_nil))) (pe_slice sl_tup (pv 3) (po_some pe_int) po_none)) (pg_sub (pv 2) (pe_un un_neg pe_int) set_list)))
        pss_nil))))
    (pss_cons (ps_set (i := 4) scLaw.nd rfl (Or.inl rfl) (pe_lst pa_nil))
    (pss_cons (ps_set (i := 5) scLaw.nd rfl (Or.inl rfl) pe_dnewK)
    (pss_cons (ps_for passes_def rfl (pi_list (pv 1)) (pg_name (i := 3) scLaw.nd rfl (Or.inl rfl))
      (pss_one (ps_if (pt_cmpR op_eq (pe_ix ix_tup (pv 3) pe_int (fun _ _ => rfl)) (pe_str (x := "box")) (nomark _))
        (pss_cons (ps_set (i := 6) scLaw.nd rfl (Or.inl rfl) (pe_op op_fdiv (pe_ix ix_tup (pv 3) pe_int (fun _ _ => rfl)) pe_int))
        (pss_cons (ps_set (i := 7) scLaw.nd rfl (Or.inl rfl) (pe_ix ix_tup (pv 3) pe_int (fun _ _ => rfl)))
        (pss_cons (ps_set (i := 8) scLaw.nd rfl (Or.inl rfl) (pe_ix ix_tup (pe_dget2 hu (pv 5) (pv 6) (pe_tup (pa_cons pe_int (pa_cons (pe_lst pa_nil) pa_nil))) ⟨rfl, rfl, rfl, rfl⟩) pe_int (fun _ _ => rfl)))
        (pss_cons (ps_set (i := 9) scLaw.nd rfl (Or.inl rfl) (pe_and (pe_cmpR (op_neN hu0) (pv 7) (pe_lst pa_nil) (nomark _)) (pe_one (pe_or (pe_cmpR op_eq (pe_ix ix_list (pv 7) pe_int (fun _ _ => rfl)) pe_int (nomark _)) (pe_one (pe_cmpR op_eq (pv 8) (pe_ix ix_list (pv 7) pe_int (fun _ _ => rfl)) (nomark _)))))))
        (pss_cons (ps_if (PW.pt (pw_and (PW.pt (pw_or (pt_not (pt_val (pv 9))) (pw_or1 (pt_cmpR op_eq (pe_ix ix_list (pv 7) pe_int (fun _ _ => rfl)) pe_int (nomark _))))) (pw_and1 (pt_cmp (pc_din hu (pv 6) (pv 5))))))
          (pss_cons (ps_expr (pe_dpop1 (pv 5) (pv 6) ⟨rfl, rfl, rfl, rfl⟩))
          (pss_one (ps_expr (pe_bm PySem.F.plainAttrs_list PySem.F.slot_list_append PySem.F.type_list_append mt_append (pv 4) (pa_cons (pe_tup (pa_cons (pe_str (x := "lost")) (pa_cons (pv 6) (pa_cons (pe_ix ix_tup (pv 3) pe_int (fun _ _ => rfl)) pa_nil)))) pa_nil)))))
          pss_nil)
        (pss_one (ps_if (pt_val (pv 9))
          (pss_cons (ps_set (i := 10) scLaw.nd rfl (Or.inl rfl) (pe_op op_cat (pe_ix ix_tup (pe_dget2 hu (pv 5) (pv 6) (pe_tup (pa_cons pe_int (pa_cons (pe_lst pa_nil) pa_nil))) ⟨rfl, rfl, rfl, rfl⟩) pe_int (fun _ _ => rfl)) (pe_slice sl_list (pv 7) (po_some pe_int) po_none)))
          (pss_cons (ps_dput hu (pv 5) (pv 6) (pe_tup (pa_cons (pe_op op_add (pe_ix ix_list (pv 7) pe_int (fun _ _ => rfl)) pe_int) (pa_cons (pv 10) pa_nil))) rfl)
          (pss_one (ps_if (pt_cmpR op_eq (pe_op op_mod (pe_ix ix_tup (pv 3) pe_int (fun _ _ => rfl)) pe_int) pe_int (nomark _))
            (pss_cons (ps_expr (pe_dpop1 (pv 5) (pv 6) ⟨rfl, rfl, rfl, rfl⟩))
            (pss_one (ps_expr (pe_bm PySem.F.plainAttrs_list PySem.F.slot_list_append PySem.F.type_list_append mt_append (pv 4) (pa_cons (pe_tup (pa_cons (pe_str (x := "parcel")) (pa_cons (pv 6) (pa_cons (pv 10) (pa_cons (pe_ix ix_tup (pv 3) pe_int (fun _ _ => rfl)) pa_nil))))) pa_nil)))))
            pss_nil))))
          pss_nil)))))))
        pss_nil)))
    (pss_cons (ps_set (i := 11) scLaw.nd rfl (Or.inl rfl) (pe_call GU hr6 rfl DU.m DU.F.kp DU.b .nil pass_on (pa_cons (pv 2) pa_nil)))
    (pss_cons (ps_if (PW.pt (pw_or (pt_not (pt_val (pe_call GS hr1 rfl DS.m DS.F.kp DS.b .nil pass_on (pa_cons (pv 2) (pa_cons (pv 1) pa_nil))))) (pw_or1 (pt_not (pt_val (pe_call GE hr2 rfl DE.m DE.F.kp DE.b .nil pass_on (pa_cons (pv 11) (pa_cons (pv 4) pa_nil))))))))
      (pss_one (ps_ret pe_bl))
      pss_nil)
    (pss_cons (ps_setLc (i := 12) [] [] ⟨rfl, by decide +kernel, by decide +kernel, rfl, by decide +kernel, frees_of (sc := defScope sLaw) rfl (by decide +kernel), rfl, by decide +kernel⟩ rfl scLaw.nd rfl rfl (pi_list (pv 1)) (fun _ _ _ _ _ => pf_one (pt_cmpR op_eq (pe_ix (ix_tupK K rfl) (pv 0) pe_int (fun _ _ => rfl)) (pe_str (x := "fault")) (nomark _))) (fun _ _ _ _ _ => (pe_tup (pa_cons (pe_ix (ix_tupK K rfl) (pv 0) pe_int (fun _ _ => rfl)) (pa_cons (pe_ix (ix_tupK K rfl) (pv 0) pe_int (fun _ _ => rfl)) pa_nil)))))
    (pss_cons (ps_if (pt_not (pt_val (pe_call GS hr1 rfl DS.m DS.F.kp DS.b .nil pass_on (pa_cons (pe_call GF hr1 rfl DF.m DF.F.kp DF.b .nil pass_on (pa_cons (pv 2) pa_nil)) (pa_cons (pv 12) pa_nil)))))
      (pss_one (ps_ret pe_bl))
      pss_nil)
    (pss_one (ps_ret (pe_and (pe_call GS hr1 rfl DS.m DS.F.kp DS.b .nil pass_on (pa_cons (pe_call GW hr6 rfl DW.m DW.F.kp DW.b .nil pass_on (pa_cons (pv 2) pa_nil)) (pa_cons (pe_callB call_sortedI rfl mS PyProof.Rows.boot_sorted (pa_cons (pe_callTy (call_listD hr.hd) rfl B.list PyProof.Rows.boot_list (pa_cons (pv 5) pa_nil)) pa_nil)) pa_nil))) (pe_one (pe_call GS hr1 rfl DS.m DS.F.kp DS.b .nil pass_on (pa_cons (pv 2) (pa_cons (pv 1) pa_nil))))))))))))))))), ?_⟩
  -- events
  refine ⟨_, rfl, _, rfl, _, rfl, a, _, rfl, ha, fun p hp => ?_⟩
  rw [cutV_ints]
  have hc1 := cutI_len ns (some 1) (some 300)
  have hc62 : (cutI ns (some 1) (some 300)).length ≤ 63 := by omega
  generalize cutI ns (some 1) (some 300) = cs at hc62
  refine ⟨p, cs, rfl, upd_same, hc62, fun ea es evs H1 la1 hel hbw => ?_⟩
  have s1 : Same H H1 := (same_new hp _).trans la1.s
  obtain ⟨ha1, hv1⟩ : H1 ea = some (.lst evs) ∧ All2 (Rep H1) evs (es.map evD) := ⟨la1.a_, reps_mono off_sub la1.v⟩
  clear la1
  have re1 : Rep H1 (.ref ea) (evsD es) := rep_lst ha1 hv1
  obtain ⟨ea', evs', e1, ha1', hl, hs⟩ := rep_list_inv re1
  cases e1
  rw [ha1] at ha1'
  cases ha1'
  rw [List.length_map] at hl
  have hes : es.length ≤ 63 := by omega
  have hesz : (evsD es).size ≤ 1000000 := by
    show D.sizes (es.map evD) + 1 ≤ _
    rw [evs_sizes]
    have := evs_le es
    omega
  have hrun := HsOk.run es HsOk.nil
  -- handed
  refine ⟨(by show 0 ≤ sizeLine; decide), fun hd hhd => ?_⟩
  have la0 : LsAt H1 hd (upd H1 hd (.lst [])) ((es.take 0).map evD) [] := LsAt.new (Same.refl _) hhd
  refine ⟨_, rfl, ea, rfl, ⟨_, SqL.of (la0.s _ _ ha1)⟩, for_list (K := K) (a := ea) (xs := evs) (fun i σ H2 => ∃ (o3 : Option V) (vs : List V), σ = [some (.ref a), some (.ref ea), some (.ref hd), o3, none, none, none, none, none, none, none, none, none] ∧ LsAt H1 hd H2 ((es.take i).map evD) vs)
    ⟨none, [], rfl, la0⟩ (fun i σ H2 _ ⟨_, _, _, la⟩ => SqL.of (la.s _ _ ha1)) ?_ ?_⟩
  · rintro i v σ H2 hi ⟨o3, vs, rfl, la⟩
    have hil : i < es.length := by rw [← hl]; exact (List.getElem?_eq_some_iff.mp hi).1
    obtain ⟨e, he⟩ : ∃ e, es[i]? = some e := ⟨_, List.getElem?_eq_getElem hil⟩
    have hre := hs i v (evD e) hi (by rw [List.getElem?_map, he]; rfl)
    have et := take_next he
    have hvl : vs.length ≤ 63 := by rw [la.len, List.length_map]; have := List.length_take_le' i es; omega
    refine ⟨_, rfl, .inl ⟨rfl, _, SqL.of la.a_⟩, _, rfl, hd, _, _, rfl, rfl, la.a_, small (by omega), ?_⟩
    have s1h : Same H1 (Off [hd] H2) := fun b o hb => by
      rw [off_get (by simpa using ne_of_none hb la.n)]; exact la.s _ _ hb
    have laP := la.push (d := evD e) (u := v) (hre.mono s1h)
    rcases ev_cases e with ⟨l, con, s', p', rfl⟩ | ⟨wd, p', ed, _, _, _⟩
    · obtain ⟨t, b, rfl, ht, hb⟩ := rep_evbox_inv hre
      have ht2 := laP.s _ _ ht
      have hb2 := laP.s _ _ hb
      refine ⟨_, rfl, t, _, _, _, rfl, rfl, SqT.of ht2, rfl, rfl, _, rfl, ifT (by decide +kernel) ?_⟩
      generalize hH3 : upd H2 hd (.lst (vs ++ [V.ref t])) = H3 at laP ht2 hb2
      have e12 : cutV [V.str "box", .int l, .ref b, .int s', .int p'] none (some 2) = [.str "box", .int l] := rfl
      have e3 : cutV [V.str "box", .int l, .ref b, .int s', .int p'] (some 3) none = [.int s', .int p'] := rfl
      refine ⟨_, rfl, _, rfl, t, _, rfl, SqT.of ht2, (by show ¬ (HT.sIx 5 0 none = 0 ∧ HT.sIx 5 5 (some 2) = 5); decide), fun p1 hp1 => ?_⟩
      rw [e12]
      have u1 := same_new hp1 (.tup [V.str "box", .int l])
      refine ⟨_, rfl, t, _, _, _, rfl, rfl, SqT.of (u1 _ _ ht2), rfl, b, _, rfl, .inl (SqL.of (u1 _ _ hb2)), fun p2 hp2 => ?_⟩
      have u2 := same_new hp2 (.lst (con.map V.int))
      refine ⟨(by show 1 ≤ sizeLine; decide), fun p3 hp3 => ?_⟩
      have u3 := same_new hp3 (.tup [V.ref p2])
      refine ⟨p1, p3, _, _, rfl, rfl, SqT.of (u3 _ _ (u2 _ _ upd_same)), SqT.of upd_same, (by intro z; cases z), (by show 3 ≤ sizeLine; decide), (fun z => by cases z), fun _ p4 hp4 => ?_⟩
      have u4 := same_new hp4 (.tup ([V.str "box", .int l] ++ [V.ref p2]))
      refine ⟨_, rfl, _, rfl, t, _, rfl, SqT.of (u4 _ _ (u3 _ _ (u2 _ _ (u1 _ _ ht2)))), (by show ¬ (HT.sIx 5 0 (some 3) = 0 ∧ HT.sIx 5 5 none = 5); decide), fun p5 hp5 => ?_⟩
      rw [e3]
      have u5 := same_new hp5 (.tup [V.int s', .int p'])
      refine ⟨p4, p5, _, _, rfl, rfl, SqT.of (u5 _ _ upd_same), SqT.of upd_same, (by intro z; cases z), (by show 5 ≤ sizeLine; decide), (fun z => by cases z), fun _ p6 hp6 => ?_⟩
      have u6 := same_new hp6 (.tup (([V.str "box", .int l] ++ [V.ref p2]) ++ [V.int s', .int p']))
      have uA := ((((u1.trans u2).trans u3).trans u4).trans u5).trans u6
      have laQ := laP.mono uA
      refine ⟨_, rfl, _, rfl, hd, _, _, _, rfl, rfl, laQ.a_, by rw [List.length_append]; exact ixN_last, ?_⟩
      refine ⟨_, vs ++ [.ref p6], rfl, ?_⟩
      rw [set_last, et, List.map_append]
      have v6 : All2 (Rep (Off [hd] _)) vs ((es.take i).map evD) := reps_mono ((by rw [← hH3, off_upd (by simp)]; exact Same.refl _ : Same (Off [hd] H2) (Off [hd] H3)).trans (off_same uA)) la.v
      have n6 : p6 ≠ hd := ne_isSome ((((((u1.trans u2).trans u3).trans u4).trans u5)) _ _ laP.a_) hp6
      have n2 : p2 ≠ hd := ne_isSome (u1 _ _ laP.a_) hp2
      refine ⟨same_upd laQ.s laQ.n _, laQ.n, upd_same, ?_⟩
      rw [off_upd (by simp)]
      refine v6.snoc (rep_tup (by rw [off_get (by simpa using n6), upd_same]; rfl) (.cons (.str _) (.cons (.int _) (.cons (rep_ints ?_) (.cons (.int _) (.cons (.int _) .nil))))))
      rw [off_get (by simpa using n2)]
      exact u6 _ _ (u5 _ _ (u4 _ _ (u3 _ _ upd_same)))
    · rw [ed] at hre
      obtain ⟨t, rfl, ht⟩ := rep_flt_inv hre
      have ht2 := laP.s _ _ ht
      refine ⟨_, rfl, t, _, _, _, rfl, rfl, SqT.of ht2, rfl, rfl, _, rfl, ifF (by decide +kernel) ?_⟩
      exact ⟨_, _, rfl, by rw [et, List.map_append]; exact laP⟩
  rintro σ2 H2 ⟨o3, hvs, rfl, la2⟩
  rw [hl, List.take_length] at la2
  have rh2 := la2.rep
  have s2 := la2.s
  have ha2 := s2 _ _ ha1
  clear la2
  -- told, sums
  refine ⟨(by show 0 ≤ sizeLine; decide), fun td htd => ?_⟩
  have t3 := same_new htd (.lst [])
  refine fun sm hsm => ?_
  have t4 := same_new hsm (.dK [])
  have su0 : SumsAt H2 td sm (upd (upd H2 td (.lst [])) sm (.dK [])) (Hs.nil.run (es.take 0)) := ⟨t3.trans t4, htd, t3.free hsm, ⟨[], t4 _ _ upd_same, .nil⟩, ⟨[], upd_same, .nil⟩⟩
  refine ⟨_, rfl, ea, rfl, ⟨_, SqL.of (su0.s _ _ ha2)⟩, for_list (K := K) (a := ea) (xs := evs) (fun i σ H3 => ∃ (o3 o6 o7 o8 o9 o10 : Option V), σ = [some (.ref a), some (.ref ea), some (.ref hd), o3, some (.ref td), some (.ref sm), o6, o7, o8, o9, o10, none, none] ∧ SumsAt H2 td sm H3 (Hs.nil.run (es.take i)))
    ⟨_, none, none, none, none, none, rfl, su0⟩ (fun i σ H3 _ ⟨_, _, _, _, _, _, _, su⟩ => SqL.of (su.s _ _ ha2)) ?_ ?_⟩
  · rintro i v σ H3 hi ⟨o3, o6, o7, o8, o9, o10, rfl, su⟩
    have hil : i < es.length := by rw [← hl]; exact (List.getElem?_eq_some_iff.mp hi).1
    obtain ⟨e, he⟩ : ∃ e, es[i]? = some e := ⟨_, List.getElem?_eq_getElem hil⟩
    have hre := (hs i v (evD e) hi (by rw [List.getElem?_map, he]; rfl)).mono s2
    have et := take_next he
    have hok := run_ok es i
    have hbt := bxWs_take es (i + 1)
    rw [et, bxWs_append] at hbt
    have htl : (es.take i).length ≤ es.length := List.length_take_le' _ _
    rcases ev_cases e with ⟨l, con, s', p', rfl⟩ | ⟨wd, p', ed, _, est, _⟩
    rotate_left
    · rw [ed] at hre
      obtain ⟨t, rfl, ht⟩ := rep_flt_inv hre
      have ht3 := su.s _ _ ht
      refine ⟨_, rfl, t, _, _, _, rfl, rfl, SqT.of ht3, rfl, rfl, _, rfl, ifF (by decide +kernel) ?_⟩
      exact ⟨_, _, _, _, _, _, rfl, by rw [et, Hs.run_snoc, est]; exact su⟩
    obtain ⟨t, ca, rfl, ht, hca⟩ := rep_evbox_inv hre
    have hw : bxWs (es.take i) + (con.length + 1) ≤ bxWs es := hbt
    rw [et, Hs.run_snoc]
    show _
    generalize Hs.nil.run (es.take i) = st at su hok
    have hW := hok.a
    have hM := hok.b
    have ht3 := su.s _ _ ht
    have estep : st.ev (.box l con s' p') = lawStep st l con s' p' := (lawStep_eq hok l con s' p').symm
    rw [estep]
    refine ⟨_, rfl, t, _, _, _, rfl, rfl, SqT.of ht3, rfl, rfl, _, rfl, ifT (by decide +kernel) ?_⟩
    refine ⟨_, rfl, t, _, _, _, rfl, rfl, SqT.of ht3, rfl, _, _, rfl, rfl, ⟨by decide, by decide⟩, ?_⟩
    refine ⟨_, rfl, t, _, _, _, rfl, rfl, SqT.of ht3, rfl, ?_⟩
    try dsimp only [gName]
    refine seq_by (fun σ H4 => σ = [some (.ref a), some (.ref ea), some (.ref hd), some (.ref t), some (.ref td), some (.ref sm), some (.int (l / 2)), some (.ref ca), some (.int (dueOf st (l / 2))), o9, o10, none, none] ∧ SumsAt H2 td sm H4 st) ?_ ?_
    rotate_left
    · intro nx hnx
      obtain ⟨kv, e2, d2⟩ := su.a2
      refine ⟨_, rfl, sm, rfl, .inl ⟨kv, .inl e2⟩, _, rfl, (by show 0 ≤ sizeLine; decide), fun p1 hp1 => ?_⟩
      have u1 := same_new hp1 (.lst [])
      refine ⟨(by show 2 ≤ sizeLine; decide), fun p2 hp2 => ?_⟩
      have u2 := same_new hp2 (.tup [V.int 0, .ref p1])
      have su2 := su.mono (u1.trans u2)
      refine ⟨_, DGet.k (k := Sum.inl (l / 2)) (u2 _ _ (u1 _ _ e2)), ?_⟩
      by_cases hk : l / 2 ∈ st.ks
      · obtain ⟨v1, g1, t1, a1, rfl, f1, f2⟩ := d2.some hk
        rw [g1]
        refine ⟨t1, _, _, _, rfl, rfl, SqT.of ((u1.trans u2) _ _ (off_sub _ _ f1)), rfl, hnx _ _ ⟨?_, su2⟩⟩
        have : dueOf st (l / 2) = (st.f (l / 2)).1 := if_pos hk
        rw [this]; rfl
      · rw [d2.none hk]
        refine ⟨p2, _, _, _, rfl, rfl, SqT.of upd_same, rfl, hnx _ _ ⟨?_, su2⟩⟩
        have : dueOf st (l / 2) = 0 := if_neg hk
        rw [this]; rfl
    rintro σ4 H4 ⟨rfl, su4⟩
    have ht4 := su4.s _ _ ht
    have hca4 := su4.s _ _ hca
    try dsimp only [gName]
    refine seq_by (fun σ H5 => σ = [some (.ref a), some (.ref ea), some (.ref hd), some (.ref t), some (.ref td), some (.ref sm), some (.int (l / 2)), some (.ref ca), some (.int (dueOf st (l / 2))), some (.bl (goodB (dueOf st (l / 2)) con)), o10, none, none] ∧ SumsAt H2 td sm H5 st) ?_ ?_
    rotate_left
    · intro nx hnx
      refine ⟨_, rfl, (by show 0 ≤ sizeLine; decide), fun p1 hp1 => ?_⟩
      have u1 := same_new hp1 (.lst [])
      have su5 := su4.mono u1
      refine ⟨ca, p1, _, rfl, rfl, SqL.of (u1 _ _ hca4), SqL.of upd_same, _, rfl, ?_⟩
      cases con with
      | nil => exact ifF rfl (hnx _ _ ⟨rfl, su5⟩)
      | cons c r =>
        refine ifT rfl ?_
        refine ⟨_, rfl, ca, _, _, _, rfl, rfl, SqL.of (u1 _ _ hca4), at_head, rfl, _, rfl, ?_⟩
        by_cases c0 : c = 0
        · refine ifT (decide_eq_true (congrArg V.int c0)) (hnx _ _ ⟨?_, su5⟩)
          have : goodB (dueOf st (l / 2)) (c :: r) = true := by
            show (decide (c = 0) || _) = true
            rw [decide_eq_true c0]; rfl
          rw [this]; rfl
        · refine ifF (decide_eq_false (fun z => c0 (V.int.inj z))) ?_
          refine ⟨_, rfl, _, rfl, ca, _, _, _, rfl, rfl, SqL.of (u1 _ _ hca4), at_head, rfl, hnx _ _ ⟨?_, su5⟩⟩
          have : goodB (dueOf st (l / 2)) (c :: r) = decide (V.int (dueOf st (l / 2)) = V.int c) := by
            show (decide (c = 0) || decide (dueOf st (l / 2) = c)) = _
            rw [decide_eq_false c0, Bool.false_or]
            by_cases z : dueOf st (l / 2) = c
            · rw [decide_eq_true z, decide_eq_true (congrArg V.int z)]
            · rw [decide_eq_false z, decide_eq_false (fun y => z (V.int.inj y))]
          rw [this]; rfl
    rintro σ5 H5 ⟨rfl, su5⟩
    have ht5 := su5.s _ _ ht
    have hca5 := su5.s _ _ hca
    try dsimp only [gName]
    refine seq_by (t := tIfS _ _ _) (fun σ H6 => σ = [some (.ref a), some (.ref ea), some (.ref hd), some (.ref t), some (.ref td), some (.ref sm), some (.int (l / 2)), some (.ref ca), some (.int (dueOf st (l / 2))), some (.bl (goodB (dueOf st (l / 2)) con)), o10, none, none] ∧ SumsAt H2 td sm H6 (lawLost st l con s')) ?_ ?_
    rotate_left
    · intro nx hnx
      refine ⟨_, rfl, _, rfl, ?_⟩
      cases hg : goodB (dueOf st (l / 2)) con with
      | false =>
        have eL : lawLost st l con s' = st.lose (l / 2) s' := if_pos (.inl hg)
        refine ifT rfl (ifT rfl ?_)
        obtain ⟨kv, e2, d2⟩ := su5.a2
        refine ⟨_, rfl, _, rfl, sm, _, rfl, DGet.k (k := Sum.inl (l / 2)) e2, _, rfl, ?_⟩
        by_cases hk : l / 2 ∈ st.ks
        · have eM : st.lose (l / 2) s' = (st.drop (l / 2)).tell (.lost (l / 2) s') := if_pos hk
          obtain ⟨v1, g1, _⟩ := d2.some hk
          rw [g1]
          refine ifT rfl ?_
          refine ⟨_, rfl, sm, rfl, .inl ⟨kv, .inl e2⟩, _, rfl, kv, Sum.inl (l / 2), v1, e2, rfl, g1, ?_⟩
          have sD := su5.drop (k := l / 2) e2 d2
          obtain ⟨vs, e1, d1⟩ := sD.a1
          have hvl : vs.length = st.news.length := by rw [d1.length_eq, List.length_map]; rfl
          refine ⟨_, rfl, .inl ⟨rfl, _, SqL.of e1⟩, _, rfl, _, rfl, t, _, _, _, rfl, rfl, SqT.of (sD.s _ _ ht), rfl, (by show 3 ≤ sizeLine; decide), fun p1 hp1 => ?_⟩
          have u1 := same_new hp1 (.tup [.str "lost", .int (l / 2), .int s'])
          have sD1 := sD.mono u1
          refine ⟨td, _, _, rfl, rfl, u1 _ _ e1, small (by omega), ?_⟩
          refine hnx _ _ ⟨by rw [hg], ?_⟩
          rw [eL, eM]
          exact sD1.tell (u1 _ _ e1) (reps_mono (off_same u1) d1) (rep_tup (sD.new hp1) (.cons (.str _) (.cons (.int _) (.cons (.int _) .nil))))
        · have eM : st.lose (l / 2) s' = st := if_neg hk
          rw [d2.none hk]
          exact ifF rfl (hnx _ _ ⟨by rw [hg], by rw [eL, eM]; exact su5⟩)
      | true =>
        refine ifF rfl ?_
        cases con with
        | nil => cases hg
        | cons c r =>
          refine ⟨_, rfl, ca, _, _, _, rfl, rfl, SqL.of hca5, at_head, rfl, _, rfl, ?_⟩
          by_cases c0 : c = 0
          · have eL : lawLost st l (c :: r) s' = st.lose (l / 2) s' := if_pos (.inr (congrArg some c0))
            refine ifT (decide_eq_true (congrArg V.int c0)) ?_
            obtain ⟨kv, e2, d2⟩ := su5.a2
            refine ⟨_, rfl, _, rfl, sm, _, rfl, DGet.k (k := Sum.inl (l / 2)) e2, _, rfl, ?_⟩
            by_cases hk : l / 2 ∈ st.ks
            · have eM : st.lose (l / 2) s' = (st.drop (l / 2)).tell (.lost (l / 2) s') := if_pos hk
              obtain ⟨v1, g1, _⟩ := d2.some hk
              rw [g1]
              refine ifT rfl ?_
              refine ⟨_, rfl, sm, rfl, .inl ⟨kv, .inl e2⟩, _, rfl, kv, Sum.inl (l / 2), v1, e2, rfl, g1, ?_⟩
              have sD := su5.drop (k := l / 2) e2 d2
              obtain ⟨vs, e1, d1⟩ := sD.a1
              have hvl : vs.length = st.news.length := by rw [d1.length_eq, List.length_map]; rfl
              refine ⟨_, rfl, .inl ⟨rfl, _, SqL.of e1⟩, _, rfl, _, rfl, t, _, _, _, rfl, rfl, SqT.of (sD.s _ _ ht), rfl, (by show 3 ≤ sizeLine; decide), fun p1 hp1 => ?_⟩
              have u1 := same_new hp1 (.tup [.str "lost", .int (l / 2), .int s'])
              have sD1 := sD.mono u1
              refine ⟨td, _, _, rfl, rfl, u1 _ _ e1, small (by omega), ?_⟩
              refine hnx _ _ ⟨by rw [hg], ?_⟩
              rw [eL, eM]
              exact sD1.tell (u1 _ _ e1) (reps_mono (off_same u1) d1) (rep_tup (sD.new hp1) (.cons (.str _) (.cons (.int _) (.cons (.int _) .nil))))
            · have eM : st.lose (l / 2) s' = st := if_neg hk
              rw [d2.none hk]
              exact ifF rfl (hnx _ _ ⟨by rw [hg], by rw [eL, eM]; exact su5⟩)
          · have eL : lawLost st l (c :: r) s' = st := if_neg (by
              rw [hg]
              rintro (z | z)
              · cases z
              · exact c0 (Option.some.inj z))
            exact ifF (decide_eq_false (fun z => c0 (V.int.inj z))) (iteF (hnx _ _ ⟨by rw [hg], by rw [eL]; exact su5⟩))
    rintro σ6 H6 ⟨rfl, su6⟩
    have ht6 := su6.s _ _ ht
    have hca6 := su6.s _ _ hca
    have hokL : HsOk (lawLost st l con s') (0 + bxWs (es.take i)) (0 + 2 * (es.take i).length + 1) := by
      unfold lawLost
      split
      · exact hok.lose
      · exact hok.mono (Nat.le_refl _) (Nat.le_succ _)
    have hLa := hokL.a
    have hLb := hokL.b
    refine ⟨_, rfl, _, rfl, ?_⟩
    cases hg : goodB (dueOf st (l / 2)) con with
    | false =>
      have eS : lawStep st l con s' p' = lawLost st l con s' := if_neg (by rw [hg]; exact Bool.false_ne_true)
      rw [eS]
      exact ifF rfl ⟨_, _, _, _, _, _, rfl, su6⟩
    | true =>
      have eS : lawStep st l con s' p' = (if l % 2 = 1 then ((lawLost st l con s').hold (l / 2) (numsOf (lawLost st l con s') (l / 2) ++ con.tail) (con.headD 0 + 1)).give (l / 2) p'
        else (lawLost st l con s').hold (l / 2) (numsOf (lawLost st l con s') (l / 2) ++ con.tail) (con.headD 0 + 1)) := if_pos hg
      rw [eS]
      clear eS estep
      refine ifT rfl ?_
      cases con with
      | nil => cases hg
      | cons c r =>
      generalize lawLost st l (c :: r) s' = L at su6 hokL hLa hLb
      have hw' : bxWs (es.take i) + (r.length + 1 + 1) ≤ bxWs es := hw
      try dsimp only [gName]
      refine seq_by (fun σ H7 => ∃ na, σ = [some (.ref a), some (.ref ea), some (.ref hd), some (.ref t), some (.ref td), some (.ref sm), some (.int (l / 2)), some (.ref ca), some (.int (dueOf st (l / 2))), some (.bl true), some (.ref na), none, none] ∧ SumsAt H2 td sm H7 L ∧ Off [td, sm] H7 na = some (.lst ((numsOf L (l / 2) ++ r).map V.int))) ?_ ?_
      rotate_left
      · intro nx hnx
        obtain ⟨kv, e2, d2⟩ := su6.a2
        refine ⟨_, rfl, sm, rfl, .inl ⟨kv, .inl e2⟩, _, rfl, (by show 0 ≤ sizeLine; decide), fun p1 hp1 => ?_⟩
        have u1 := same_new hp1 (.lst [])
        refine ⟨(by show 2 ≤ sizeLine; decide), fun p2 hp2 => ?_⟩
        have u2 := same_new hp2 (.tup [V.int 0, .ref p1])
        have u12 := u1.trans u2
        refine ⟨_, DGet.k (k := Sum.inl (l / 2)) (u12 _ _ e2), ?_⟩
        by_cases hk : l / 2 ∈ L.ks
        · have en : numsOf L (l / 2) = (L.f (l / 2)).2 := if_pos hk
          obtain ⟨v1, g1, t1, a1, rfl, f1, f2⟩ := d2.some hk
          have hln := hokL.c _ hk
          rw [g1]
          refine ⟨t1, _, _, _, rfl, rfl, SqT.of (u12 _ _ (off_sub _ _ f1)), rfl, _, rfl, _, rfl, ca, _, rfl, SqL.of (u12 _ _ hca6), fun p3 hp3 => ?_⟩
          rw [cut_tail]
          have u3 := same_new hp3 (.lst (r.map V.int))
          refine ⟨a1, p3, _, _, rfl, rfl, u3 _ _ (u12 _ _ (off_sub _ _ f2)), upd_same, by rw [List.length_map, List.length_map]; exact small' (by omega), fun p4 hp4 => ?_⟩
          have u4 := same_new hp4 (.lst ((L.f (l / 2)).2.map V.int ++ r.map V.int))
          have su7 := su6.mono (u12.trans u3)
          refine hnx _ _ ⟨p4, rfl, su7.mono u4, ?_⟩
          rw [su7.new hp4, en, List.map_append]
        · have en : numsOf L (l / 2) = [] := if_neg hk
          rw [d2.none hk]
          refine ⟨p2, _, _, _, rfl, rfl, SqT.of upd_same, rfl, _, rfl, _, rfl, ca, _, rfl, SqL.of (u12 _ _ hca6), fun p3 hp3 => ?_⟩
          rw [cut_tail]
          have u3 := same_new hp3 (.lst (r.map V.int))
          refine ⟨p1, p3, _, _, rfl, rfl, u3 _ _ (u2 _ _ upd_same), upd_same, by rw [List.length_map]; exact small' (by show 0 + _ ≤ _; omega), fun p4 hp4 => ?_⟩
          have u4 := same_new hp4 (.lst ([] ++ r.map V.int))
          have su7 := su6.mono (u12.trans u3)
          refine hnx _ _ ⟨p4, rfl, su7.mono u4, ?_⟩
          rw [su7.new hp4, en]; rfl
      rintro σ7 H7 ⟨na, rfl, su7, hna⟩
      have hca7 := su7.s _ _ hca
      refine ⟨_, rfl, ca, _, _, _, rfl, rfl, SqL.of hca7, at_head, _, _, rfl, rfl, _, rfl, (by show 2 ≤ sizeLine; decide), fun p5 hp5 => ?_⟩
      have u5 := same_new hp5 (.tup [V.int (c + 1), .ref na])
      have su8 := su7.mono u5
      have hna8 := off_same (es := [td, sm]) u5 _ _ hna
      obtain ⟨kv, e2, d2⟩ := su8.a2
      refine ⟨_, rfl, _, rfl, sm, _, rfl, DPut.k (k := Sum.inl (l / 2)) e2 (by rw [d2.len]; exact small (by omega)), ?_⟩
      have su9 := su8.put (k := l / 2) e2 d2 (su7.new hp5) hna8
      have ht9 := su9.s _ _ ht
      refine ⟨_, rfl, t, _, _, _, rfl, rfl, SqT.of ht9, rfl, _, _, rfl, rfl, (by show (0 : Int) < 2; decide), rfl, _, rfl, ?_⟩
      by_cases hlo : l % 2 = 1
      rotate_left
      · rw [if_neg hlo]
        exact ifF (decide_eq_false (fun z => hlo (V.int.inj z))) ⟨_, _, _, _, _, _, rfl, su9⟩
      rw [if_pos hlo]
      refine ifT (decide_eq_true (congrArg V.int hlo)) ?_
      have hna9 : Off [td, sm] (upd (upd H7 p5 (.tup [V.int (c + 1), .ref na])) sm (.dK (putK kv (Sum.inl (l / 2)) (.ref p5)))) na = some (.lst ((numsOf L (l / 2) ++ r).map V.int)) := by rw [off_upd (by simp)]; exact hna8
      generalize upd (upd H7 p5 (.tup [V.int (c + 1), .ref na])) sm (.dK (putK kv (Sum.inl (l / 2)) (.ref p5))) = H9 at su9 ht9 hna9
      obtain ⟨kv9, e9, d9⟩ := su9.a2
      obtain ⟨v9, g9, _⟩ := d9.some (k := l / 2) self_addK
      refine ⟨_, rfl, sm, rfl, .inl ⟨kv9, .inl e9⟩, _, rfl, kv9, Sum.inl (l / 2), v9, e9, rfl, g9, ?_⟩
      have sD := su9.drop (k := l / 2) e9 d9
      have hnaD : Off [td, sm] (upd H9 sm (.dK (dropK kv9 (Sum.inl (l / 2))))) na = some (.lst ((numsOf L (l / 2) ++ r).map V.int)) := by rw [off_upd (by simp)]; exact hna9
      obtain ⟨vs, e1, d1⟩ := sD.a1
      have hvl : vs.length = L.news.length := by rw [d1.length_eq, List.length_map]; rfl
      refine ⟨_, rfl, .inl ⟨rfl, _, SqL.of e1⟩, _, rfl, _, rfl, _, rfl, t, _, _, _, rfl, rfl, SqT.of (sD.s _ _ ht), rfl, (by show 4 ≤ sizeLine; decide), fun p6 hp6 => ?_⟩
      have u6 := same_new hp6 (.tup [.str "parcel", .int (l / 2), .ref na, .int p'])
      have sE := sD.mono u6
      refine ⟨td, _, _, rfl, rfl, u6 _ _ e1, small (by omega), ?_⟩
      refine ⟨_, _, _, _, _, _, rfl, ?_⟩
      refine sE.tell (t := .parcel (l / 2) _ p') (u6 _ _ e1) (reps_mono (off_same u6) d1) (rep_tup (sD.new hp6) (.cons (.str _) (.cons (.int _) (.cons (rep_ints ?_) (.cons (.int _) .nil)))))
      have ef : ((L.hold (l / 2) (numsOf L (l / 2) ++ (c :: r).tail) ((c :: r).headD 0 + 1)).f (l / 2)).2 = numsOf L (l / 2) ++ r := by
        show (setF L.f (l / 2) _ (l / 2)).2 = _
        rw [setF_eq]; rfl
      rw [ef]
      exact off_same u6 _ _ hnaD
  rintro σ3 H3 ⟨o3', o6, o7, o8, o9, o10, rfl, su⟩
  rw [hl, List.take_length] at su
  have hks := run_ks es
  have hka := hrun.a
  have hnb := hrun.b
  have hnsz : (D.lst ((Hs.nil.run es).news.map toldD)).size ≤ 1000000 := by
    show D.sizes ((Hs.nil.run es).news.map toldD) + 1 ≤ _
    have h1 := told_sizes hrun.e
    have h2 : (Hs.nil.run es).news.length * (0 + bxWs es + 10) ≤ 200 * 300 := Nat.mul_le_mul (by omega) (by omega)
    omega
  -- found
  have s13 := s2.trans su.s
  refine ⟨_, rfl, .ref hd, es, rfl, rh2.mono su.s, by omega, by omega, fun fu H4 s4 r4 => ?_⟩
  have su4 := su.mono s4
  obtain ⟨tvs, te1, td1⟩ := su4.a1
  have rt4 : Rep H4 (.ref td) (.lst ((Hs.nil.run es).news.map toldD)) := rep_lst te1 (reps_mono off_sub td1)
  have s14 := s13.trans s4
  refine ⟨_, rfl, _, rfl, _, _, evsD es, rfl, rh2.mono su4.s, re1.mono s14, hesz, fun H5 s5 => ?_⟩
  refine ⟨_, rfl, ifF rfl ⟨_, rfl, _, rfl, _, _, _, rfl, r4.mono s5, rt4.mono s5, hnsz, fun H6 s6 => ⟨_, rfl, ifF rfl ?_⟩⟩⟩
  have s16 := (s14.trans s5).trans s6
  have su6 := (su4.mono s5).mono s6
  have ha6 := s16 _ _ ha1
  refine ⟨_, rfl, ea, rfl, ⟨_, SqL.of ha6⟩, fun D hD => lc_list (K := K) (a := ea) (xs := evs) (fun i σ HX => ∃ (o : Option V) (ys : List V), σ = [o] ∧ LsAt H6 D HX ((es.take i).flatMap fltD) ys ∧ ys.length ≤ i)
    ⟨none, [], rfl, LsAt.new (Same.refl _) hD, Nat.le_refl _⟩ (fun i σ HX _ ⟨_, _, _, la, _⟩ => SqL.of (la.s _ _ ha6)) ?_ ?_⟩
  · rintro i v σ HX hi ⟨o, ys, rfl, la, hy⟩
    have hil : i < es.length := by rw [← hl]; exact (List.getElem?_eq_some_iff.mp hi).1
    obtain ⟨e, he⟩ : ∃ e, es[i]? = some e := ⟨_, List.getElem?_eq_getElem hil⟩
    have hre := (hs i v (evD e) hi (by rw [List.getElem?_map, he]; rfl)).mono s16
    have et := take_next he
    rcases ev_cases e with ⟨l, con, s', p', rfl⟩ | ⟨wd, p', ed, efl, _, _⟩
    · obtain ⟨t, b, rfl, ht, hb⟩ := rep_evbox_inv hre
      have ht4 := la.s _ _ ht
      refine ⟨_, rfl, t, _, _, _, rfl, rfl, SqT.of ht4, rfl, rfl, _, rfl, ifF (by decide +kernel) ?_⟩
      refine ⟨_, ys, rfl, ?_, Nat.le_succ_of_le hy⟩
      rw [et, List.flatMap_append]
      show LsAt H6 D HX (_ ++ []) ys
      rw [List.append_nil]; exact la
    · rw [ed] at hre
      obtain ⟨t, rfl, ht⟩ := rep_flt_inv hre
      have ht4 := la.s _ _ ht
      refine ⟨_, rfl, t, _, _, _, rfl, rfl, SqT.of ht4, rfl, rfl, _, rfl, ifT (by decide +kernel) ?_⟩
      refine ⟨_, rfl, t, _, _, _, rfl, rfl, SqT.of ht4, rfl, _, rfl, t, _, _, _, rfl, rfl, SqT.of ht4, rfl, (by show 2 ≤ sizeLine; decide), fun p1 hp1 => ?_⟩
      have s5 := same_new hp1 (.tup [.str wd, .int p'])
      have la5 := la.mono s5
      refine ⟨ys, la5.a_, small (by omega), _, ys ++ [.ref p1], rfl, ?_, by rw [List.length_append]; exact Nat.succ_le_succ hy⟩
      rw [et, List.flatMap_append]
      show LsAt H6 D _ (_ ++ ([e].flatMap fltD)) _
      have e1 : [e].flatMap fltD = [.tup [.str wd, .int p']] := by rw [List.flatMap_singleton, efl]
      rw [e1]
      exact la5.push (rep_tup (off_new1 la.a_ hp1) (.cons (.str _) (.cons (.int _) .nil)))
  rintro σ7 H7 ⟨o, ys, rfl, laD, hy⟩
  rw [hl, List.take_length] at laD
  have s17 := s16.trans laD.s
  have su7 := su6.mono laD.s
  have hfsz : (_root_.L2.D.lst (es.flatMap fltD)).size ≤ 1000000 := by
    show _root_.L2.D.sizes (es.flatMap fltD) + 1 ≤ _
    have := flt_sizes es
    omega
  refine ⟨_, rfl, .ref hd, es, rfl, rh2.mono su7.s, by omega, fun fv H8 s8 r8 => ?_⟩
  refine ⟨_, rfl, _, _, _, rfl, r8, laD.rep.mono s8, hfsz, fun H9 s9 => ⟨_, rfl, ifF rfl ?_⟩⟩
  have su9 := (su7.mono s8).mono s9
  have s19 := (s17.trans s8).trans s9
  refine ⟨_, rfl, .ref hd, es, rfl, rh2.mono su9.s, by omega, by omega, by omega, fun wl HA nw sA hp hs hwl => ?_⟩
  have suA := su9.mono sA
  obtain ⟨kv, e2, d2⟩ := suA.a2
  refine ⟨_, rfl, sm, kv, _, rfl, .inl e2, d2.1, fun l1 hl1 => ?_⟩
  have uB := same_new hl1 (.lst ((Hs.nil.run es).ks.map V.int))
  refine ⟨l1, _, rfl, SqL.of upd_same, by omega, fun l2 nw' hl2 hp' hs' => ?_⟩
  have en : nw = nw' := sorted_one (hp.trans hp'.symm) hs hs'
  subst en
  have uC := same_new hl2 (.lst (nw.map V.int))
  have hnl := hp.length_eq
  refine ⟨_, _, intsD nw, rfl, rep_ints (uC _ _ (uB _ _ hwl)), rep_ints upd_same, by rw [ints_size]; omega, fun HD sD => ⟨_, rfl, ifT rfl ?_⟩⟩
  have suD := ((suA.mono uB).mono uC).mono sD
  exact ⟨_, rfl, _, rfl, _, _, evsD es, rfl, rh2.mono suD.s, re1.mono (s2.trans suD.s), hesz, fun HE _ => q HE⟩
end
end BB

set_option Elab.async false
set_option linter.all false
set_option maxRecDepth 100000
set_option maxHeartbeats 4000000
namespace BB
open PySem L2
theorem all_mk {l : PySem.W.OpenLaw} {w : World} {K : PySem.W.Frag} {h : Heap} {mg : Str → Option Value} {fa C_Hands f_Hands___init__ f_Hands_hold f_Hands_let_go f_Hands_lose f_Hands_keep f_Hands_take f_hands_behind f_unpacked f_waiting f_faults f_l_told_list f_l_same_told f_l_so f_law : Addr} (X : K.In h) (G : h.Ns mainGlobals mg) (hfa : mg "law" = some (.ref fa))
    {od_Hands___init__ an_Hands___init__ od_Hands_hold an_Hands_hold od_Hands_let_go an_Hands_let_go od_Hands_lose an_Hands_lose od_Hands_keep an_Hands_keep od_Hands_take an_Hands_take od_hands_behind an_hands_behind od_unpacked an_unpacked od_waiting an_waiting od_faults an_faults od_l_told_list an_l_told_list od_l_same_told an_l_same_told od_l_so an_l_so od_law an_law : Option Addr} {sl_Hands___init__ sl_Hands_hold sl_Hands_let_go sl_Hands_lose sl_Hands_keep sl_Hands_take sl_hands_behind sl_unpacked sl_waiting sl_faults sl_l_told_list sl_l_same_told sl_l_so sl_law : Array (Option Value)} {oc_Hands___init__ kV_Hands___init__ dc_Hands___init__ pm_Hands___init__ cd_Hands___init__ ct_Hands___init__ oc_Hands_hold kV_Hands_hold dc_Hands_hold pm_Hands_hold cd_Hands_hold ct_Hands_hold oc_Hands_let_go kV_Hands_let_go dc_Hands_let_go pm_Hands_let_go cd_Hands_let_go ct_Hands_let_go oc_Hands_lose kV_Hands_lose dc_Hands_lose pm_Hands_lose cd_Hands_lose ct_Hands_lose oc_Hands_keep kV_Hands_keep dc_Hands_keep pm_Hands_keep cd_Hands_keep ct_Hands_keep oc_Hands_take kV_Hands_take dc_Hands_take pm_Hands_take cd_Hands_take ct_Hands_take oc_hands_behind kV_hands_behind dc_hands_behind pm_hands_behind cd_hands_behind ct_hands_behind oc_unpacked kV_unpacked dc_unpacked pm_unpacked cd_unpacked ct_unpacked oc_waiting kV_waiting dc_waiting pm_waiting cd_waiting ct_waiting oc_faults kV_faults dc_faults pm_faults cd_faults ct_faults oc_l_told_list kV_l_told_list dc_l_told_list pm_l_told_list cd_l_told_list ct_l_told_list oc_l_same_told kV_l_same_told dc_l_same_told pm_l_same_told cd_l_same_told ct_l_same_told oc_l_so kV_l_so dc_l_so pm_l_so cd_l_so ct_l_so oc_law kV_law dc_law pm_law cd_law ct_law : Value}
    (e_Hands : PySem.W.nsIn K mainGlobals "Hands" = some (some (.ref C_Hands)))
    (a_Hands___init__ : PySem.W.findIn K (.ref C_Hands) "__init__" = some (some (.ref f_Hands___init__)))
    (i_Hands___init__ : PySem.W.isFn K (.ref f_Hands___init__) = true)
    (l_Hands___init__ : K.lookup f_Hands___init__ = some ⟨oc_Hands___init__, od_Hands___init__, .func (PySem.W.fnOf "__init__" "Hands.__init__" (defArgs sHands_init) (defBody sHands_init) (defScope sHands_init) .none kV_Hands___init__ dc_Hands___init__ pm_Hands___init__ an_Hands___init__ cd_Hands___init__ ct_Hands___init__), sl_Hands___init__⟩)
    (c_Hands___init__ : PySem.W.codeIn K cd_Hands___init__ "Hands.__init__" = true)
    (k_Hands___init__ : PySem.W.keepIn K (.ref f_Hands___init__) = true)
    (a_Hands_hold : PySem.W.findIn K (.ref C_Hands) "hold" = some (some (.ref f_Hands_hold)))
    (i_Hands_hold : PySem.W.isFn K (.ref f_Hands_hold) = true)
    (l_Hands_hold : K.lookup f_Hands_hold = some ⟨oc_Hands_hold, od_Hands_hold, .func (PySem.W.fnOf "hold" "Hands.hold" (defArgs sHands_hold) (defBody sHands_hold) (defScope sHands_hold) .none kV_Hands_hold dc_Hands_hold pm_Hands_hold an_Hands_hold cd_Hands_hold ct_Hands_hold), sl_Hands_hold⟩)
    (c_Hands_hold : PySem.W.codeIn K cd_Hands_hold "Hands.hold" = true)
    (k_Hands_hold : PySem.W.keepIn K (.ref f_Hands_hold) = true)
    (a_Hands_let_go : PySem.W.findIn K (.ref C_Hands) "let_go" = some (some (.ref f_Hands_let_go)))
    (i_Hands_let_go : PySem.W.isFn K (.ref f_Hands_let_go) = true)
    (l_Hands_let_go : K.lookup f_Hands_let_go = some ⟨oc_Hands_let_go, od_Hands_let_go, .func (PySem.W.fnOf "let_go" "Hands.let_go" (defArgs sHands_let_go) (defBody sHands_let_go) (defScope sHands_let_go) .none kV_Hands_let_go dc_Hands_let_go pm_Hands_let_go an_Hands_let_go cd_Hands_let_go ct_Hands_let_go), sl_Hands_let_go⟩)
    (c_Hands_let_go : PySem.W.codeIn K cd_Hands_let_go "Hands.let_go" = true)
    (k_Hands_let_go : PySem.W.keepIn K (.ref f_Hands_let_go) = true)
    (a_Hands_lose : PySem.W.findIn K (.ref C_Hands) "lose" = some (some (.ref f_Hands_lose)))
    (i_Hands_lose : PySem.W.isFn K (.ref f_Hands_lose) = true)
    (l_Hands_lose : K.lookup f_Hands_lose = some ⟨oc_Hands_lose, od_Hands_lose, .func (PySem.W.fnOf "lose" "Hands.lose" (defArgs sHands_lose) (defBody sHands_lose) (defScope sHands_lose) .none kV_Hands_lose dc_Hands_lose pm_Hands_lose an_Hands_lose cd_Hands_lose ct_Hands_lose), sl_Hands_lose⟩)
    (c_Hands_lose : PySem.W.codeIn K cd_Hands_lose "Hands.lose" = true)
    (k_Hands_lose : PySem.W.keepIn K (.ref f_Hands_lose) = true)
    (a_Hands_keep : PySem.W.findIn K (.ref C_Hands) "keep" = some (some (.ref f_Hands_keep)))
    (i_Hands_keep : PySem.W.isFn K (.ref f_Hands_keep) = true)
    (l_Hands_keep : K.lookup f_Hands_keep = some ⟨oc_Hands_keep, od_Hands_keep, .func (PySem.W.fnOf "keep" "Hands.keep" (defArgs sHands_keep) (defBody sHands_keep) (defScope sHands_keep) .none kV_Hands_keep dc_Hands_keep pm_Hands_keep an_Hands_keep cd_Hands_keep ct_Hands_keep), sl_Hands_keep⟩)
    (c_Hands_keep : PySem.W.codeIn K cd_Hands_keep "Hands.keep" = true)
    (k_Hands_keep : PySem.W.keepIn K (.ref f_Hands_keep) = true)
    (a_Hands_take : PySem.W.findIn K (.ref C_Hands) "take" = some (some (.ref f_Hands_take)))
    (i_Hands_take : PySem.W.isFn K (.ref f_Hands_take) = true)
    (l_Hands_take : K.lookup f_Hands_take = some ⟨oc_Hands_take, od_Hands_take, .func (PySem.W.fnOf "take" "Hands.take" (defArgs sHands_take) (defBody sHands_take) (defScope sHands_take) .none kV_Hands_take dc_Hands_take pm_Hands_take an_Hands_take cd_Hands_take ct_Hands_take), sl_Hands_take⟩)
    (c_Hands_take : PySem.W.codeIn K cd_Hands_take "Hands.take" = true)
    (k_Hands_take : PySem.W.keepIn K (.ref f_Hands_take) = true)
    (a_hands_behind : PySem.W.nsIn K mainGlobals "hands_behind" = some (some (.ref f_hands_behind)))
    (l_hands_behind : K.lookup f_hands_behind = some ⟨oc_hands_behind, od_hands_behind, .func (PySem.W.fnOf "hands_behind" "hands_behind" (defArgs s_hands_behind) (defBody s_hands_behind) (defScope s_hands_behind) .none kV_hands_behind dc_hands_behind pm_hands_behind an_hands_behind cd_hands_behind ct_hands_behind), sl_hands_behind⟩)
    (c_hands_behind : PySem.W.codeIn K cd_hands_behind "hands_behind" = true)
    (k_hands_behind : PySem.W.keepIn K (.ref f_hands_behind) = true)
    (a_unpacked : PySem.W.nsIn K mainGlobals "unpacked" = some (some (.ref f_unpacked)))
    (l_unpacked : K.lookup f_unpacked = some ⟨oc_unpacked, od_unpacked, .func (PySem.W.fnOf "unpacked" "unpacked" (defArgs s_unpacked) (defBody s_unpacked) (defScope s_unpacked) .none kV_unpacked dc_unpacked pm_unpacked an_unpacked cd_unpacked ct_unpacked), sl_unpacked⟩)
    (c_unpacked : PySem.W.codeIn K cd_unpacked "unpacked" = true)
    (k_unpacked : PySem.W.keepIn K (.ref f_unpacked) = true)
    (a_waiting : PySem.W.nsIn K mainGlobals "waiting" = some (some (.ref f_waiting)))
    (l_waiting : K.lookup f_waiting = some ⟨oc_waiting, od_waiting, .func (PySem.W.fnOf "waiting" "waiting" (defArgs s_waiting) (defBody s_waiting) (defScope s_waiting) .none kV_waiting dc_waiting pm_waiting an_waiting cd_waiting ct_waiting), sl_waiting⟩)
    (c_waiting : PySem.W.codeIn K cd_waiting "waiting" = true)
    (k_waiting : PySem.W.keepIn K (.ref f_waiting) = true)
    (a_faults : PySem.W.nsIn K mainGlobals "faults" = some (some (.ref f_faults)))
    (l_faults : K.lookup f_faults = some ⟨oc_faults, od_faults, .func (PySem.W.fnOf "faults" "faults" (defArgs s_faults) (defBody s_faults) (defScope s_faults) .none kV_faults dc_faults pm_faults an_faults cd_faults ct_faults), sl_faults⟩)
    (c_faults : PySem.W.codeIn K cd_faults "faults" = true)
    (k_faults : PySem.W.keepIn K (.ref f_faults) = true)
    (a_l_told_list : PySem.W.nsIn K mainGlobals "_law_told_list" = some (some (.ref f_l_told_list)))
    (l_l_told_list : K.lookup f_l_told_list = some ⟨oc_l_told_list, od_l_told_list, .func (PySem.W.fnOf "_law_told_list" "_law_told_list" (defArgs sToldList) (defBody sToldList) (defScope sToldList) .none kV_l_told_list dc_l_told_list pm_l_told_list an_l_told_list cd_l_told_list ct_l_told_list), sl_l_told_list⟩)
    (c_l_told_list : PySem.W.codeIn K cd_l_told_list "_law_told_list" = true)
    (k_l_told_list : PySem.W.keepIn K (.ref f_l_told_list) = true)
    (a_l_same_told : PySem.W.nsIn K mainGlobals "_law_same_told" = some (some (.ref f_l_same_told)))
    (l_l_same_told : K.lookup f_l_same_told = some ⟨oc_l_same_told, od_l_same_told, .func (PySem.W.fnOf "_law_same_told" "_law_same_told" (defArgs sSameTold) (defBody sSameTold) (defScope sSameTold) .none kV_l_same_told dc_l_same_told pm_l_same_told an_l_same_told cd_l_same_told ct_l_same_told), sl_l_same_told⟩)
    (c_l_same_told : PySem.W.codeIn K cd_l_same_told "_law_same_told" = true)
    (k_l_same_told : PySem.W.keepIn K (.ref f_l_same_told) = true)
    (a_l_so : PySem.W.nsIn K mainGlobals "_law_so" = some (some (.ref f_l_so)))
    (l_l_so : K.lookup f_l_so = some ⟨oc_l_so, od_l_so, .func (PySem.W.fnOf "_law_so" "_law_so" (defArgs sSo) (defBody sSo) (defScope sSo) .none kV_l_so dc_l_so pm_l_so an_l_so cd_l_so ct_l_so), sl_l_so⟩)
    (c_l_so : PySem.W.codeIn K cd_l_so "_law_so" = true)
    (k_l_so : PySem.W.keepIn K (.ref f_l_so) = true)
    (a_law : PySem.W.nsIn K mainGlobals "law" = some (some (.ref f_law)))
    (l_law : K.lookup f_law = some ⟨oc_law, od_law, .func (PySem.W.fnOf "law" "law" (defArgs sLaw) (defBody sLaw) (defScope sLaw) .none kV_law dc_law pm_law an_law cd_law ct_law), sl_law⟩)
    (c_law : PySem.W.codeIn K cd_law "law" = true)
    (k_law : PySem.W.keepIn K (.ref f_law) = true)
    (z_ValueError : PySem.W.nsIn K mainGlobals "ValueError" = some none)
    (z_abs : PySem.W.nsIn K mainGlobals "abs" = some none)
    (z_bool : PySem.W.nsIn K mainGlobals "bool" = some none)
    (z_enumerate : PySem.W.nsIn K mainGlobals "enumerate" = some none)
    (z_int : PySem.W.nsIn K mainGlobals "int" = some none)
    (z_isinstance : PySem.W.nsIn K mainGlobals "isinstance" = some none)
    (z_len : PySem.W.nsIn K mainGlobals "len" = some none)
    (z_list : PySem.W.nsIn K mainGlobals "list" = some none)
    (z_max : PySem.W.nsIn K mainGlobals "max" = some none)
    (z_min : PySem.W.nsIn K mainGlobals "min" = some none)
    (z_range : PySem.W.nsIn K mainGlobals "range" = some none)
    (z_sorted : PySem.W.nsIn K mainGlobals "sorted" = some none)
    (z_str : PySem.W.nsIn K mainGlobals "str" = some none)
    (z_tuple : PySem.W.nsIn K mainGlobals "tuple" = some none)
    (pg_Hands : PySem.W.plainGet K C_Hands Str.empty = true)
    (hd_Hands : PySem.W.hasDictIn K C_Hands = true)
    (po_Hands : PySem.W.plainOver K C_Hands = true)
    (sa_Hands : PySem.W.findIn K (.ref C_Hands) "__setattr__" = some (some (.builtin "object.__setattr__")))
    (mk_Hands : PySem.W.makesIn K C_Hands = true)
    (kc_Hands : PySem.W.keepIn K (.ref C_Hands) = true)
    (na_Hands_due : PySem.W.findIn K (.ref C_Hands) "due" = some none)
    (na_Hands_numbers : PySem.W.findIn K (.ref C_Hands) "numbers" = some none)
    (na_Hands_news : PySem.W.findIn K (.ref C_Hands) "news" = some none)
    (t_ii : PySem.W.kitOne K (.type "int") (.type "int") = some true)
    (t_ib : PySem.W.kitOne K (.type "int") (.type "bool") = some false)
    (t_ll : PySem.W.kitOne K (.type "list") (.type "list") = some true)
    (s_al : PySem.W.kitAny K (.type "list") [.type "list", .type "tuple"] = some true)
    (s_at : PySem.W.kitAny K (.type "tuple") [.type "list", .type "tuple"] = some true)
    (s_as : PySem.W.kitAny K (.type "str") [.type "list", .type "tuple"] = some false)
    (s_ab : PySem.W.kitAny K (.type "bool") [.type "list", .type "tuple"] = some false)
    (s_an : PySem.W.kitAny K (.type "NoneType") [.type "list", .type "tuple"] = some false)
    (s_ai : PySem.W.kitAny K (.type "int") [.type "list", .type "tuple"] = some false)
    (s_ll : PySem.W.kitOne K (.type "list") (.type "list") = some true)
    (s_lt : PySem.W.kitOne K (.type "list") (.type "tuple") = some false)
    (s_tl : PySem.W.kitOne K (.type "tuple") (.type "list") = some false)
    (s_tt : PySem.W.kitOne K (.type "tuple") (.type "tuple") = some true)
    (s_ss : PySem.W.kitOne K (.type "str") (.type "str") = some true)
    (s_bs : PySem.W.kitOne K (.type "bool") (.type "str") = some false)
    (s_ns : PySem.W.kitOne K (.type "NoneType") (.type "str") = some false)
    (s_is : PySem.W.kitOne K (.type "int") (.type "str") = some false)
    (s_bb : PySem.W.kitOne K (.type "bool") (.type "bool") = some true)
    (s_nb : PySem.W.kitOne K (.type "NoneType") (.type "bool") = some false)
    (s_ib : PySem.W.kitOne K (.type "int") (.type "bool") = some false)
    (s_ii : PySem.W.kitOne K (.type "int") (.type "int") = some true) :
    ∃ fd : FuncData, (∀ (s : Shared) (v : Value), BindsTo s fd ⟨[v], []⟩ [("_law_script", v)]) ∧ ∀ base : Heap, K.In base → base.Ns mainGlobals mg → FnOk l.prog w K mg base (CXs l.prog w) 8 fa fd ["_law_script"] (spLaw K) := by
  have e := hfa.symm.trans (PySem.W.mg_of X G a_law)
  cases e
  have F_Hands___init__ := fun_mk (st := sHands_init) l_Hands___init__ c_Hands___init__ k_Hands___init__
  have D_Hands___init__ : MDef K C_Hands "__init__" "Hands.__init__" sHands_init ["self"] f_Hands___init__ _ := ⟨F_Hands___init__, F_Hands___init__.binds (ps := ["self"]) fun _ _ _ _ _ _ us hl => match us, hl with | [_], _ => rfl, ⟨a_Hands___init__, i_Hands___init__, k_Hands___init__⟩⟩
  have F_Hands_hold := fun_mk (st := sHands_hold) l_Hands_hold c_Hands_hold k_Hands_hold
  have D_Hands_hold : MDef K C_Hands "hold" "Hands.hold" sHands_hold ["self", "sender", "numbers", "due"] f_Hands_hold _ := ⟨F_Hands_hold, F_Hands_hold.binds (ps := ["self", "sender", "numbers", "due"]) fun _ _ _ _ _ _ us hl => match us, hl with | [_, _, _, _], _ => rfl, ⟨a_Hands_hold, i_Hands_hold, k_Hands_hold⟩⟩
  have F_Hands_let_go := fun_mk (st := sHands_let_go) l_Hands_let_go c_Hands_let_go k_Hands_let_go
  have D_Hands_let_go : MDef K C_Hands "let_go" "Hands.let_go" sHands_let_go ["self", "sender"] f_Hands_let_go _ := ⟨F_Hands_let_go, F_Hands_let_go.binds (ps := ["self", "sender"]) fun _ _ _ _ _ _ us hl => match us, hl with | [_, _], _ => rfl, ⟨a_Hands_let_go, i_Hands_let_go, k_Hands_let_go⟩⟩
  have F_Hands_lose := fun_mk (st := sHands_lose) l_Hands_lose c_Hands_lose k_Hands_lose
  have D_Hands_lose : MDef K C_Hands "lose" "Hands.lose" sHands_lose ["self", "sender", "start"] f_Hands_lose _ := ⟨F_Hands_lose, F_Hands_lose.binds (ps := ["self", "sender", "start"]) fun _ _ _ _ _ _ us hl => match us, hl with | [_, _, _], _ => rfl, ⟨a_Hands_lose, i_Hands_lose, k_Hands_lose⟩⟩
  have F_Hands_keep := fun_mk (st := sHands_keep) l_Hands_keep c_Hands_keep k_Hands_keep
  have D_Hands_keep : MDef K C_Hands "keep" "Hands.keep" sHands_keep ["self", "sender", "numbers", "start"] f_Hands_keep _ := ⟨F_Hands_keep, F_Hands_keep.binds (ps := ["self", "sender", "numbers", "start"]) fun _ _ _ _ _ _ us hl => match us, hl with | [_, _, _, _], _ => rfl, ⟨a_Hands_keep, i_Hands_keep, k_Hands_keep⟩⟩
  have F_Hands_take := fun_mk (st := sHands_take) l_Hands_take c_Hands_take k_Hands_take
  have D_Hands_take : MDef K C_Hands "take" "Hands.take" sHands_take ["self", "label", "numbers", "start", "place"] f_Hands_take _ := ⟨F_Hands_take, F_Hands_take.binds (ps := ["self", "label", "numbers", "start", "place"]) fun _ _ _ _ _ _ us hl => match us, hl with | [_, _, _, _, _], _ => rfl, ⟨a_Hands_take, i_Hands_take, k_Hands_take⟩⟩
  have F_hands_behind := fun_mk (st := s_hands_behind) l_hands_behind c_hands_behind k_hands_behind
  have D_hands_behind : Def K mg "hands_behind" s_hands_behind ["told"] f_hands_behind _ := ⟨F_hands_behind, F_hands_behind.binds (ps := ["told"]) fun _ _ _ _ _ _ us hl => match us, hl with | [_], _ => rfl, PySem.W.mg_of X G a_hands_behind⟩
  have F_unpacked := fun_mk (st := s_unpacked) l_unpacked c_unpacked k_unpacked
  have D_unpacked : Def K mg "unpacked" s_unpacked ["told"] f_unpacked _ := ⟨F_unpacked, F_unpacked.binds (ps := ["told"]) fun _ _ _ _ _ _ us hl => match us, hl with | [_], _ => rfl, PySem.W.mg_of X G a_unpacked⟩
  have F_waiting := fun_mk (st := s_waiting) l_waiting c_waiting k_waiting
  have D_waiting : Def K mg "waiting" s_waiting ["told"] f_waiting _ := ⟨F_waiting, F_waiting.binds (ps := ["told"]) fun _ _ _ _ _ _ us hl => match us, hl with | [_], _ => rfl, PySem.W.mg_of X G a_waiting⟩
  have F_faults := fun_mk (st := s_faults) l_faults c_faults k_faults
  have D_faults : Def K mg "faults" s_faults ["told"] f_faults _ := ⟨F_faults, F_faults.binds (ps := ["told"]) fun _ _ _ _ _ _ us hl => match us, hl with | [_], _ => rfl, PySem.W.mg_of X G a_faults⟩
  have F_l_told_list := fun_mk (st := sToldList) l_l_told_list c_l_told_list k_l_told_list
  have D_l_told_list : Def K mg "_law_told_list" sToldList ["_law_cells"] f_l_told_list _ := ⟨F_l_told_list, F_l_told_list.binds (ps := ["_law_cells"]) fun _ _ _ _ _ _ us hl => match us, hl with | [_], _ => rfl, PySem.W.mg_of X G a_l_told_list⟩
  have F_l_same_told := fun_mk (st := sSameTold) l_l_same_told c_l_same_told k_l_same_told
  have D_l_same_told : Def K mg "_law_same_told" sSameTold ["_law_found", "_law_due"] f_l_same_told _ := ⟨F_l_same_told, F_l_same_told.binds (ps := ["_law_found", "_law_due"]) fun _ _ _ _ _ _ us hl => match us, hl with | [_, _], _ => rfl, PySem.W.mg_of X G a_l_same_told⟩
  have F_l_so := fun_mk (st := sSo) l_l_so c_l_so k_l_so
  have D_l_so : Def K mg "_law_so" sSo ["_law_found", "_law_due"] f_l_so _ := ⟨F_l_so, F_l_so.binds (ps := ["_law_found", "_law_due"]) fun _ _ _ _ _ _ us hl => match us, hl with | [_, _], _ => rfl, PySem.W.mg_of X G a_l_so⟩
  have F_law := fun_mk (st := sLaw) l_law c_law k_law
  have Z_ValueError : mg "ValueError" = none := PySem.W.mg_none_of X G z_ValueError
  have Z_abs : mg "abs" = none := PySem.W.mg_none_of X G z_abs
  have Z_bool : mg "bool" = none := PySem.W.mg_none_of X G z_bool
  have Z_enumerate : mg "enumerate" = none := PySem.W.mg_none_of X G z_enumerate
  have Z_int : mg "int" = none := PySem.W.mg_none_of X G z_int
  have Z_isinstance : mg "isinstance" = none := PySem.W.mg_none_of X G z_isinstance
  have Z_len : mg "len" = none := PySem.W.mg_none_of X G z_len
  have Z_list : mg "list" = none := PySem.W.mg_none_of X G z_list
  have Z_max : mg "max" = none := PySem.W.mg_none_of X G z_max
  have Z_min : mg "min" = none := PySem.W.mg_none_of X G z_min
  have Z_range : mg "range" = none := PySem.W.mg_none_of X G z_range
  have Z_sorted : mg "sorted" = none := PySem.W.mg_none_of X G z_sorted
  have Z_str : mg "str" = none := PySem.W.mg_none_of X G z_str
  have Z_tuple : mg "tuple" = none := PySem.W.mg_none_of X G z_tuple
  have M_Hands : mg "Hands" = some (.ref C_Hands) := PySem.W.mg_of X G e_Hands
  have K_Hands : Cls K C_Hands := ⟨pg_Hands, hd_Hands, po_Hands, sa_Hands⟩
  have MK_Hands : Mk K C_Hands f_Hands___init__ := ⟨mk_Hands, a_Hands___init__, i_Hands___init__, kc_Hands⟩
  refine ⟨PySem.W.fnOf "law" "law" (defArgs sLaw) (defBody sLaw) (defScope sLaw) .none kV_law dc_law pm_law an_law cd_law ct_law, fun s v => .of_eq rfl, fun base _ _ => ?_⟩
  have B : Blt K mg := ⟨Z_isinstance, Z_int, Z_bool, Z_list, Z_len, Z_range, Z_abs, t_ii, t_ib, t_ll⟩
  have S : SoK K mg := ⟨Z_isinstance, Z_list, Z_tuple, Z_str, Z_bool, Z_int, Z_len, Z_range, s_al, s_at, s_as, s_ab, s_an, s_ai, s_ll, s_lt, s_tl, s_tt, s_ss, s_bs, s_ns, s_is, s_bb, s_nb, s_ib, s_ii⟩
  have G_so := ok_so (P := l.prog) (w := w) (mg := mg) (base := base) F_l_so S
  have T2 : TH K mg C_Hands := ⟨K_Hands, na_Hands_due, na_Hands_numbers, na_Hands_news, M_Hands⟩
  have G_hi := ok_hinit (P := l.prog) (w := w) (mg := mg) (base := base) F_Hands___init__ T2
  have G_ho := ok_hold (P := l.prog) (w := w) (mg := mg) (base := base) F_Hands_hold T2
  have G_lg := ok_letGo (P := l.prog) (w := w) (mg := mg) (base := base) F_Hands_let_go T2
  have G_lo := ok_lose F_Hands_lose T2 D_Hands_let_go G_lg
  have G_ke := ok_keep F_Hands_keep T2 D_Hands_hold G_ho D_Hands_lose G_lo
  have G_ht := ok_htake F_Hands_take T2 D_Hands_keep G_ke D_Hands_let_go G_lg
  have G_bh := ok_behind F_hands_behind T2 MK_Hands D_Hands___init__.b G_hi D_Hands_take G_ht
  have G_un := ok_unpacked F_unpacked T2 D_hands_behind G_bh
  have G_wa := ok_waiting F_waiting T2 Z_sorted D_hands_behind G_bh
  have G_fa := ok_faults (P := l.prog) (w := w) (mg := mg) (base := base) F_faults
  have G_tl := ok_toldList (P := l.prog) (w := w) (mg := mg) (base := base) F_l_told_list B Z_min
  have G_st := ok_sameTold F_l_same_told D_l_so G_so
  exact ok_law F_law B Z_sorted D_l_told_list G_tl D_l_so G_so D_l_same_told G_st D_unpacked G_un D_faults G_fa D_waiting G_wa
theorem walk {l : PySem.W.OpenLaw} {q : Program} {loose : List Str} {XP : (Str → Option Value) → Heap → Prop} {YP : World → Heap → Prop} {d : DefRec} {K : Params → PySem.W.Frag} (hn : l.most = some 63) (hdf : d.params.defaults = [])
    (hY : ∀ (w : World) (h : Heap), YP w h → (K w.params).In h)
    (F : ∀ (w : World) (mg : Str → Option Value) (fa : Addr) (h : Heap), (K w.params).In h → h.Ns mainGlobals mg → mg d.name = some (.ref fa) →
      ∃ fd : FuncData, (∀ (s : Shared) (u : Value), BindsTo s fd ⟨[u], []⟩ [("_law_script", u)]) ∧ ∀ base : Heap, (K w.params).In base → base.Ns mainGlobals mg → FnOk l.prog w (K w.params) mg base (CXs l.prog w) 8 fa fd ["_law_script"] (spLaw (K w.params))) :
    PySem.W.WalkO q loose XP YP l.row.toRowW d [] (fun f vs => PySem.call f vs) :=
  L2.walk_of (n := 63) (k := 8) (x := "_law_script") (CX := fun w => CXs l.prog w) (sp := fun w => spLaw (K w.params)) hn (by decide) hdf ⟨rfl, by decide, by decide⟩ hY F (fun _ _ a ns hl _ hS => ⟨a, ns, rfl, hS, hl, fun _ => rfl⟩) fun _ _ _ _ _ ⟨_, _, _, _, _, _, _, _, _, _, _, _, _, _, z⟩ => z
end BB
open PySem PySem.W PyProof.Rows
theorem PySem.W.Fast.te2572714206411699540 : True := trivial
set_option maxRecDepth 100000 in
set_option maxHeartbeats 0 in
theorem PySem.Challenge.cw_beltboxes_k13_unpacked_box_by_box_holds : PySem.Challenge.rw_beltboxes_k13_unpacked_box_by_box.Holds := by
  w_on; o_law; k_head; (case hw => w_witness2)
  k_fill
  refine BB.walk (l := PySem.Challenge.rw_beltboxes_k13_unpacked_box_by_box) rfl rfl (fun w h Y => PySem.W.kIn_of Y) ?F
  case F =>
    intro w mg fa h KX G hmg
    refine' BB.all_mk KX G hmg ?e_Hands ?a_Hands___init__ ?i_Hands___init__ ?l_Hands___init__ ?c_Hands___init__ ?k_Hands___init__ ?a_Hands_hold ?i_Hands_hold ?l_Hands_hold ?c_Hands_hold ?k_Hands_hold ?a_Hands_let_go ?i_Hands_let_go ?l_Hands_let_go ?c_Hands_let_go ?k_Hands_let_go ?a_Hands_lose ?i_Hands_lose ?l_Hands_lose ?c_Hands_lose ?k_Hands_lose ?a_Hands_keep ?i_Hands_keep ?l_Hands_keep ?c_Hands_keep ?k_Hands_keep ?a_Hands_take ?i_Hands_take ?l_Hands_take ?c_Hands_take ?k_Hands_take ?a_hands_behind ?l_hands_behind ?c_hands_behind ?k_hands_behind ?a_unpacked ?l_unpacked ?c_unpacked ?k_unpacked ?a_waiting ?l_waiting ?c_waiting ?k_waiting ?a_faults ?l_faults ?c_faults ?k_faults ?a_l_told_list ?l_l_told_list ?c_l_told_list ?k_l_told_list ?a_l_same_told ?l_l_same_told ?c_l_same_told ?k_l_same_told ?a_l_so ?l_l_so ?c_l_so ?k_l_so ?a_law ?l_law ?c_law ?k_law ?z_ValueError ?z_abs ?z_bool ?z_enumerate ?z_int ?z_isinstance ?z_len ?z_list ?z_max ?z_min ?z_range ?z_sorted ?z_str ?z_tuple ?pg_Hands ?hd_Hands ?po_Hands ?sa_Hands ?mk_Hands ?kc_Hands ?na_Hands_due ?na_Hands_numbers ?na_Hands_news ?t_ii ?t_ib ?t_ll ?s_al ?s_at ?s_as ?s_ab ?s_an ?s_ai ?s_ll ?s_lt ?s_tl ?s_tt ?s_ss ?s_bs ?s_ns ?s_is ?s_bb ?s_nb ?s_ib ?s_ii
    (case e_Hands => k_is); (case a_Hands___init__ => k_is); (case i_Hands___init__ => k_is); (case l_Hands___init__ => k_is); (case c_Hands___init__ => k_is); (case k_Hands___init__ => k_is)
    (case a_Hands_hold => k_is); (case i_Hands_hold => k_is); (case l_Hands_hold => k_is); (case c_Hands_hold => k_is); (case k_Hands_hold => k_is); (case a_Hands_let_go => k_is)
    (case i_Hands_let_go => k_is); (case l_Hands_let_go => k_is); (case c_Hands_let_go => k_is); (case k_Hands_let_go => k_is); (case a_Hands_lose => k_is); (case i_Hands_lose => k_is)
    (case l_Hands_lose => k_is); (case c_Hands_lose => k_is); (case k_Hands_lose => k_is); (case a_Hands_keep => k_is); (case i_Hands_keep => k_is); (case l_Hands_keep => k_is)
    (case c_Hands_keep => k_is); (case k_Hands_keep => k_is); (case a_Hands_take => k_is); (case i_Hands_take => k_is); (case l_Hands_take => k_is); (case c_Hands_take => k_is)
    (case k_Hands_take => k_is); (case a_hands_behind => k_is); (case l_hands_behind => k_is); (case c_hands_behind => k_is); (case k_hands_behind => k_is); (case a_unpacked => k_is)
    (case l_unpacked => k_is); (case c_unpacked => k_is); (case k_unpacked => k_is); (case a_waiting => k_is); (case l_waiting => k_is); (case c_waiting => k_is)
    (case k_waiting => k_is); (case a_faults => k_is); (case l_faults => k_is); (case c_faults => k_is); (case k_faults => k_is); (case a_l_told_list => k_is)
    (case l_l_told_list => k_is); (case c_l_told_list => k_is); (case k_l_told_list => k_is); (case a_l_same_told => k_is); (case l_l_same_told => k_is); (case c_l_same_told => k_is)
    (case k_l_same_told => k_is); (case a_l_so => k_is); (case l_l_so => k_is); (case c_l_so => k_is); (case k_l_so => k_is); (case a_law => k_is)
    (case l_law => k_is); (case c_law => k_is); (case k_law => k_is); (case z_ValueError => k_is); (case z_abs => k_is); (case z_bool => k_is)
    (case z_enumerate => k_is); (case z_int => k_is); (case z_isinstance => k_is); (case z_len => k_is); (case z_list => k_is); (case z_max => k_is)
    (case z_min => k_is); (case z_range => k_is); (case z_sorted => k_is); (case z_str => k_is); (case z_tuple => k_is); (case pg_Hands => k_is)
    (case hd_Hands => k_is); (case po_Hands => k_is); (case sa_Hands => k_is); (case mk_Hands => k_is); (case kc_Hands => k_is); (case na_Hands_due => k_is)
    (case na_Hands_numbers => k_is); (case na_Hands_news => k_is); (case t_ii => kit_is); (case t_ib => kit_is); (case t_ll => kit_is); (case s_al => kit_is)
    (case s_at => kit_is); (case s_as => kit_is); (case s_ab => kit_is); (case s_an => kit_is); (case s_ai => kit_is); (case s_ll => kit_is)
    (case s_lt => kit_is); (case s_tl => kit_is); (case s_tt => kit_is); (case s_ss => kit_is); (case s_bs => kit_is); (case s_ns => kit_is)
    (case s_is => kit_is); (case s_bb => kit_is); (case s_nb => kit_is); (case s_ib => kit_is); (case s_ii => kit_is)
#print axioms PySem.Challenge.cw_beltboxes_k13_unpacked_box_by_box_holds
