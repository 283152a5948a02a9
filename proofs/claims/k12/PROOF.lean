import PyProof.Rows.All
import Wide.All
import OpenK.AllK
import Wide.FinOn
import Lean
import PyProof.EqAt
import PyProof.EqKinds
import PyProof.TupleCall
import PyProof.NeKinds
import PySem.Challenge.RW_beltboxes_k12_whole_one_box_lost
-- CHANGE: your row's module here, as the last of these rows
set_option Elab.async false
set_option linter.all false
set_option maxRecDepth 100000
/-! THE HAND LAYER, for ints, bools, texts, own classes, LISTS and tuples (index, slices, in, append, pop ..), calls, loops. Paste it whole ahead of your own text; what your proof does not reach may be deleted. -/
namespace L2
open PySem PySem.Spec PyProof.Rows

/-- a key: an int or a str -/
abbrev Key := Sum Int Str
def keyIs : Key → Value → Bool
  | .inl k, v => Value.isInt k v
  | .inr x, v => Value.isStrOf x v
def keyH (w : World) : Key → Int
  | .inl k => hashInt k
  | .inr x => hashStr w x
theorem keyIs_shape : ∀ {k : Key} {v : Value}, keyIs k v = true → (∃ i t, k = Sum.inl i ∧ v = Value.int i t) ∨ (∃ x t, k = Sum.inr x ∧ v = Value.str x t)
  | .inl i, v, h => by
    obtain ⟨t, e⟩ := Value.isInt_shape (k := i) (v := v) h
    exact .inl ⟨i, t, rfl, e⟩
  | .inr x, v, h => by
    obtain ⟨t, e⟩ := Value.isStrOf_shape (x := x) (v := v) h
    exact .inr ⟨x, t, rfl, e⟩
theorem keyIs_int (i : Int) (t : Tok) : keyIs (.inl i) (.int i t) = true := by simp [keyIs, Value.isInt]
theorem keyIs_str (x : Str) (t : Tok) : keyIs (.inr x) (.str x t) = true := by simp [keyIs, Value.isStrOf]
theorem key_ll (a b : Int) : decide ((Sum.inl a : Key) = Sum.inl b) = (a == b) := by
  by_cases e : a = b
  · subst e; simp
  · have h : ¬ (Sum.inl a : Key) = Sum.inl b := fun q => e (Sum.inl.inj q)
    rw [decide_eq_false h]
    exact (beq_eq_false_iff_ne.mpr e).symm
theorem key_rr (a b : Str) : decide ((Sum.inr a : Key) = Sum.inr b) = decide (a = b) := by
  by_cases e : a = b
  · subst e; simp
  · have h : ¬ (Sum.inr a : Key) = Sum.inr b := fun q => e (Sum.inr.inj q)
    rw [decide_eq_false h, decide_eq_false e]
theorem key_lr (a : Int) (b : Str) : decide ((Sum.inl a : Key) = Sum.inr b) = false := decide_eq_false (fun q => nomatch q)
theorem key_rl (a : Str) (b : Int) : decide ((Sum.inr a : Key) = Sum.inl b) = false := decide_eq_false (fun q => nomatch q)

def mixKind (prog : Program) (w : World) : PySem.KeyKind prog w Key where
  is := keyIs
  hash := keyH w
  inj := fun v a b ha hb => by
    rcases keyIs_shape ha with ⟨i, t, rfl, rfl⟩ | ⟨x, t, rfl, rfl⟩
    · rcases keyIs_shape hb with ⟨j, u, rfl, e⟩ | ⟨y, u, rfl, e⟩
      · injection e with e1 _; rw [e1]
      · exact nomatch e
    · rcases keyIs_shape hb with ⟨j, u, rfl, e⟩ | ⟨y, u, rfl, e⟩
      · exact nomatch e
      · injection e with e1 _; rw [e1]
  byValue := fun k v h => by
    rcases keyIs_shape h with ⟨i, t, rfl, rfl⟩ | ⟨x, t, rfl, rfl⟩ <;> rfl
  pyHash := fun hv h => by
    rcases keyIs_shape hv with ⟨i, t, rfl, rfl⟩ | ⟨x, t, rfl, rfl⟩
    · exact wpAny_pyHash_int h
    · exact wpAny_pyHash_str h
  eqBool := fun hu hv h => by
    rcases keyIs_shape hu with ⟨i, t, rfl, rfl⟩ | ⟨x, t, rfl, rfl⟩
    · rcases keyIs_shape hv with ⟨j, u, rfl, rfl⟩ | ⟨y, u, rfl, rfl⟩
      · rw [key_ll] at h; exact wpAny_eqBool_int h
      · rw [key_lr] at h; exact SeqAt.EqAt.int_str i t y u _ _ _ _ h
    · rcases keyIs_shape hv with ⟨j, u, rfl, rfl⟩ | ⟨y, u, rfl, rfl⟩
      · rw [key_rl] at h; exact SeqAt.EqAt.str_int x t j u _ _ _ _ h
      · rw [key_rr] at h; exact wpAny_eqBool_str h
  «strs» := fun k x t v h => by
    rcases keyIs_shape h with ⟨i, u, rfl, e⟩ | ⟨y, u, rfl, e⟩
    · exact nomatch e
    · injection e with e1 _
      subst e1
      cases v <;> rfl

theorem mixKind_int (prog : Program) (w : World) (i : Int) (t : Tok) : (mixKind prog w).is (.inl i) (.int i t) = true := keyIs_int i t
theorem mixKind_str (prog : Program) (w : World) (x : Str) (t : Tok) : (mixKind prog w).is (.inr x) (.str x t) = true := keyIs_str x t
end L2

namespace L2
open PySem PySem.Spec PyProof.Rows

/-- a value, without the heap -/
inductive V where
  | non | bl (b : Bool) | int (i : Int) | str (x : Str) | byt (b : Array UInt8) | flt (b : UInt64) | ref (a : Addr) | ty (n : String)
  deriving DecidableEq

def RelV : V → Value → Prop
  | .non, u => u = Value.none
  | .bl b, u => u = Value.bool b
  | .int i, u => ∃ t, u = Value.int i t
  | .str x, u => ∃ t, u = Value.str x t
  | .byt b, u => ∃ t, u = Value.bytes b t
  | .flt b, u => ∃ t, u = Value.float b t
  | .ref a, u => u = Value.ref a
  | .ty n, u => u = Value.type n

abbrev Vals : List V → List Value → Prop := Paired RelV
theorem Vals.length {xs : List V} {us : List Value} (r : Vals xs us) : xs.length = us.length := Paired.length r
theorem Vals.get : ∀ {xs : List V} {us : List Value} {i : Nat} {x : V}, Vals xs us → xs[i]? = some x → ∃ u, us[i]? = some u ∧ RelV x u
  | _, _, _, _, .nil, e => by simp at e
  | _, _, 0, _, .cons r _, e => by simp at e; subst e; exact ⟨_, rfl, r⟩
  | _, _, i + 1, x, .cons _ t, e => by
    obtain ⟨u, h1, h2⟩ := Vals.get (i := i) (x := x) t (by simpa using e)
    exact ⟨u, by simpa using h1, h2⟩
theorem Vals.set {x : V} {u : Value} (r : RelV x u) : ∀ {xs : List V} {us : List Value} (i : Nat), Vals xs us → Vals (xs.set i x) (us.set i u)
  | _, _, _, .nil => .nil
  | _, _, 0, .cons _ t => .cons r t
  | _, _, i + 1, .cons q t => .cons q (Vals.set r i t)
theorem Vals.append : ∀ {xs ys : List V} {us ws : List Value}, Vals xs us → Vals ys ws → Vals (xs ++ ys) (us ++ ws)
  | _, _, _, _, .nil, s => s
  | _, _, _, _, .cons r t, s => .cons r (Vals.append t s)
theorem Vals.take : ∀ {xs : List V} {us : List Value} (n : Nat), Vals xs us → Vals (xs.take n) (us.take n)
  | _, _, 0, _ => .nil
  | _, _, _ + 1, .nil => .nil
  | _, _, n + 1, .cons r t => .cons r (Vals.take n t)
theorem Vals.drop : ∀ {xs : List V} {us : List Value} (n : Nat), Vals xs us → Vals (xs.drop n) (us.drop n)
  | _, _, 0, r => r
  | _, _, _ + 1, .nil => .nil
  | _, _, n + 1, .cons _ t => Vals.drop n t

def RelO : Option V → Option Value → Prop
  | some v, some u => RelV v u
  | none, none => True
  | _, _ => False
def KV {κ : Type} : List (κ × V) → List (κ × Value) → Prop := Paired fun (p : κ × V) (q : κ × Value) => p.1 = q.1 ∧ RelV p.2 q.2

/-- a key of a dict (00_mix): an int or a text -/
def kV : Key → V
  | .inl i => .int i
  | .inr x => .str x

/-- what stands at a tracked address -/
inductive HO where
  /-- a list -/
  | lst (xs : List V)
  /-- a tuple (never changes) -/
  | tup (xs : List V)
  /-- a dict whose keys are ints and texts; one whose keys are tuples of ints and texts (the empty one is both) -/
  | dK (kvs : List (Key × V)) | dT (kvs : List (List Key × V))
  /-- a set of ints: its members, its size -/
  | set (S : Int → Bool) (n : Nat)
  /-- an instance of the class at C, its dict at dx, its attributes -/
  | ins (C dx : Addr) (fs : List (Str × V))
  /-- the dict of the instance at x -/
  | own (x : Addr)
  /-- the dict of an exception -/
  | xd (fs : List (Str × V))
  /-- a bound method, f of x -/
  | met (f x : Addr)
  /-- a range object lo, lo + 1, .. below hi -/
  | rng (lo hi : Int)
  /-- a thing that is known to the object (the script; a dict while a loop walks it): read, never written while it is so -/
  | frz (o : Obj) (u : HO)
  /-- a code object's table -/
  | tbl (ps : Array Value)
  /-- any other thing, by what is true of its one object (a def of one's own: SetO a S n := HO.ext fun h => ..) -/
  | ext (φ : Heap → Prop)

abbrev Hp := Addr → Option HO
def upd (H : Hp) (a : Addr) (o : HO) : Hp := fun b => if b = a then some o else H b
theorem upd_same {H : Hp} {a : Addr} {o : HO} : upd H a o a = some o := by unfold upd; rw [if_pos rfl]
theorem upd_ne {H : Hp} {a b : Addr} {o : HO} (h : b ≠ a) : upd H a o b = H b := by unfold upd; rw [if_neg h]
theorem upd_upd {H : Hp} {a : Addr} {o u : HO} : upd (upd H a o) a u = upd H a u := by
  funext b; unfold upd; split <;> rfl
/-- two objects of different content stand apart -/
theorem ne_of {H : Hp} {a b : Addr} {o u : HO} (h : H a = some o) (h' : H b = some u) (d : o ≠ u) : a ≠ b := by
  intro e; subst e; rw [h] at h'; exact d (Option.some.inj h')
theorem ne_of_none {H : Hp} {a b : Addr} {o : HO} (h : H a = some o) (h' : H b = none) : a ≠ b := by
  intro e; subst e; rw [h] at h'; cases h'

section
variable (P : Program) (w : World)
def ObjOk (H : Hp) (h : Heap) (a : Addr) : HO → Prop
  | .lst xs => xs.length ≤ sizeLine ∧ ∃ (its : List Value) (n : Nat), Vals xs its ∧ h.get? a = some { cls := .type "list", data := .seq its.toArray n }
  | .tup xs => xs.length ≤ sizeLine ∧ ∃ its : List Value, Vals xs its ∧ IsTup h a its.toArray
  | .dK kvs => kvs.length ≤ sizeLine ∧ (a == sysModules) = false ∧ ∃ vs, KV kvs vs ∧ h.DictOf (mixKind P w) a vs
  | .dT kvs => kvs.length ≤ sizeLine ∧ (a == sysModules) = false ∧ ∃ xs : List (List Key × Addr × Value),
      Paired (fun (p : List Key × V) (q : List Key × Addr × Value) => p.1 = q.1 ∧ H q.2.1 = some (.tup (p.1.map kV)) ∧ RelV p.2 q.2.2) kvs xs ∧
      ∃ o es ep, h.get? a = some o ∧ o.ExactDict ∧ o.data = .dict es ep ∧ es.toList = xs.map (entryOfKey (tupleKind (mixKind P w))) ∧ (xs.map (·.1)).Nodup
  | .set S n => h.SetOf (intKind P w) a S n
  | .ins C dx fs => H dx = some (.own a) ∧ fs.length ≤ 1000 ∧ dx ≠ a ∧ h.get? a = some (PySem.W.instObj C dx) ∧
      ∃ mA, h.Ns1 dx mA ∧ (∀ f, RelO (fs.lookup f) (mA f)) ∧ PySem.Within mA (fs.map (·.1))
  | .own _ => ∃ o, h.get? a = some o
  | .xd fs => ∃ mA, h.Ns1 a mA ∧ ∀ f, RelO (fs.lookup f) (mA f)
  | .rng lo hi => ∃ t u v, h.get? a = some { cls := .type "range", data := .fields #[.int lo t, .int hi u, .int 1 v] }
  | .frz o u => h.get? a = some o ∧ ObjOk H h a u
  | .tbl ps => h.get? a = some { cls := .none, data := .fields ps }
  | .met f x => h.get? a = some (PySem.W.methodObj (.ref f) (.ref x))
  | .ext φ => φ h ∧ (∃ o, h.get? a = some o) ∧ ∀ h1 h2 : Heap, φ h1 → (∀ o, h1.get? a = some o → h2.get? a = some o) → φ h2
/-- the abstract heap is held -/
def HOk (H : Hp) (h : Heap) : Prop := ∀ a o, H a = some o → ObjOk P w H h a o
end

section
variable {P : Program} {w : World} {H H' : Hp} {h h' : Heap} {a : Addr} {o : HO}
theorem ObjOk.lt (x : ObjOk P w H h a o) : a < h.objs.size := by
  cases o with
  | lst xs => obtain ⟨_, _, _, _, e⟩ := x; exact Heap.lt_size e
  | tup xs => obtain ⟨_, _, _, p⟩ := x; exact p.lt
  | dK kvs => obtain ⟨_, _, _, _, o, _, _, e, _⟩ := x; exact Heap.lt_size e
  | dT kvs => obtain ⟨_, _, _, _, o, _, _, e, _⟩ := x; exact Heap.lt_size e
  | set S n => obtain ⟨o, _, _, _, e, _⟩ := x; exact Heap.lt_size e
  | ins C dx fs => obtain ⟨_, _, _, e, _⟩ := x; exact Heap.lt_size e
  | own y => obtain ⟨_, e⟩ := x; exact Heap.lt_size e
  | xd fs => obtain ⟨_, ⟨_, _, _, e, _⟩, _⟩ := x; exact Heap.lt_size e
  | rng lo hi => obtain ⟨_, _, _, e⟩ := x; exact Heap.lt_size e
  | frz ob u => obtain ⟨e, _⟩ := x; exact Heap.lt_size e
  | tbl ps => exact Heap.lt_size (show h.get? a = some _ from x)
  | met f y => exact Heap.lt_size (show h.get? a = some _ from x)
  | ext φ => obtain ⟨_, ⟨_, e⟩, _⟩ := x; exact Heap.lt_size e
theorem Paired.mapP {α β : Type} {F G : α → β → Prop} : ∀ {l₁ : List α} {l₂ : List β}, Paired F l₁ l₂ → (∀ a b, F a b → G a b) → Paired G l₁ l₂
  | _, _, .nil, _ => .nil
  | _, _, .cons r t, f => .cons (f _ _ r) (Paired.mapP t f)
/-- what an object's description leans on: its own object, its own dict, the tuples -/
theorem ObjOk.stay (x : ObjOk P w H h a o) (k : ∀ b u, (b = a ∨ H b = some (.own a)) → h.get? b = some u → h'.get? b = some u)
    (ho : ∀ b, H b = some (.own a) → H' b = some (.own a)) (ht : ∀ b xs, H b = some (.tup xs) → H' b = some (.tup xs)) : ObjOk P w H' h' a o := by
  induction o with
  | lst xs => obtain ⟨z, its, n, r, e⟩ := x; exact ⟨z, its, n, r, k _ _ (.inl rfl) e⟩
  | tup xs => obtain ⟨z, its, r, ob, e, c⟩ := x; exact ⟨z, its, r, ob, k _ _ (.inl rfl) e, c⟩
  | dK kvs => obtain ⟨z, y, vs, r, ob, es, ep, e, c⟩ := x; exact ⟨z, y, vs, r, ob, es, ep, k _ _ (.inl rfl) e, c⟩
  | dT kvs =>
    obtain ⟨z, y, xs, r, ob, es, ep, e, c⟩ := x
    exact ⟨z, y, xs, Paired.mapP r fun p q z => ⟨z.1, ht _ _ z.2.1, z.2.2⟩, ob, es, ep, k _ _ (.inl rfl) e, c⟩
  | set S n => obtain ⟨ob, es, ep, t, e, c⟩ := x; exact ⟨ob, es, ep, t, k _ _ (.inl rfl) e, c⟩
  | ins C dx fs =>
    obtain ⟨d, z, ne, e, mA, ⟨od, es, ep, e2, c⟩, r⟩ := x
    exact ⟨ho _ d, z, ne, k _ _ (.inl rfl) e, mA, ⟨od, es, ep, k _ _ (.inr d) e2, c⟩, r⟩
  | own y => obtain ⟨ob, e⟩ := x; exact ⟨ob, k _ _ (.inl rfl) e⟩
  | xd fs => obtain ⟨mA, ⟨od, es, ep, e, c⟩, r⟩ := x; exact ⟨mA, ⟨od, es, ep, k _ _ (.inl rfl) e, c⟩, r⟩
  | rng lo hi => obtain ⟨t, u, v, e⟩ := x; exact ⟨t, u, v, k _ _ (.inl rfl) e⟩
  | frz ob u ih => obtain ⟨e, q⟩ := x; exact ⟨k _ _ (.inl rfl) e, ih q⟩
  | tbl ps =>
    have e : h.get? a = some { cls := .none, data := .fields ps } := x
    show h'.get? a = some { cls := .none, data := .fields ps }
    exact k a _ (.inl rfl) e
  | met f y =>
    have e : h.get? a = some (PySem.W.methodObj (.ref f) (.ref y)) := x
    show h'.get? a = some (PySem.W.methodObj (.ref f) (.ref y))
    exact k a _ (.inl rfl) e
  | ext φ => obtain ⟨p, ⟨o, e⟩, st⟩ := x; exact ⟨st _ _ p fun o q => k _ _ (.inl rfl) q, ⟨o, k _ _ (.inl rfl) e⟩, st⟩
theorem HOk.lt (x : HOk P w H h) (e : H a = some o) : a < h.objs.size := (x a o e).lt
theorem HOk.fresh (x : HOk P w H h) (e : h.objs.size ≤ a) : H a = none := by
  cases q : H a with
  | none => rfl
  | some u => exact absurd (Nat.lt_of_lt_of_le (x.lt q) e) (Nat.lt_irrefl _)
/-- every object of the heap is kept -/
theorem HOk.kept (x : HOk P w H h) (k : ∀ b u, h.get? b = some u → h'.get? b = some u) : HOk P w H h' := fun a o e =>
  (x a o e).stay (fun b u _ q => k b u q) (fun _ q => q) fun _ _ q => q
/-- a new object is laid and tracked -/
theorem HOk.laid (x : HOk P w H h) (k : ∀ b u, h.get? b = some u → h'.get? b = some u) (hp : h.objs.size ≤ a) (new : ObjOk P w (upd H a o) h' a o) : HOk P w (upd H a o) h' := fun b u e => by
  have hn := x.fresh hp
  by_cases hb : b = a
  · subst hb; rw [upd_same] at e; cases e; exact new
  · rw [upd_ne hb] at e
    exact (x b u e).stay (fun c v _ q => k c v q) (fun c q => by rw [upd_ne (ne_of_none q hn)]; exact q) fun c xs q => by rw [upd_ne (ne_of_none q hn)]; exact q
end

/-- what may be read as u: it is u, or a known u -/
def Rd (H : Hp) (a : Addr) (u : HO) : Prop := H a = some u ∨ ∃ o, H a = some (.frz o u)
theorem Rd.ok {P : Program} {w : World} {H : Hp} {h : Heap} {a : Addr} {u : HO} (r : Rd H a u) (x : HOk P w H h) : ObjOk P w H h a u := by
  rcases r with r | ⟨o, r⟩
  · exact x a u r
  · obtain ⟨_, q⟩ := x a _ r
    exact q
/-- what may be written -/
def Mut : Option HO → Prop
  | some (.lst _) => True
  | some (.dK _) => True
  | some (.dT _) => True
  | some (.set _ _) => True
  | some (.ins _ _ _) => True
  | some (.ext _) => True
  | _ => False
section
variable {P : Program} {w : World} {H : Hp} {h h' : Heap} {x e : Addr} {o' : HO}
/-- the object at e is changed: x itself, or the dict of the instance x -/
theorem HOk.write (ok : HOk P w H h) (mu : Mut (H x)) (he : e = x ∨ H e = some (.own x)) (k : ∀ b u, b ≠ e → h.get? b = some u → h'.get? b = some u) (heo : ∃ u, h'.get? e = some u)
    (new : ObjOk P w (upd H x o') h' x o') : HOk P w (upd H x o') h' := fun b u q => by
  have nown : ∀ c y, H c = some (.own y) → c ≠ x := fun c y r z => by subst z; rw [r] at mu; exact mu
  have ntup : ∀ c xs, H c = some (.tup xs) → c ≠ x := fun c xs r z => by subst z; rw [r] at mu; exact mu
  by_cases hb : b = x
  · subst hb; rw [upd_same] at q; cases q; exact new
  · rw [upd_ne hb] at q
    by_cases hbe : b = e
    · have q' : H b = some (.own x) := by
        rcases he with z | z
        · exact absurd (hbe.trans z) hb
        · rw [hbe]; exact z
      rw [q] at q'; cases q'
      obtain ⟨v, hv⟩ := heo
      exact ⟨v, by rw [hbe]; exact hv⟩
    · refine (ok b u q).stay (fun c v hc r => k c v ?_ r) (fun c r => by rw [upd_ne (nown c b r)]; exact r) fun c xs r => by rw [upd_ne (ntup c xs r)]; exact r
      rcases hc with rfl | hc
      · exact hbe
      · rintro rfl
        rcases he with z | z
        · exact nown c b hc z
        · rw [hc] at z; cases z; exact hb rfl
end

/-! ### kept unless tracked; of the frames at fs (the callers') the slots may change (an exception that passes writes there); of the records at ex (iterators) nothing is said -/
structure Un (fs ex : List Addr) (H H' : Hp) (h h' : Heap) : Prop where
  keep : ∀ b o, h.get? b = some o → H b = none → b ∉ fs → b ∉ ex → h'.get? b = some o
  slot : ∀ b o, h.get? b = some o → H b = none → b ∈ fs → b ∉ ex → ∃ sl, h'.get? b = some { o with slots := sl }
  free : ∀ b o, h.get? b = some o → H b = none → b ∉ ex → H' b = none
  there : ∀ b o, h.get? b = some o → b ∉ ex → ∃ o', h'.get? b = some o'
  tups : ∀ b xs, H b = some (.tup xs) → H' b = some (.tup xs)
  frzs : ∀ b o u, H b = some (.frz o u) → H' b = some (.frz o u)
  tbls : ∀ b ps, H b = some (.tbl ps) → ∃ more, H' b = some (.tbl (ps ++ more))
section
variable {fs fs' ex ex' : List Addr} {H H1 H2 : Hp} {h h1 h2 h' : Heap} {a x e : Addr} {o : HO}
theorem Un.any (u : Un fs ex H H1 h h1) {b : Addr} {ob : Obj} (q : h.get? b = some ob) (n : H b = none) (hx : b ∉ ex) : ∃ sl, h1.get? b = some { ob with slots := sl } := by
  by_cases hb : b ∈ fs
  · exact u.slot b ob q n hb hx
  · exact ⟨ob.slots, u.keep b ob q n hb hx⟩
theorem Un.trans (a : Un fs ex H H1 h h1) (b : Un fs ex H1 H2 h1 h2) : Un fs ex H H2 h h2 where
  keep := fun c ob q n hc hx => b.keep c ob (a.keep c ob q n hc hx) (a.free c ob q n hx) hc hx
  slot := fun c ob q n hc hx => by
    obtain ⟨sl, e1⟩ := a.slot c ob q n hc hx
    obtain ⟨sl', e2⟩ := b.slot c _ e1 (a.free c ob q n hx) hc hx
    exact ⟨sl', e2⟩
  free := fun c ob q n hx => by
    obtain ⟨o', e1⟩ := a.there c ob q hx
    exact b.free c o' e1 (a.free c ob q n hx) hx
  there := fun c ob q hx => by
    obtain ⟨o', e1⟩ := a.there c ob q hx
    exact b.there c o' e1 hx
  tups := fun c xs q => b.tups c xs (a.tups c xs q)
  frzs := fun c ob xs q => b.frzs c ob xs (a.frzs c ob xs q)
  tbls := fun c ps q => by
    obtain ⟨m1, e1⟩ := a.tbls c ps q
    obtain ⟨m2, e2⟩ := b.tbls c _ e1
    exact ⟨m1 ++ m2, by rw [e2, Array.append_assoc]⟩
theorem Un.kept (k : ∀ b u, h.get? b = some u → h'.get? b = some u) : Un fs ex H H h h' :=
  ⟨fun b ob q _ _ _ => k b ob q, fun b ob q _ _ _ => ⟨ob.slots, k b ob q⟩, fun _ _ _ n _ => n, fun b ob q _ => ⟨ob, k b ob q⟩, fun _ _ q => q, fun _ _ _ q => q, fun _ ps q => ⟨#[], by rw [q]; simp⟩⟩
theorem Un.refl : Un fs ex H H h h := Un.kept fun _ _ q => q
theorem Un.laid (k : ∀ b u, h.get? b = some u → h'.get? b = some u) (hp : h.objs.size ≤ a) (hn : H a = none) : Un fs ex H (upd H a o) h h' where
  keep := fun b u q _ _ _ => k b u q
  slot := fun b u q _ _ _ => ⟨u.slots, k b u q⟩
  free := fun b u q n _ => by rw [upd_ne (Nat.ne_of_lt (Nat.lt_of_lt_of_le (Heap.lt_size q) hp))]; exact n
  there := fun b u q _ => ⟨u, k b u q⟩
  tups := fun b xs q => by rw [upd_ne (ne_of_none q hn)]; exact q
  frzs := fun b u xs q => by rw [upd_ne (ne_of_none q hn)]; exact q
  tbls := fun b ps q => ⟨#[], by rw [upd_ne (ne_of_none q hn), q]; simp⟩
theorem Un.write (mu : Mut (H x)) (he : e = x ∨ H e = some (.own x)) (k : ∀ b u, b ≠ e → h.get? b = some u → h'.get? b = some u) (heo : ∃ u, h'.get? e = some u) : Un fs ex H (upd H x o) h h' := by
  have hx : ∀ b, H b = none → b ≠ x := fun b n z => by subst z; rw [n] at mu; exact mu
  have hb : ∀ b, H b = none → b ≠ e := fun b n z => by
    subst z
    rcases he with r | r
    · exact hx b n r
    · rw [n] at r; cases r
  have hm : ∀ b u, H b = some u → ¬ Mut (some u) → b ≠ x := fun b u q nm z => by subst z; rw [q] at mu; exact nm mu
  refine ⟨fun b u q n _ _ => k b u (hb b n) q, fun b u q n _ _ => ⟨u.slots, k b u (hb b n) q⟩, fun b u q n _ => by rw [upd_ne (hx b n)]; exact n, fun b u q _ => ?_,
    fun b xs q => by rw [upd_ne (hm b _ q fun z => z)]; exact q, fun b u xs q => by rw [upd_ne (hm b _ q fun z => z)]; exact q, fun b ps q => ⟨#[], by rw [upd_ne (hm b _ q fun z => z), q]; simp⟩⟩
  by_cases hbe : b = e
  · subst hbe; exact heo
  · exact ⟨u, k b u hbe q⟩
theorem Un.mono (u : Un fs ex H H1 h h1) (hs : ∀ b ∈ fs, b ∈ fs') (hx : ∀ b ∈ ex, b ∈ ex') : Un fs' ex' H H1 h h1 :=
  ⟨fun b ob q n hb he => u.keep b ob q n (fun z => hb (hs b z)) fun z => he (hx b z), fun _ _ q n _ he => u.any q n fun z => he (hx _ z), fun b ob q n he => u.free b ob q n fun z => he (hx b z), fun b ob q he => u.there b ob q fun z => he (hx b z), u.tups, u.frzs, u.tbls⟩
end

/-! ### the heap without what is tracked -/
def trk (h : Heap) (H : Hp) : List Addr := (List.range h.objs.size).filter fun a => (H a).isSome
def hidT (h : Heap) (H : Hp) : Heap := PySem.W.hideAll h (trk h H)
theorem hidT_size (h : Heap) (H : Hp) : (hidT h H).objs.size = h.objs.size := PySem.W.hideAll_size _ _
theorem hidT_get {h : Heap} {H : Hp} {b : Addr} {o : Obj} (e : h.get? b = some o) (n : H b = none) : (hidT h H).get? b = some o :=
  PySem.W.hideAll_get _ e fun hm => by
    have q : (H b).isSome = true := (List.mem_filter.mp hm).2
    rw [n] at q; simp at q
theorem of_hidT {h : Heap} {H : Hp} {b : Addr} {o : Obj} (e : (hidT h H).get? b = some o) : h.get? b = some o ∧ H b = none := by
  have e' : h.get? b = some o := PySem.W.of_hideAll (trk h H) e
  refine ⟨e', ?_⟩
  cases q : H b with
  | none => rfl
  | some x =>
    have hm : b ∈ trk h H := List.mem_filter.mpr ⟨List.mem_range.mpr (Heap.lt_size e'), by simp [q]⟩
    have z : (hidT h H).get? b = none := PySem.W.hideAll_none (trk h H) hm
    rw [z] at e; cases e

/-! ### OpenK's ledger, filled with every new object but one -/
end L2

namespace L2
open PySem PySem.Spec PyProof.Rows

/-- the module's facts, over the base: the heap at the law's entry without what is tracked there -/
structure Mod (K : PySem.W.Frag) (mg : Str → Option Value) (base : Heap) : Prop where
  kin : K.In base
  glob : base.Ns mainGlobals mg
  blt : ∃ mb, base.Ns builtinsNs mb ∧ ∀ x : Str, x ≠ "__name__" → mb x = bootBuiltins x
  nolimit : base.NoLimit

/-- the context: a def's body (or a comprehension's block) running. base: fixed through the whole law; s₀, H₀: the entry; outer: the frames whose slots others may change (a def's callers); stack: all frames that run;
   ex: iterators that were made ahead of the entry and are walked here (a comprehension's); fn: the names whose cells were made at the entry (a def: all; a comprehension's block: its own); calm: not within an except suite; pn: pins that every state bears; xe: what is wanted of an exception that leaves the code -/
structure Cx where
  prog : Program
  w : World
  K : PySem.W.Frag
  mg : Str → Option Value
  base : Heap
  A : Around
  N : List Str
  s₀ : Shared
  H₀ : Hp
  env : Env
  outer : List Env
  stack : List Env
  ex : List Addr
  fn : Str → Bool
  calm : Bool
  pn : List (Addr × Obj)
  xe : Value → Shared → Prop
/-- the callers' frames -/
def frs (l : List Env) : List Addr := l.filterMap (·.frame)
abbrev Cx.fs (X : Cx) : List Addr := frs X.outer

def Vis (sc : Scope) (x : Str) : Prop := sc.names.lookup x = some .local ∨ sc.names.lookup x = some .cell ∨ sc.names.lookup x = some .free
def Loc (sc : Scope) (x : Str) : Prop := sc.names.lookup x = some .local ∨ sc.names.lookup x = some .cell
def Look (env : Env) (h : Heap) (m : Str → Option Value) (x : Str) (u : Value) : Prop :=
  (env.kindOf x = some .local ∧ m x = some u) ∨ ((env.kindOf x = some .cell ∨ env.kindOf x = some .free) ∧ ∃ c, env.cells.lookup x = some c ∧ h.IsCell c (some u))

structure Cx.Ok (X : Cx) : Prop where
  mod : Mod X.K X.mg X.base
  kind : X.env.scope.kind = .function
  glob : X.env.globals = mainGlobals
  blt : X.env.builtins = builtinsNs
  above : X.s₀.heap.objs.size ≤ X.env.locals
  inj : ∀ x y c, X.env.cells.lookup x = some c → X.env.cells.lookup y = some c → x = y
  has : ∀ x, (X.env.kindOf x = some .cell ∨ X.env.kindOf x = some .free) → ∃ c, X.env.cells.lookup x = some c
  cab : ∀ x c, X.fn x = true → X.env.cells.lookup x = some c → X.s₀.heap.objs.size ≤ c
  hd : X.calm = true → X.A.handled = none
  frames : X.A.frames = some X.stack
  stk : X.stack = X.outer ∨ (X.stack = X.env :: X.outer ∧ X.env.frame = some X.env.locals)
  exf : ∀ b ∈ X.ex, b ≠ X.env.locals ∧ ∀ x c, X.env.cells.lookup x = some c → c ≠ b
  bs : ∀ b o, X.base.get? b = some o → X.s₀.heap.get? b = some o ∧ X.H₀ b = none
  bsz : X.base.objs.size ≤ X.s₀.heap.objs.size
  noex : ∀ b o, X.base.get? b = some o → b ∉ X.ex
  exfs : ∀ b ∈ X.ex, b ∉ X.fs
  funs : X.s₀.heap.FunFrames X.base X.outer
  frf : ∀ b ∈ X.fs, X.H₀ b = none

structure Inv (X : Cx) (pins : List (Addr × Obj)) (σ : List (Option V)) (H : Hp) (s : Shared) : Prop where
  ok : X.Ok
  os : s.os = X.s₀.os
  bare : AllBare s.gens
  base : Un X.fs X.ex X.H₀ H X.s₀.heap s.heap
  loc : ∃ m, s.heap.Ns X.env.locals m ∧ ∀ (i : Nat) (x : Str) (v : V), X.N[i]? = some x → σ[i]? = some (some v) → Vis X.env.scope x → ∃ u, RelV v u ∧ Look X.env s.heap m x u
  cell : ∀ x c, X.env.cells.lookup x = some c → ∃ v, s.heap.IsCell c v
  free : H X.env.locals = none
  freeC : ∀ x c, X.env.cells.lookup x = some c → H c = none
  pin : ∀ p ∈ X.pn ++ pins, s.heap.get? p.1 = some p.2 ∧ H p.1 = none ∧ p.1 ≠ X.env.locals ∧ p.1 ∉ X.fs ∧ ∀ v, p.2.data ≠ .cell v
  hok : HOk X.prog X.w H s.heap
  len : σ.length = X.N.length

section
variable {X : Cx} {pins : List (Addr × Obj)} {σ : List (Option V)} {H H' : Hp} {s : Shared} {h' : Heap}

theorem Cx.Ok.nofr (ok : X.Ok) {b : Addr} {o : Obj} (e : X.base.get? b = some o) : b ∉ X.fs := fun hb => by
  have := (ok.funs.mem hb).1
  rw [e] at this; cases this
theorem Inv.bs (I : Inv X pins σ H s) : ∀ b o, X.base.get? b = some o → s.heap.get? b = some o ∧ H b = none := fun b o e =>
  ⟨I.base.keep b o (I.ok.bs b o e).1 (I.ok.bs b o e).2 (I.ok.nofr e) (I.ok.noex b o e), I.base.free b o (I.ok.bs b o e).1 (I.ok.bs b o e).2 (I.ok.noex b o e)⟩
theorem Inv.bk (I : Inv X pins σ H s) : ∀ b o, X.base.get? b = some o → s.heap.get? b = some o := fun b o e => (I.bs b o e).1
theorem Inv.mod (I : Inv X pins σ H s) : Mod X.K X.mg X.base := I.ok.mod
theorem Inv.kIn (I : Inv X pins σ H s) : X.K.In s.heap := I.ok.mod.kin.keeps I.bk
theorem Inv.lt (I : Inv X pins σ H s) : X.env.locals < s.heap.objs.size := let ⟨_, hn, _⟩ := I.loc; hn.lt
theorem Inv.sz (I : Inv X pins σ H s) : X.s₀.heap.objs.size ≤ s.heap.objs.size := Nat.le_trans I.ok.above (Nat.le_of_lt I.lt)
theorem Inv.nofs (I : Inv X pins σ H s) {a : Addr} (h : s.heap.objs.size ≤ a) : a ∉ X.fs := fun hb => by
  obtain ⟨_, o, ho, _⟩ := I.ok.funs.mem hb
  exact absurd (Nat.lt_of_lt_of_le (Heap.lt_size ho) (Nat.le_trans I.sz h)) (Nat.lt_irrefl _)
theorem Inv.cne (I : Inv X pins σ H s) : ∀ x c, X.env.cells.lookup x = some c → c ≠ X.env.locals := fun x c e z => by
  obtain ⟨v, o, ho, hd⟩ := I.cell x c e
  obtain ⟨m, ⟨o', es, ep, ho', hd', _⟩, _⟩ := I.loc
  rw [z, ho'] at ho; cases ho; rw [hd'] at hd; cases hd
theorem Inv.funs (I : Inv X pins σ H s) : s.heap.FunFrames X.base X.outer := by
  have all : ∀ (l : List Env), (∀ b ∈ frs l, b ∈ X.fs) → X.s₀.heap.FunFrames X.base l → s.heap.FunFrames X.base l := by
    intro l
    induction l with
    | nil => intro _ _; trivial
    | cons env r ih =>
      intro hs hl
      obtain ⟨hk, ⟨L, o, hf, hn, ho, hd⟩, hr⟩ := hl
      have hL : L ∈ X.fs := hs L (by unfold frs; rw [List.filterMap_cons, hf]; exact List.mem_cons_self)
      obtain ⟨sl, e⟩ := I.base.slot L o ho (I.ok.frf L hL) hL fun z => I.ok.exfs L z hL
      exact ⟨hk, ⟨L, _, hf, hn, e, hd⟩, ih (fun b hb => hs b (by unfold frs; rw [List.filterMap_cons, hf]; exact List.mem_cons_of_mem _ hb)) hr⟩
  exact all X.outer (fun _ hb => hb) I.ok.funs

/-- the frames that run, for a call -/
theorem Inv.stack (I : Inv X pins σ H s) : s.heap.FunFrames X.base X.stack := by
  rcases I.ok.stk with e | ⟨e, hf⟩
  · rw [e]; exact I.funs
  · rw [e]
    obtain ⟨m, hn, _⟩ := I.loc
    refine .cons (by rw [I.ok.kind]; decide) hf hn ?_ I.funs
    exact Heap.get?_none_of_le (Nat.le_trans I.ok.bsz I.ok.above)
theorem Inv.stkSub (I : Inv X pins σ H s) : ∀ b ∈ frs X.stack, b ∈ X.env.locals :: X.fs := fun b hb => by
  rcases I.ok.stk with e | ⟨e, hf⟩
  · rw [e] at hb; exact List.mem_cons_of_mem _ hb
  · rw [e] at hb
    unfold frs at hb
    rw [List.filterMap_cons, hf] at hb
    exact hb
theorem Inv.stkFree (I : Inv X pins σ H s) : ∀ b ∈ frs X.stack, H b = none := fun b hb => by
  rcases List.mem_cons.mp (I.stkSub b hb) with e | hb
  · rw [e]; exact I.free
  · obtain ⟨_, o, ho, _⟩ := I.ok.funs.mem hb
    exact I.base.free b o ho (I.ok.frf b hb) fun z => I.ok.exfs b z hb

/-- THE STEP: the untracked objects but the frame and the records at ch are kept (the callers' frames up to slots), the frame's map is kept, the new abstract heap is held -/
theorem Inv.step {g' : Array GenState} {t' : Nat} {d' : Drawn} {ch : List Addr} (I : Inv X pins σ H s)
    (hch : ∀ b ∈ ch, (b ∈ X.ex ∨ X.s₀.heap.objs.size ≤ b) ∧ b ≠ X.env.locals ∧ (∀ x c, X.env.cells.lookup x = some c → c ≠ b) ∧ ∀ p ∈ X.pn ++ pins, p.1 ≠ b)
    (keep : ∀ b o, b ≠ X.env.locals → b ∉ X.fs → b ∉ ch → s.heap.get? b = some o → H b = none → h'.get? b = some o)
    (slot : ∀ b o, b ≠ X.env.locals → b ∈ X.fs → b ∉ ch → s.heap.get? b = some o → H b = none → ∃ sl, h'.get? b = some { o with slots := sl }) (free : ∀ b o, b ∉ ch → s.heap.get? b = some o → H b = none → H' b = none)
    (there : ∀ b o, b ∉ ch → s.heap.get? b = some o → ∃ o', h'.get? b = some o')
    (tups : ∀ b xs, H b = some (.tup xs) → H' b = some (.tup xs)) (frzs : ∀ b o u, H b = some (.frz o u) → H' b = some (.frz o u)) (tbls : ∀ b ps, H b = some (.tbl ps) → ∃ more, H' b = some (.tbl (ps ++ more)))
    (ns : ∀ m, s.heap.Ns X.env.locals m → h'.Ns X.env.locals m) (hok : HOk X.prog X.w H' h') (hg : AllBare g') :
    Inv X pins σ H' { s with heap := h', gens := g', drawn := d', toks := t' } := by
  have neL : ∀ b o, X.s₀.heap.get? b = some o → b ≠ X.env.locals := fun b o e => Nat.ne_of_lt (Nat.lt_of_lt_of_le (Heap.lt_size e) I.ok.above)
  have neC : ∀ b o, X.s₀.heap.get? b = some o → b ∉ X.ex → b ∉ ch := fun b o e hx hb => by
    rcases (hch b hb).1 with z | z
    · exact hx z
    · exact absurd (Nat.lt_of_lt_of_le (Heap.lt_size e) z) (Nat.lt_irrefl _)
  have cellK : ∀ x c, X.env.cells.lookup x = some c → ∀ v, s.heap.IsCell c v → h'.IsCell c v := fun x c e v ⟨o, ho, hd⟩ => by
    have nch : c ∉ ch := fun z => (hch c z).2.2.1 x c e rfl
    by_cases hc : c ∈ X.fs
    · obtain ⟨sl, q⟩ := slot c o (I.cne x c e) hc nch ho (I.freeC x c e)
      exact ⟨_, q, hd⟩
    · exact ⟨o, keep c o (I.cne x c e) hc nch ho (I.freeC x c e), hd⟩
  refine ⟨I.ok, I.os, hg, ⟨fun b o e n hb hx => ?_, fun b o e n hb hx => ?_, fun b o e n hx => ?_, fun b o e hx => ?_, fun b xs e => tups b xs (I.base.tups b xs e), fun b o xs e => frzs b o xs (I.base.frzs b o xs e), fun b ps e => ?_⟩, ?_, fun x c e => ?_, ?_, fun x c e => ?_, fun p hp => ?_, hok, I.len⟩
  · exact keep b o (neL b o e) hb (neC b o e hx) (I.base.keep b o e n hb hx) (I.base.free b o e n hx)
  · obtain ⟨sl, e1⟩ := I.base.slot b o e n hb hx
    obtain ⟨sl', e2⟩ := slot b _ (neL b o e) hb (neC b o e hx) e1 (I.base.free b o e n hx)
    exact ⟨sl', e2⟩
  · obtain ⟨o', e1⟩ := I.base.there b o e hx
    exact free b o' (neC b o e hx) e1 (I.base.free b o e n hx)
  · obtain ⟨o', e1⟩ := I.base.there b o e hx
    exact there b o' (neC b o e hx) e1
  · obtain ⟨m1, e1⟩ := I.base.tbls b ps e
    obtain ⟨m2, e2⟩ := tbls b _ e1
    exact ⟨m1 ++ m2, by rw [e2, Array.append_assoc]⟩
  · obtain ⟨m, hn, hl⟩ := I.loc
    refine ⟨m, ns m hn, fun i x v e1 e2 e3 => ?_⟩
    obtain ⟨u, r, l⟩ := hl i x v e1 e2 e3
    refine ⟨u, r, ?_⟩
    rcases l with l | ⟨k, c, e, z⟩
    · exact .inl l
    · exact .inr ⟨k, c, e, cellK x c e _ z⟩
  · obtain ⟨v, z⟩ := I.cell x c e
    exact ⟨v, cellK x c e v z⟩
  · obtain ⟨m, ⟨o, _, _, ho, _⟩, _⟩ := I.loc
    exact free _ o (fun z => (hch _ z).2.1 rfl) ho I.free
  · obtain ⟨v, o, ho, hd⟩ := I.cell x c e
    exact free c o (fun z => (hch c z).2.2.1 x c e rfl) ho (I.freeC x c e)
  · obtain ⟨e, n, ne, nf, d⟩ := I.pin p hp
    have nch : p.1 ∉ ch := fun z => (hch p.1 z).2.2.2 p hp rfl
    exact ⟨keep p.1 p.2 ne nf nch e n, free p.1 p.2 nch e n, ne, nf, d⟩
/-- .. where the frame's own object is kept too -/
theorem Inv.un {t' : Nat} (I : Inv X pins σ H s) (u : Un X.fs [] H H' s.heap h') (hok : HOk X.prog X.w H' h') : Inv X pins σ H' { s with heap := h', toks := t' } := by
  obtain ⟨m, ⟨o, es, ep, ho, r⟩, _⟩ := id I.loc
  obtain ⟨sl, hL⟩ := u.any ho I.free (by simp)
  exact I.step (g' := s.gens) (d' := s.drawn) (ch := []) (fun _ z => nomatch z) (fun b o _ hb _ e n => u.keep b o e n hb (by simp)) (fun b o _ hb _ e n => u.slot b o e n hb (by simp)) (fun b o _ e n => u.free b o e n (by simp)) (fun b o _ e => u.there b o e (by simp)) u.tups u.frzs u.tbls (fun m' hm => by
    obtain ⟨o', es', ep', ho', r'⟩ := hm
    rw [ho] at ho'; cases ho'
    exact ⟨_, es', ep', hL, r'⟩) hok I.bare
/-- behind a call (or a comprehension's block): the slots of this frame may have changed too, the records at ch may have turned -/
theorem Inv.call {g' : Array GenState} {t' : Nat} {d' : Drawn} {ch : List Addr} (I : Inv X pins σ H s) (u : Un (frs X.stack) ch H H' s.heap h') (hok : HOk X.prog X.w H' h') (hg : AllBare g')
    (hch : ∀ b ∈ ch, (b ∈ X.ex ∨ X.s₀.heap.objs.size ≤ b) ∧ b ≠ X.env.locals ∧ (∀ x c, X.env.cells.lookup x = some c → c ≠ b) ∧ ∀ p ∈ X.pn ++ pins, p.1 ≠ b) :
    Inv X pins σ H' { s with heap := h', gens := g', drawn := d', toks := t' } := by
  obtain ⟨m, ⟨o, es, ep, ho, r⟩, _⟩ := id I.loc
  obtain ⟨sl, hL⟩ := u.any ho I.free fun z => (hch _ z).2.1 rfl
  exact I.step (ch := ch) hch (fun b o hL hb hc e n => u.keep b o e n (fun z => (List.mem_cons.mp (I.stkSub b z)).elim hL hb) hc) (fun b o _ _ hc e n => u.any e n hc) (fun b o hc e n => u.free b o e n hc) (fun b o hc e => u.there b o e hc) u.tups u.frzs u.tbls (fun m' hm => by
    obtain ⟨o', es', ep', ho', r'⟩ := hm
    rw [ho] at ho'; cases ho'
    exact ⟨_, es', ep', hL, r'⟩) hok hg
/-- an untracked record of ours (an iterator) has turned -/
theorem Inv.turned {t' : Nat} {it : Addr} (I : Inv X pins σ H s) (k : ∀ b o, b ≠ it → s.heap.get? b = some o → h'.get? b = some o) (hn : H it = none) (hL : it ≠ X.env.locals)
    (h1 : it ∈ X.ex ∨ X.s₀.heap.objs.size ≤ it) (h2 : ∀ x c, X.env.cells.lookup x = some c → c ≠ it) (h3 : ∀ p ∈ X.pn ++ pins, p.1 ≠ it) : Inv X pins σ H { s with heap := h', toks := t' } := by
  have nit : ∀ b u, H b = some u → b ≠ it := fun b u e z => by rw [z, hn] at e; cases e
  refine I.step (g' := s.gens) (d' := s.drawn) (ch := [it]) (fun b hb => ?_) (fun b o _ _ hc e _ => k b o (fun z => hc (by simp [z])) e) (fun b o _ _ hc e _ => ⟨o.slots, k b o (fun z => hc (by simp [z])) e⟩) (fun _ _ _ _ n => n)
    (fun b o hc e => ⟨o, k b o (fun z => hc (by simp [z])) e⟩) (fun _ _ e => e) (fun _ _ _ e => e) (fun b ps e => ⟨#[], by rw [e]; simp⟩) (fun m hm => ?_) (fun b u e => ?_) I.bare
  · have e : b = it := by simpa using hb
    subst e
    exact ⟨h1, hL, h2, h3⟩
  · obtain ⟨o, es, ep, ho, r⟩ := hm
    exact ⟨o, es, ep, k _ o (Ne.symm hL) ho, r⟩
  · refine (I.hok b u e).stay (fun c v hc q => k c v ?_ q) (fun _ q => q) fun _ _ q => q
    rcases hc with z | z
    · rw [z]; exact nit b u e
    · exact nit c _ z
theorem Inv.tok (I : Inv X pins σ H s) (t : Nat) : Inv X pins σ H { s with toks := t } := I.un (h' := s.heap) (t' := t) Un.refl I.hok
/-- all objects kept -/
theorem Inv.kept {t' : Nat} (I : Inv X pins σ H s) (k : ∀ b u, s.heap.get? b = some u → h'.get? b = some u) : Inv X pins σ H { s with heap := h', toks := t' } := I.un (Un.kept k) (I.hok.kept k)
/-- a new object laid and tracked -/
theorem Inv.laid {a : Addr} {o : HO} {t' : Nat} (I : Inv X pins σ H s) (k : ∀ b u, s.heap.get? b = some u → h'.get? b = some u) (hp : s.heap.objs.size ≤ a) (new : ObjOk X.prog X.w (upd H a o) h' a o) :
    Inv X pins σ (upd H a o) { s with heap := h', toks := t' } := I.un (Un.laid k hp (I.hok.fresh hp)) (I.hok.laid k hp new)
/-- an object written -/
theorem Inv.write {x e : Addr} {o : HO} {t' : Nat} (I : Inv X pins σ H s) (mu : Mut (H x)) (he : e = x ∨ H e = some (.own x)) (k : ∀ b u, b ≠ e → s.heap.get? b = some u → h'.get? b = some u) (heo : ∃ u, h'.get? e = some u)
    (new : ObjOk X.prog X.w (upd H x o) h' x o) : Inv X pins σ (upd H x o) { s with heap := h', toks := t' } := I.un (Un.write mu he k heo) (I.hok.write mu he k heo new)
theorem Inv.pins_of {pins' : List (Addr × Obj)} (I : Inv X pins σ H s) (h : ∀ p ∈ pins', s.heap.get? p.1 = some p.2 ∧ H p.1 = none ∧ p.1 ≠ X.env.locals ∧ p.1 ∉ X.fs ∧ ∀ v, p.2.data ≠ .cell v) : Inv X pins' σ H s :=
  ⟨I.ok, I.os, I.bare, I.base, I.loc, I.cell, I.free, I.freeC, fun p hp => (List.mem_append.mp hp).elim (fun z => I.pin p (List.mem_append_left _ z)) (h p), I.hok, I.len⟩

theorem nodup_ix {N : List Str} (hN : N.Nodup) {i j : Nat} {x : Str} (a : N[i]? = some x) (b : N[j]? = some x) : i = j := by
  obtain ⟨h1, e1⟩ := List.getElem?_eq_some_iff.mp a
  obtain ⟨h2, e2⟩ := List.getElem?_eq_some_iff.mp b
  exact (List.getElem_inj hN).mp (e1.trans e2.symm)

/-- a name is stored; what changed -/
theorem store_ok2 {M : Model} {A : Around} {E : Value → Shared → Prop} {i : Nat} {x : Str} {v : V} {u : Value} {Q : Unit → Shared → Prop} (I : Inv X pins σ H s) (hN : X.N.Nodup) (hi : X.N[i]? = some x) (hx : Loc X.env.scope x) (r : RelV v u)
    (h : ∀ s', Inv X pins (σ.set i (some v)) H s' → (∃ a, Heap.SameBut a s.heap s'.heap ∧ (a = X.env.locals ∨ X.env.cells.lookup x = some a)) → Q () s') (hf : X.fn x = true ∨ X.env.scope.names.lookup x = some .local := by first | exact .inl rfl | exact .inr rfl | assumption) : wpAny M A (storeName X.env x u) Q E s := by
  obtain ⟨m, hn, hl⟩ := id I.loc
  have hcls : (X.env.scope.kind == .class || (X.env.scope.kind == .module && X.env.locals != X.env.globals)) = false := by rw [I.ok.kind]; rfl
  have hiσ : i < σ.length := by rw [I.len]; exact (List.getElem?_eq_some_iff.mp hi).1
  have cne := I.cne
  have tracked : ∀ {a : Addr} {h' : Heap}, (∃ o, s.heap.get? a = some o ∧ H a = none) → Heap.SameBut a s.heap h' → HOk X.prog X.w H h' := fun {a h'} ha hs b ob e => by
    obtain ⟨_, _, hfree⟩ := ha
    refine (I.hok b ob e).stay (fun c w' hc q => (hs.2 c ?_).trans q) (fun _ q => q) fun _ _ q => q
    rintro rfl
    rcases hc with rfl | hc
    · rw [hfree] at e; cases e
    · rw [hfree] at hc; cases hc
  rcases hx with hk | hk
  · refine wpAny_storeName_local hk hn (fun h' hn' hs => ?_) hcls
    obtain ⟨oL, _, _, hoL, _⟩ := id hn
    refine h _ ⟨I.ok, I.os, I.bare, ⟨fun b o e n hb hx => ?_, fun b o e n hb hx => ?_, I.base.free, fun b o e hx => ?_, I.base.tups, I.base.frzs, I.base.tbls⟩, ⟨_, hn', fun j y v' e1 e2 e3 => ?_⟩, fun y c e => ?_, I.free, I.freeC, fun p hp => ?_, tracked ⟨oL, hoL, I.free⟩ hs, by simpa using I.len⟩ ⟨_, hs, .inl rfl⟩
    · exact (hs.2 b (Nat.ne_of_lt (Nat.lt_of_lt_of_le (Heap.lt_size e) I.ok.above))).trans (I.base.keep b o e n hb hx)
    · obtain ⟨sl, e1⟩ := I.base.slot b o e n hb hx
      exact ⟨sl, (hs.2 b (Nat.ne_of_lt (Nat.lt_of_lt_of_le (Heap.lt_size e) I.ok.above))).trans e1⟩
    · obtain ⟨o', e1⟩ := I.base.there b o e hx
      exact ⟨o', (hs.2 b (Nat.ne_of_lt (Nat.lt_of_lt_of_le (Heap.lt_size e) I.ok.above))).trans e1⟩
    · by_cases hj : j = i
      · subst hj
        rw [hi] at e1; cases e1
        rw [List.getElem?_set_self hiσ] at e2
        cases e2
        exact ⟨u, r, .inl ⟨hk, by simp⟩⟩
      · rw [List.getElem?_set_ne (Ne.symm hj)] at e2
        obtain ⟨u', r', q⟩ := hl j y v' e1 e2 e3
        refine ⟨u', r', ?_⟩
        rcases q with ⟨k, e⟩ | ⟨k, c, e, z⟩
        · refine .inl ⟨k, ?_⟩
          have : y ≠ x := fun e => hj (nodup_ix hN e1 (e ▸ hi))
          simp [this, e]
        · exact .inr ⟨k, c, e, z.sameBut hs (cne y c e)⟩
    · obtain ⟨w', z⟩ := I.cell y c e
      exact ⟨w', z.sameBut hs (cne y c e)⟩
    · obtain ⟨e, n, ne, nf, d⟩ := I.pin p hp
      exact ⟨(hs.2 p.1 ne).trans e, n, ne, nf, d⟩
  · have hfn : X.fn x = true := by
      rcases hf with z | z
      · exact z
      · rw [z] at hk; cases hk
    obtain ⟨c, hc⟩ := I.ok.has x (.inl hk)
    obtain ⟨w', z⟩ := I.cell x c hc
    refine wpAny_storeName_cell I.ok.kind hk hc z (fun h' hc' hs => ?_)
    obtain ⟨oc, hoc, hocd⟩ := id z
    refine h { s with heap := h' } ⟨I.ok, I.os, I.bare, ⟨fun b o e n hb hx => ?_, fun b o e n hb hx => ?_, I.base.free, fun b o e hx => ?_, I.base.tups, I.base.frzs, I.base.tbls⟩, ⟨m, hn.sameBut hs (Ne.symm (cne x c hc)), fun j y v' e1 e2 e3 => ?_⟩, fun y c' e => ?_, I.free, I.freeC, fun p hp => ?_, tracked ⟨oc, hoc, I.freeC x c hc⟩ hs, by simpa using I.len⟩ ⟨c, hs, .inr hc⟩
    · exact (hs.2 b (Nat.ne_of_lt (Nat.lt_of_lt_of_le (Heap.lt_size e) (I.ok.cab x c hfn hc)))).trans (I.base.keep b o e n hb hx)
    · obtain ⟨sl, e1⟩ := I.base.slot b o e n hb hx
      exact ⟨sl, (hs.2 b (Nat.ne_of_lt (Nat.lt_of_lt_of_le (Heap.lt_size e) (I.ok.cab x c hfn hc)))).trans e1⟩
    · obtain ⟨o', e1⟩ := I.base.there b o e hx
      exact ⟨o', (hs.2 b (Nat.ne_of_lt (Nat.lt_of_lt_of_le (Heap.lt_size e) (I.ok.cab x c hfn hc)))).trans e1⟩
    · by_cases hj : j = i
      · subst hj
        rw [hi] at e1; cases e1
        rw [List.getElem?_set_self hiσ] at e2
        cases e2
        exact ⟨u, r, .inr ⟨.inl hk, c, hc, hc'⟩⟩
      · rw [List.getElem?_set_ne (Ne.symm hj)] at e2
        obtain ⟨u', r', q⟩ := hl j y v' e1 e2 e3
        refine ⟨u', r', ?_⟩
        rcases q with q | ⟨k, c', e, z'⟩
        · exact .inl q
        · refine .inr ⟨k, c', e, z'.sameBut hs ?_⟩
          rintro rfl
          exact hj (nodup_ix hN e1 (I.ok.inj _ _ _ e hc ▸ hi))
    · by_cases hcc : c' = c
      · subst hcc; exact ⟨_, hc'⟩
      · obtain ⟨w2, z2⟩ := I.cell y c' e
        exact ⟨w2, z2.sameBut hs hcc⟩
    · obtain ⟨e, n, ne, nf, d⟩ := I.pin p hp
      refine ⟨(hs.2 p.1 ?_).trans e, n, ne, nf, d⟩
      intro q
      rw [q, hoc] at e
      have q' : oc = p.2 := Option.some.inj e
      exact d w' (by rw [← q']; exact hocd)
theorem store_ok {M : Model} {A : Around} {E : Value → Shared → Prop} {i : Nat} {x : Str} {v : V} {u : Value} {Q : Unit → Shared → Prop} (I : Inv X pins σ H s) (hN : X.N.Nodup) (hi : X.N[i]? = some x) (hx : Loc X.env.scope x) (r : RelV v u)
    (h : ∀ s', Inv X pins (σ.set i (some v)) H s' → Q () s') (hf : X.fn x = true ∨ X.env.scope.names.lookup x = some .local := by first | exact .inl rfl | exact .inr rfl | assumption) : wpAny M A (storeName X.env x u) Q E s :=
  store_ok2 I hN hi hx r (fun s' I' _ => h s' I') hf
/-- behind a call or a block, the state as it is -/
theorem Inv.call' {s' : Shared} {ch : List Addr} (I : Inv X pins σ H s) (ho : s'.os = s.os) (u : Un (frs X.stack) ch H H' s.heap s'.heap) (hok : HOk X.prog X.w H' s'.heap) (hg : AllBare s'.gens)
    (hch : ∀ b ∈ ch, (b ∈ X.ex ∨ X.s₀.heap.objs.size ≤ b) ∧ b ≠ X.env.locals ∧ (∀ x c, X.env.cells.lookup x = some c → c ≠ b) ∧ ∀ p ∈ X.pn ++ pins, p.1 ≠ b) : Inv X pins σ H' s' := by
  obtain ⟨h', g', d', t', o'⟩ := s'
  have e : o' = s.os := ho
  subst e
  exact I.call (g' := g') (t' := t') (d' := d') u hok hg hch
end

/-! ### the judgements -/
/-- an exception: its class, its own dict's address (where it has one), the abstract heap behind it -/
abbrev XK := Value → Option Addr → Hp → Prop
abbrev St := List (Option V)
abbrev VK := V → Hp → Prop
/-- an expression's reading; a test's; an argument list's -/
abbrev TE := St → Hp → VK → Prop
abbrev TT := St → Hp → (Bool → Hp → Prop) → Prop
abbrev TA := St → Hp → (List V → Hp → Prop) → Prop
/-- what is wanted behind a statement -/
structure Ends where
  nx : St → Hp → Prop
  rt : VK
  bk : St → Hp → Prop := fun _ _ => False
  ct : St → Hp → Prop := fun _ _ => False
abbrev TS := Ends → St → Hp → Prop

def EP (X : Cx) (pins : List (Addr × Obj)) (σ : St) (Q : VK) (u : Value) (s' : Shared) : Prop := ∃ v H', Inv X pins σ H' s' ∧ RelV v u ∧ Q v H'
def TP (X : Cx) (pins : List (Addr × Obj)) (σ : St) (Q : Bool → Hp → Prop) (b : Bool) (s' : Shared) : Prop := ∃ H', Inv X pins σ H' s' ∧ Q b H'
def AP (X : Cx) (pins : List (Addr × Obj)) (σ : St) (Q : List V → Hp → Prop) (us : List Value) (s' : Shared) : Prop := ∃ vs H', Inv X pins σ H' s' ∧ Vals vs us ∧ Q vs H'
def SP (X : Cx) (pins : List (Addr × Obj)) (D : Ends) (f : Flow) (s' : Shared) : Prop :=
  match f with
  | .next => ∃ σ' H', Inv X pins σ' H' s' ∧ D.nx σ' H'
  | .brk => ∃ σ' H', Inv X pins σ' H' s' ∧ D.bk σ' H'
  | .cont => ∃ σ' H', Inv X pins σ' H' s' ∧ D.ct σ' H'
  | .ret u => ∃ v σ' H', Inv X pins σ' H' s' ∧ RelV v u ∧ D.rt v H'

def PE (X : Cx) (e : Expr) (t : TE) : Prop :=
  ∀ (pins : List (Addr × Obj)) (s : Shared) (σ : St) (H : Hp) (Q : VK), Inv X pins σ H s → t σ H Q → wpAny (model X.prog X.w) X.A (eval e X.env) (EP X pins σ Q) X.xe s
def PT (X : Cx) (e : Expr) (t : TT) : Prop :=
  ∀ (pins : List (Addr × Obj)) (s : Shared) (σ : St) (H : Hp) (Q : Bool → Hp → Prop), Inv X pins σ H s → t σ H Q → wpAny (model X.prog X.w) X.A (isTrue e X.env (eval e X.env)) (TP X pins σ Q) X.xe s
/-- a test whatever its 'whole' is (and, or) -/
def PW (X : Cx) (e : Expr) (t : TT) : Prop :=
  ∀ (whole : Sem Value) (pins : List (Addr × Obj)) (s : Shared) (σ : St) (H : Hp) (Q : Bool → Hp → Prop), Inv X pins σ H s → t σ H Q → wpAny (model X.prog X.w) X.A (isTrue e X.env whole) (TP X pins σ Q) X.xe s
theorem PW.pt {X : Cx} {e : Expr} {t : TT} (h : PW X e t) : PT X e t := h _
/-- an argument list (no star), from the left -/
def PA (X : Cx) (es : List Expr) (t : TA) : Prop :=
  ∀ (pos : Pos) (pins : List (Addr × Obj)) (s : Shared) (σ : St) (H : Hp) (Q : List V → Hp → Prop), Inv X pins σ H s → t σ H Q → wpAny (model X.prog X.w) X.A (spliced (backTo pos (starEach es X.env))) (AP X pins σ Q) X.xe s
def PS (X : Cx) (st : Stmt) (t : TS) : Prop :=
  ∀ (pins : List (Addr × Obj)) (s : Shared) (σ : St) (H : Hp) (D : Ends), Inv X pins σ H s → t D σ H → wpAny (model X.prog X.w) X.A (exec st X.env) (SP X pins D) X.xe s
def PSs (X : Cx) (st : List Stmt) (t : TS) : Prop :=
  ∀ (pins : List (Addr × Obj)) (s : Shared) (σ : St) (H : Hp) (D : Ends), Inv X pins σ H s → t D σ H → wpAny (model X.prog X.w) X.A (execs st X.env) (SP X pins D) X.xe s
/-- weaken the end -/
theorem thn {α : Type} {t : Sem α} {Q Q' : α → Shared → Prop} {M : Model} {A : Around} {E : Value → Shared → Prop} {s : Shared} (h : wpAny M A t Q E s) (hQ : ∀ a s, Q a s → Q' a s) : wpAny M A t Q' E s := wpAny_mono h hQ fun _ _ x => x
end L2

namespace L2
open PySem PySem.Spec PyProof.Rows
section
variable {X : Cx}


/-! ### names and constants -/
def tVar (i : Nat) : TE := fun σ H Q => ∃ v, σ[i]? = some (some v) ∧ Q v H
def tC (v : V) : TE := fun _ H Q => Q v H
theorem pe_var {i : Nat} {x : Str} {pos : Pos} (hN : X.N[i]? = some x) (hv : Vis X.env.scope x) (hd : (x == ("__debug__" : Str)) = false := by decide) (hcd : (x == ("__classdict__" : Str)) = false := by decide) : PE X (.Name x pos) (tVar i) := by
  intro pins s σ H Q I h
  obtain ⟨v, e, h⟩ := h
  obtain ⟨m, hn, hl⟩ := I.loc
  obtain ⟨u, r, l⟩ := hl i x v hN e hv
  have fin : EP X pins σ Q u s := ⟨v, H, I, r, h⟩
  rcases l with ⟨hk, hm⟩ | ⟨hk, c, hc, hcell⟩
  · exact wpAny_Name (wpAny_loadName_local I.ok.kind hk hn hm fin) hd
  · rcases hk with hk | hk
    · exact wpAny_Name (wpAny_loadName_cell I.ok.kind hk hc hcell fin) hd
    · exact wpAny_Name (wpAny_loadName_free I.ok.kind hk hc hcell fin hcd) hd
theorem pe_int {i j pos} : PE X (.Constant (.int i) j pos) (tC (.int i)) := fun _ _ _ H _ I h => wpAny_Constant_int ⟨.int i, H, I.tok _, ⟨_, rfl⟩, h⟩
theorem pe_bl {b j pos} : PE X (.Constant (.bool b) j pos) (tC (.bl b)) := fun _ _ _ H _ I h => Constant_bool ⟨.bl b, H, I, rfl, h⟩
theorem pe_non {j pos} : PE X (.Constant .none j pos) (tC .non) := fun _ _ _ H _ I h => Constant_none ⟨.non, H, I, rfl, h⟩
theorem pe_str {x j pos} : PE X (.Constant (.str x) j pos) (tC (.str x)) := fun _ _ _ H _ I h => Calls.Constant_str ⟨.str x, H, I.tok _, ⟨_, rfl⟩, h⟩

/-- a global name of the def -/
def Gl (X : Cx) (x : Str) : Prop := X.env.kindOf x = some .globalImplicit
theorem ld_glob {E : Value → Shared → Prop} {pins : List (Addr × Obj)} {s : Shared} {σ : St} {H : Hp} {x : Str} {u : Value} {pos : Pos} {Q : Value → Shared → Prop} (I : Inv X pins σ H s) (hg : Gl X x) (hm : X.mg x = some u) (h : Q u s)
    (hd : (x == ("__debug__" : Str)) = false := by decide) : wpAny (model X.prog X.w) X.A (eval (.Name x pos) X.env) Q E s :=
  Calls.Name_function_global I.ok.kind hg (Calls.loadGlobal_global (by rw [I.ok.glob]; exact I.mod.glob.keeps I.bk) hm h) hd
theorem ld_blt {E : Value → Shared → Prop} {pins : List (Addr × Obj)} {s : Shared} {σ : St} {H : Hp} {x : Str} {u : Value} {pos : Pos} {Q : Value → Shared → Prop} (I : Inv X pins σ H s) (hg : Gl X x) (hm : X.mg x = none) (hv : bootBuiltins x = some u) (h : Q u s)
    (hn : x ≠ "__name__" := by decide) (hd : (x == ("__debug__" : Str)) = false := by decide) : wpAny (model X.prog X.w) X.A (eval (.Name x pos) X.env) Q E s := by
  obtain ⟨mb, h1, h2⟩ := I.mod.blt
  exact Calls.Name_function_global I.ok.kind hg (Calls.loadGlobal_builtin (by rw [I.ok.glob]; exact I.mod.glob.keeps I.bk) hm (by rw [I.ok.blt]; exact h1.keeps I.bk) ((h2 x hn).trans hv) h) hd
/-- a module's constant, a class, a function, as a value -/
theorem pe_glob {x : Str} {v : V} {u : Value} {pos : Pos} (hg : Gl X x) (hm : X.mg x = some u) (r : RelV v u) (hd : (x == ("__debug__" : Str)) = false := by decide) : PE X (.Name x pos) (tC v) :=
  fun _ _ _ H _ I h => ld_glob I hg hm ⟨v, H, I, r, h⟩ hd
theorem pe_bltn {x : Str} {v : V} {u : Value} {pos : Pos} (hg : Gl X x) (hm : X.mg x = none) (hv : bootBuiltins x = some u) (r : RelV v u) (hn : x ≠ "__name__" := by decide) (hd : (x == ("__debug__" : Str)) = false := by decide) : PE X (.Name x pos) (tC v) :=
  fun _ _ _ H _ I h => ld_blt I hg hm hv ⟨v, H, I, r, h⟩ hn hd

/-! ### arithmetic -/
variable {a b : Expr} {ta tb : TE} {pos : Pos}

/-! ### comparisons -/
def PC (X : Cx) (op : CmpOp) (a b : Expr) (t : TE) : Prop :=
  ∀ (pins : List (Addr × Obj)) (s : Shared) (σ : St) (H : Hp) (Q : VK), Inv X pins σ H s → t σ H Q →
    wpAny (model X.prog X.w) X.A (eval a X.env) (fun v s₁ => wpAny (model X.prog X.w) X.A (eval b X.env) (fun u s₂ => wpAny (model X.prog X.w) X.A (compareOp op v u) (EP X pins σ Q) X.xe s₂) X.xe s₁) X.xe s
/-- a comparison as a value, as a test -/
def tB (t : TE) : TT := fun σ H Q => t σ H fun x H1 => ∃ c, x = .bl c ∧ Q c H1
theorem pt_cmp {op : CmpOp} {t : TE} (h : PC X op a b t) (h1 : behindInMarks op b = false := by first | exact nobehind _ (by decide) (by decide) | rfl) : PT X (.Compare a [op] [b] pos) (tB t) := by
  intro pins s σ H Q I hw
  refine wpAny_isTrue_Compare1 (thn (h pins s σ H _ I hw) fun v s1 h1 => thn h1 fun u s2 h2 => thn h2 fun c s3 ⟨x, H1, I1, r1, q1⟩ => ?_) h1
  obtain ⟨d, rfl, q⟩ := q1
  cases r1
  exact wpAny_truthy_bool ⟨H1, I1, q⟩
/-- an expression whose value is a bool, as a test -/
theorem pt_val {e : Expr} {t : TE} (h : PE X e t) (he : ∀ whole, isTrue e X.env whole = (do let v ← whole; standAt e.pos; holding [v] (truthy v)) := by intro _; rfl) : PT X e (tB t) := by
  intro pins s σ H Q I hw
  refine isTrue_plain (thn (h pins s σ H _ I hw) fun v s1 ⟨x, H1, I1, r1, q1⟩ => ?_) (he _)
  obtain ⟨d, rfl, q⟩ := q1
  cases r1
  exact wpAny_truthy_bool ⟨H1, I1, q⟩

/-! ### and, or, not -/
variable {tA tB' : TT} {rest : List Expr}
def tAnd (t u : TT) : TT := fun σ H Q => t σ H fun c H1 => if c = true then u σ H1 Q else Q false H1
def tOr (t u : TT) : TT := fun σ H Q => t σ H fun c H1 => if c = true then Q true H1 else u σ H1 Q
def tNot (t : TT) : TT := fun σ H Q => t σ H fun c H1 => Q (!c) H1
theorem pw_and1 (ha : PT X a tA) : PW X (.BoolOp .And [a] pos) tA := by
  intro wh pins s σ H Q I h
  refine isTrue_and (thn (ha pins s σ H Q I h) fun c s1 e => ?_)
  cases c with
  | true => exact isTrue_and_nil e
  | false => exact e
theorem pw_or1 (ha : PT X a tA) : PW X (.BoolOp .Or [a] pos) tA := by
  intro wh pins s σ H Q I h
  refine isTrue_or (thn (ha pins s σ H Q I h) fun c s1 e => ?_)
  cases c with
  | false => exact isTrue_or_nil e
  | true => exact e
theorem pw_and (ha : PT X a tA) (hb : PW X (.BoolOp .And (b :: rest) pos) tB') : PW X (.BoolOp .And (a :: b :: rest) pos) (tAnd tA tB') := by
  intro wh pins s σ H Q I h
  refine isTrue_and (thn (ha pins s σ H _ I h) fun c s1 ⟨H1, I1, q1⟩ => ?_)
  cases c with
  | true => exact hb wh pins s1 σ H1 Q I1 q1
  | false => exact ⟨H1, I1, q1⟩
theorem pw_or (ha : PT X a tA) (hb : PW X (.BoolOp .Or (b :: rest) pos) tB') : PW X (.BoolOp .Or (a :: b :: rest) pos) (tOr tA tB') := by
  intro wh pins s σ H Q I h
  refine isTrue_or (thn (ha pins s σ H _ I h) fun c s1 ⟨H1, I1, q1⟩ => ?_)
  cases c with
  | true => exact ⟨H1, I1, q1⟩
  | false => exact hb wh pins s1 σ H1 Q I1 q1
theorem pt_not (ha : PT X a tA) : PT X (.UnaryOp .Not a pos) (tNot tA) := by
  intro pins s σ H Q I h
  exact isTrue_not (ha pins s σ H (fun c H1 => Q (!c) H1) I h)
/-- .. as values (bools) -/
def tAndV (ta tb : TE) : TE := fun σ H Q => ta σ H fun x H1 => ∃ c, x = .bl c ∧ if c = true then tb σ H1 Q else Q (.bl false) H1
def tOrV (ta tb : TE) : TE := fun σ H Q => ta σ H fun x H1 => ∃ c, x = .bl c ∧ if c = true then Q (.bl true) H1 else tb σ H1 Q
def tNotV (ta : TE) : TE := fun σ H Q => ta σ H fun x H1 => ∃ c, x = .bl c ∧ Q (.bl (!c)) H1
theorem pe_one {op} {t : TE} (h : PE X a t) : PE X (.BoolOp op [a] pos) t := fun pins s σ H Q I hw => BoolOp_one (h pins s σ H Q I hw)
theorem pe_and (ha : PE X a ta) (hb : PE X (.BoolOp .And (b :: rest) pos) tb) : PE X (.BoolOp .And (a :: b :: rest) pos) (tAndV ta tb) := by
  intro pins s σ H Q I h
  refine BoolOp_and (thn (ha pins s σ H _ I h) fun v s1 ⟨x, H1, I1, r1, q1⟩ => ?_)
  obtain ⟨c, rfl, q1⟩ := q1
  cases r1
  refine wpAny_truthy_bool ?_
  cases c with
  | true => exact hb pins s1 σ H1 Q I1 q1
  | false => exact ⟨.bl false, H1, I1, rfl, q1⟩
theorem pe_or (ha : PE X a ta) (hb : PE X (.BoolOp .Or (b :: rest) pos) tb) : PE X (.BoolOp .Or (a :: b :: rest) pos) (tOrV ta tb) := by
  intro pins s σ H Q I h
  refine BoolOp_or (thn (ha pins s σ H _ I h) fun v s1 ⟨x, H1, I1, r1, q1⟩ => ?_)
  obtain ⟨c, rfl, q1⟩ := q1
  cases r1
  refine wpAny_truthy_bool ?_
  cases c with
  | false => exact hb pins s1 σ H1 Q I1 q1
  | true => exact ⟨.bl true, H1, I1, rfl, q1⟩
theorem pe_not (ha : PE X a ta) : PE X (.UnaryOp .Not a pos) (tNotV ta) := by
  intro pins s σ H Q I h
  refine UnaryOp_ (thn (ha pins s σ H _ I h) fun v s1 ⟨x, H1, I1, r1, q1⟩ => ?_)
  obtain ⟨c, rfl, q1⟩ := q1
  cases r1
  exact not_of (wpAny_truthy_bool ⟨.bl (!c), H1, I1, rfl, q1⟩)
/-- a if t else b -/
def tIf (t : TT) (ta tb : TE) : TE := fun σ H Q => t σ H fun c H1 => if c = true then ta σ H1 Q else tb σ H1 Q
theorem pe_ifExp {c : Expr} (hc : PT X c tA) (ha : PE X a ta) (hb : PE X b tb) : PE X (.IfExp c a b pos) (tIf tA ta tb) := by
  intro pins s σ H Q I h
  refine wpAny_IfExp (thn (hc pins s σ H _ I h) fun d s1 ⟨H1, I1, q1⟩ => ?_)
  cases d with
  | true => exact ha pins s1 σ H1 Q I1 q1
  | false => exact hb pins s1 σ H1 Q I1 q1
end
end L2

namespace L2
open PySem PySem.Spec PyProof.Rows

/-! ### a list, a tuple that is read: tracked, frozen, or an object of the module -/
def SqL (K : PySem.W.Frag) (H : Hp) (a : Addr) (xs : List V) : Prop :=
  Rd H a (.lst xs) ∨
    ∃ (o : Obj) (its : Array Value) (n : Nat), K.lookup a = some o ∧ o.cls = .type "list" ∧ o.dict = none ∧ o.data = .seq its n ∧ its.size ≤ sizeLine ∧ Vals xs its.toList
def SqT (K : PySem.W.Frag) (H : Hp) (a : Addr) (xs : List V) : Prop :=
  Rd H a (.tup xs) ∨
    ∃ (o : Obj) (its : Array Value) (n : Nat), K.lookup a = some o ∧ o.cls = .type "tuple" ∧ o.data = .seq its n ∧ its.size ≤ sizeLine ∧ Vals xs its.toList
def absV : Value → Option V
  | .none => some .non
  | .bool b => some (.bl b)
  | .int i _ => some (.int i)
  | .str x _ => some (.str x)
  | .bytes b _ => some (.byt b)
  | .float b _ => some (.flt b)
  | .ref a => some (.ref a)
  | .type n => some (.ty n)
  | _ => none
theorem RelV.abs {x : V} {u : Value} (r : RelV x u) : absV u = some x := by
  cases x with
  | non => cases r; rfl
  | bl _ => cases r; rfl
  | int _ => obtain ⟨t, rfl⟩ := r; rfl
  | str _ => obtain ⟨t, rfl⟩ := r; rfl
  | byt _ => obtain ⟨t, rfl⟩ := r; rfl
  | flt _ => obtain ⟨t, rfl⟩ := r; rfl
  | ref _ => cases r; rfl
  | ty _ => cases r; rfl
theorem RelV.inj {x y : V} {u : Value} (r : RelV x u) (q : RelV y u) : x = y := Option.some.inj (r.abs.symm.trans q.abs)
theorem Vals.inj : ∀ {xs ys : List V} {us : List Value}, Vals xs us → Vals ys us → xs = ys
  | _, _, _, .nil, .nil => rfl
  | _, _, _, .cons r t, .cons r' t' => by rw [r.inj r', Vals.inj t t']
section
variable {X : Cx} {pins : List (Addr × Obj)} {σ : St} {H : Hp} {s : Shared} {a : Addr} {xs ys : List V}
theorem SqL.of {K : PySem.W.Frag} (h : H a = some (.lst xs)) : SqL K H a xs := .inl (.inl h)
theorem SqT.of {K : PySem.W.Frag} (h : H a = some (.tup xs)) : SqT K H a xs := .inl (.inl h)
theorem Inv.list (I : Inv X pins σ H s) (h : SqL X.K H a xs) : ∃ its : List Value, Vals xs its ∧ PlainL s.heap a its.toArray ∧ xs.length ≤ sizeLine := by
  rcases h with h | ⟨o, its, n, hk, hc, hd, hs, hz, r⟩
  · obtain ⟨z, its, n, r, e⟩ := h.ok I.hok
    exact ⟨its, r, ⟨_, n, e, rfl, rfl, rfl⟩, z⟩
  · refine ⟨its.toList, r, ⟨o, n, I.kIn a o hk, hc, hd, by simpa using hs⟩, ?_⟩
    have e := r.length
    simp only [Array.length_toList] at e
    omega
theorem Inv.tuple (I : Inv X pins σ H s) (h : SqT X.K H a xs) : ∃ its : List Value, Vals xs its ∧ IsTup s.heap a its.toArray ∧ xs.length ≤ sizeLine := by
  rcases h with h | ⟨o, its, n, hk, hc, hs, hz, r⟩
  · obtain ⟨z, its, r, p⟩ := h.ok I.hok
    exact ⟨its, r, p, z⟩
  · refine ⟨its.toList, r, ⟨o, I.kIn a o hk, hc, n, by simpa using hs⟩, ?_⟩
    have e := r.length
    simp only [Array.length_toList] at e
    omega
theorem Inv.list_inj (I : Inv X pins σ H s) (h : SqL X.K H a xs) (h' : SqL X.K H a ys) : xs = ys := by
  obtain ⟨its, r, ⟨o, n, e, _, _, d⟩, _⟩ := I.list h
  obtain ⟨its', r', ⟨o', n', e', _, _, d'⟩, _⟩ := I.list h'
  rw [e] at e'; cases e'
  rw [d] at d'
  injection d' with d1 _
  have : its = its' := by simpa using congrArg Array.toList d1
  subst this
  exact r.inj r'
end

/-! ### another wish about exceptions -/
section
variable {X : Cx} {pins : List (Addr × Obj)} {σ : St} {H : Hp} {s : Shared} {E : Value → Shared → Prop}
end

/-! ### blocks and small statements -/
section
variable {X : Cx} {st : Stmt} {rest : List Stmt} {t u : TS} {e : Expr} {te : TE} {pos : Pos}
def tNext : TS := fun D σ H => D.nx σ H
def tSeq (t u : TS) : TS := fun D σ H => t { D with nx := u D } σ H
theorem pss_nil : PSs X [] tNext := fun _ _ σ H _ I h => wpAny_execs_nil ⟨σ, H, I, h⟩
theorem pss_cons (h1 : PS X st t) (h2 : PSs X rest u) : PSs X (st :: rest) (tSeq t u) := by
  intro pins s σ H D I h
  refine wpAny_execs_cons (thn (h1 pins s σ H { D with nx := u D } I h) fun f s1 q => ?_)
  cases f with
  | next =>
    obtain ⟨σ', H', I', q⟩ := q
    exact h2 pins s1 σ' H' D I' q
  | ret v => exact q
  | brk => exact q
  | cont => exact q
theorem pss_one (h1 : PS X st t) : PSs X [st] t := by
  intro pins s σ H D I h
  refine wpAny_execs_cons (thn (h1 pins s σ H D I h) fun f s1 q => ?_)
  cases f with
  | next => exact wpAny_execs_nil q
  | ret v => exact q
  | brk => exact q
  | cont => exact q
/-- in a def's body nothing is shown -/
theorem Inv.quiet {pins : List (Addr × Obj)} {σ : St} {H : Hp} {s : Shared} (I : Inv X pins σ H s) : interactive X.env = false := by simp [interactive, I.ok.kind]
/-- an expression whose value is dropped -/
def tDrop (te : TE) : TS := fun D σ H => te σ H fun _ H1 => D.nx σ H1
theorem ps_expr (he : PE X e te) (hs : swapsWith e none pos.line X.env = pure false := by rfl) : PS X (.Expr e pos) (tDrop te) := by
  intro pins s σ H D I h
  exact wpAny_Expr_any (thn (he pins s σ H _ I h) fun v s1 ⟨x, H1, I1, r1, q1⟩ => ⟨σ, H1, I1, q1⟩) I.quiet hs
def tRet (te : TE) : TS := fun D σ H => te σ H D.rt
theorem ps_ret (he : PE X e te) : PS X (.Return (some e) pos) (tRet te) := by
  intro pins s σ H D I h
  exact wpAny_Return_some (thn (he pins s σ H _ I h) fun v s1 ⟨x, H1, I1, r1, q1⟩ => ⟨x, σ, H1, I1, r1, q1⟩)
def tIfS (c : TT) (t u : TS) : TS := fun D σ H => c σ H fun b H1 => if b = true then t D σ H1 else u D σ H1
theorem ps_if {c : Expr} {a b : List Stmt} {tc : TT} (hc : PT X c tc) (ha : PSs X a t) (hb : PSs X b u) : PS X (.If c a b pos) (tIfS tc t u) := by
  intro pins s σ H D I h
  refine wpAny_If (thn (hc pins s σ H _ I h) fun d s1 ⟨H1, I1, q1⟩ => ?_)
  cases d with
  | true => exact ha pins s1 σ H1 D I1 q1
  | false => exact hb pins s1 σ H1 D I1 q1
end

/-! ### targets -/
abbrev TG := V → St → Hp → (St → Hp → Prop) → Prop
abbrev TGs := List V → St → Hp → (St → Hp → Prop) → Prop
def PG (X : Cx) (target : Expr) (t : TG) : Prop :=
  ∀ (pins : List (Addr × Obj)) (s : Shared) (σ : St) (H : Hp) (v : V) (u : Value) (Q : St → Hp → Prop), Inv X pins σ H s → RelV v u → t v σ H Q →
    wpAny (model X.prog X.w) X.A (assign target X.env u) (fun _ s' => ∃ σ' H', Inv X pins σ' H' s' ∧ Q σ' H') X.xe s
/-- several targets, one after another -/
def PGs (X : Cx) (ts : List Expr) (t : TGs) : Prop :=
  ∀ (pins : List (Addr × Obj)) (s : Shared) (σ : St) (H : Hp) (vs : List V) (us : List Value) (Q : St → Hp → Prop), Inv X pins σ H s → Vals vs us → t vs σ H Q →
    wpAny (model X.prog X.w) X.A (assignInOrder ((assignEach ts X.env).map (·.2)) us) (fun _ s' => ∃ σ' H', Inv X pins σ' H' s' ∧ Q σ' H') X.xe s
/-- o[i] = v, by values -/
abbrev TSet := V → V → V → Hp → (Hp → Prop) → Prop
def PSet (X : Cx) (t : TSet) : Prop :=
  ∀ (pins : List (Addr × Obj)) (s : Shared) (σ : St) (H : Hp) (o i v : V) (ov iv u : Value) (Q : Hp → Prop), Inv X pins σ H s → RelV o ov → RelV i iv → RelV v u → t o i v H Q →
    wpAny (model X.prog X.w) X.A (setItem ov iv u) (fun _ s' => ∃ H', Inv X pins σ H' s' ∧ Q H') X.xe s
section
variable {X : Cx} {pos : Pos}
def gName (i : Nat) : TG := fun v σ H Q => Q (σ.set i (some v)) H
theorem pg_name {i : Nat} {x : Str} (hN : X.N.Nodup) (hi : X.N[i]? = some x) (hx : Loc X.env.scope x) (hf : X.fn x = true ∨ X.env.scope.names.lookup x = some .local := by first | exact .inl rfl | exact .inr rfl | assumption) : PG X (.Name x pos) (gName i) := by
  intro pins s σ H v u Q I r h
  exact wpAny_assign_Name (store_ok I hN hi hx r (fun s' I' => ⟨_, H, I', h⟩) hf)
def gNil : TGs := fun vs σ H Q => vs = [] ∧ Q σ H
def gCons (t : TG) (u : TGs) : TGs := fun vs σ H Q => ∃ v r, vs = v :: r ∧ t v σ H fun σ' H' => u r σ' H' Q
theorem pgs_nil : PGs X [] gNil := by
  intro pins s σ H vs us Q I r h
  obtain ⟨e, h⟩ := h
  subst e
  cases r
  exact assignInOrder_nil ⟨σ, H, I, h⟩
theorem pgs_cons {e : Expr} {es : List Expr} {t : TG} {u : TGs} (h1 : PG X e t) (h2 : PGs X es u)
    (hs : (assignEach (e :: es) X.env).map (·.2) = assign e X.env :: (assignEach es X.env).map (·.2) := by rfl) : PGs X (e :: es) (gCons t u) := by
  intro pins s σ H vs us Q I r h
  obtain ⟨v, vr, e1, h⟩ := h
  subst e1
  cases r with
  | cons r rr =>
    rw [hs]
    refine assignInOrder_cons (thn (h1 pins s σ H _ _ _ I r h) fun _ s1 ⟨σ1, H1, I1, q1⟩ => ?_)
    exact h2 pins s1 σ1 H1 _ _ Q I1 rr q1
/-- (a, b, ..) = a tuple of that length -/
def gTup (K : PySem.W.Frag) (n : Nat) (t : TGs) : TG := fun v σ H Q => ∃ a xs, v = .ref a ∧ SqT K H a xs ∧ xs.length = n ∧ t xs σ H Q
theorem pg_tup {es : List Expr} {k : Nat} {t : TGs} {n : Nat} (hc : X.calm = true) (h : PGs X es t)
    (hn : (assignEach es X.env).length = n := by rfl) (hst : (assignEach es X.env).findIdx? (·.1) = none := by rfl) : PG X (.Tuple es k pos) (gTup X.K n t) := by
  intro pins s σ H v u Q I r hw
  obtain ⟨a, xs, e1, hq, hl, hw⟩ := hw
  subst e1
  cases r
  obtain ⟨its, rv, ht, hz⟩ := I.tuple hq
  refine assign_Tuple_tuple (I.ok.hd hc) ht (by simp [hn, ← hl, rv.length]) hst fun h' hx => ?_
  have I1 : Inv X pins σ H { s with heap := h' } := I.kept (t' := s.toks) fun b o e => hx b o (Nat.ne_of_lt (Heap.lt_size e)) e
  exact h pins _ σ H xs _ Q I1 (by simpa using rv) hw
/-- o[i] = .. -/
def gSub (to ti : TE) (t : TSet) : TG := fun v σ H Q => to σ H fun o H1 => ti σ H1 fun i H2 => t o i v H2 fun H3 => Q σ H3
theorem pg_sub {o i : Expr} {to ti : TE} {t : TSet} (ho : PE X o to) (hi : PE X i ti) (hs : PSet X t)
    (ha : ∀ v, assign (.Subscript o i pos) X.env v = (do
      let ov ← holding [v] (eval o X.env)
      let iv ← holding [v, ov] (eval i X.env)
      standAt pos
      holding [v, ov, iv] (setItem ov iv v)
      release [v, ov, iv] []) := by intro _; rfl) : PG X (.Subscript o i pos) (gSub to ti t) := by
  intro pins s σ H v u Q I r h
  rw [ha]
  refine wpAny_bind (wpAny_holding (thn (ho pins s σ H _ I h) fun ov s1 ⟨x, H1, I1, r1, q1⟩ => ?_))
  refine wpAny_bind (wpAny_holding (thn (hi pins s1 σ H1 _ I1 q1) fun iv s2 ⟨y, H2, I2, r2, q2⟩ => ?_))
  refine wpAny_bind (wpAny_standAt (wpAny_bind (wpAny_holding (thn (hs pins s2 σ H2 x y v ov iv u _ I2 r1 r2 r q2) fun _ s3 ⟨H3, I3, q3⟩ => ?_))))
  exact wpAny_release ⟨σ, H3, I3, q3⟩
/-- target = value -/
def tAsg (te : TE) (g : TG) : TS := fun D σ H => te σ H fun x H1 => g x σ H1 D.nx
theorem ps_asg {tg e : Expr} {te : TE} {g : TG} (he : PE X e te) (hg : PG X tg g) (hs : swapsWithSole [tg] e pos.line X.env = pure false := by rfl) (hw : swappedStores [tg] e X.env = pure none := by rfl)
    (h1 : (assignEach [tg] X.env).map (·.2) = [assign tg X.env] := by rfl) : PS X (.Assign [tg] e pos) (tAsg te g) := by
  intro pins s σ H D I h
  refine wpAny_Assign_stores (thn (he pins s σ H _ I h) fun v s1 ⟨x, H1, I1, r1, q1⟩ => ?_) hs hw
  rw [h1]
  exact thn (hg pins s1 σ H1 x v _ I1 r1 q1) fun _ s2 q => q
/-- name = value -/
theorem ps_set {i : Nat} {x : Str} {e : Expr} {te : TE} {pos' : Pos} (hN : X.N.Nodup) (hi : X.N[i]? = some x) (hx : Loc X.env.scope x) (he : PE X e te) (hs : swapsWith e (some (.Name x pos')) pos.line X.env = pure false := by rfl) (hf : X.fn x = true ∨ X.env.scope.names.lookup x = some .local := by first | exact .inl rfl | exact .inr rfl | assumption) :
    PS X (.Assign [.Name x pos'] e pos) (tAsg te (gName i)) := by
  intro pins s σ H D I h
  refine wpAny_Assign_Name (thn (he pins s σ H _ I h) fun v s1 ⟨y, H1, I1, r1, q1⟩ => ?_) hs
  exact store_ok I1 hN hi hx r1 (fun s2 I2 => ⟨_, H1, I2, q1⟩) hf
end

/-! ### while -/
section
variable {X : Cx} {pos : Pos}
/-- the invariant W with its measure -/
def tWhile (c : TT) (tb : TS) : TS := fun D σ H => ∃ W : Nat → St → Hp → Prop, (∃ m, W m σ H) ∧ ∀ m σ H, W m σ H →
  c σ H fun b H1 => if b = true then ∃ N : St → Hp → Prop, (∀ σ' H', N σ' H' → ∃ m', m' < m ∧ W m' σ' H') ∧ tb { D with nx := N, ct := N, bk := D.nx } σ H1 else D.nx σ H1
theorem ps_while {c : Expr} {body : List Stmt} {tc : TT} {tb : TS} (hp : PassesOwn (model X.prog X.w) X.A X.env X.xe) (hc : PT X c tc) (hb : PSs X body tb) : PS X (.While c body [] pos) (tWhile tc tb) := by
  intro pins s σ H D I h
  obtain ⟨W, ⟨m0, w0⟩, turn⟩ := h
  refine wpAny_While (codeAny_whileLoop (fun n s' => ∃ σ' H', Inv X pins σ' H' s' ∧ W n σ' H') ?_ m0 ⟨σ, H, I, w0⟩)
  rintro n s1 ⟨σ1, H1, I1, w1⟩
  refine wpAny_passesOwn hp (thn (hc pins s1 σ1 H1 _ I1 (turn n σ1 H1 w1)) fun b s2 ⟨H2, I2, q2⟩ => ?_)
  cases b with
  | true =>
    obtain ⟨N, hN, q2⟩ := q2
    rw [if_pos rfl]
    refine wpAny_passesOwn hp (thn (hb pins s2 σ1 H2 _ I2 q2) fun f s3 q3 => ?_)
    cases f with
    | next =>
      obtain ⟨σ3, H3, I3, n3⟩ := q3
      obtain ⟨m', hm, w3⟩ := hN σ3 H3 n3
      exact ⟨m', hm, σ3, H3, I3, w3⟩
    | cont =>
      obtain ⟨σ3, H3, I3, n3⟩ := q3
      obtain ⟨m', hm, w3⟩ := hN σ3 H3 n3
      exact ⟨m', hm, σ3, H3, I3, w3⟩
    | brk => exact q3
    | ret v => exact q3
  | false =>
    rw [if_neg Bool.false_ne_true]
    exact wpAny_execs_nil ⟨σ1, H2, I2, q2⟩
end

/-! ### what a loop or a comprehension walks -/
/-- at turn i: it yields x (the heap may grow), or it stops -/
structure It where
  go : Nat → Hp → Prop
  yld : Nat → Hp → V → Hp → Prop
  stop : Nat → Hp → Prop
/-- the iterator's own objects may turn: they are not the frame's, not pinned, younger than the entry (or a comprehension's own) -/
def FpOk (X : Cx) (pins : List (Addr × Obj)) (H : Hp) (b : Addr) : Prop :=
  H b = none ∧ b ≠ X.env.locals ∧ b ∉ X.fs ∧ (b ∈ X.ex ∨ X.s₀.heap.objs.size ≤ b) ∧ (∀ x c, X.env.cells.lookup x = some c → c ≠ b) ∧ ∀ p ∈ X.pn ++ pins, p.1 ≠ b
theorem Inv.fpOk {X : Cx} {pins : List (Addr × Obj)} {σ : St} {H H' : Hp} {s : Shared} {b : Addr} (I : Inv X pins σ H s) (hb : s.heap.objs.size ≤ b) (hn : H' b = none) : FpOk X pins H' b := by
  refine ⟨hn, Nat.ne_of_gt (Nat.lt_of_lt_of_le I.lt hb), I.nofs hb, .inr (Nat.le_trans I.sz hb), fun x c e z => ?_, fun p hp z => ?_⟩
  · obtain ⟨v, q⟩ := I.cell x c e
    exact absurd (Nat.lt_of_lt_of_le q.lt (by rw [z]; exact hb)) (Nat.lt_irrefl _)
  · exact absurd (Nat.lt_of_lt_of_le (Heap.lt_size (I.pin p hp).1) (by rw [z]; exact hb)) (Nat.lt_irrefl _)
structure Turn (P : Program) (w : World) (K : PySem.W.Frag) (tg : Expr) (J : It) (fp : List Addr) (it : Addr) (tn : Nat → Heap → Prop) : Prop where
  mem : it ∈ fp
  obj : ∀ i h, tn i h → ∀ b ∈ fp, ∃ o, h.get? b = some o ∧ ∀ v, o.data ≠ .cell v
  keep : ∀ i h h', tn i h → (∀ b ∈ fp, ∀ o, h.get? b = some o → h'.get? b = some o) → tn i h'
  item : ∀ (X : Cx), X.prog = P → X.w = w → X.K = K → X.calm = true → ∀ (i : Nat) (pins : List (Addr × Obj)) (s : Shared) (σ : St) (H : Hp) (E : Value → Shared → Prop), Inv X pins σ H s → (∀ b ∈ fp, FpOk X pins H b) → tn i s.heap → J.go i H →
    wpAny (model P w) X.A (pyNext (.ref it)) (fun r s1 => ∃ u, r = some u ∧
      wpAny (model P w) X.A (letOwnedTupleGo tg (.ref it) u) (fun _ s2 => ∃ x H', Inv X pins σ H' s2 ∧ RelV x u ∧ J.yld i H x H' ∧ tn (i + 1) s2.heap ∧ ∀ b ∈ fp, H' b = none) E s1) E s
  done : ∀ (X : Cx), X.prog = P → X.w = w → X.K = K → X.calm = true → ∀ (i : Nat) (pins : List (Addr × Obj)) (s : Shared) (σ : St) (H : Hp) (E : Value → Shared → Prop), Inv X pins σ H s → (∀ b ∈ fp, FpOk X pins H b) → tn i s.heap → J.stop i H →
    wpAny (model P w) X.A (pyNext (.ref it)) (fun r s1 => r = none ∧ Inv X pins σ H s1) E s
  self : ∀ (A : Around) (i : Nat) (s : Shared) (Q : Value → Shared → Prop) (E : Value → Shared → Prop), tn i s.heap → Q (.ref it) s → wpAny (model P w) A (pyIter (.ref it)) Q E s
abbrev TI := St → Hp → (It → Hp → Prop) → Prop
/-- an iterator has come -/
def PIE (X : Cx) (pins : List (Addr × Obj)) (σ : St) (tg : Expr) (R : It → Hp → Prop) (itv : Value) (s2 : Shared) : Prop :=
  ∃ (it : Addr) (fp : List Addr) (tn : Nat → Heap → Prop) (J : It) (H' : Hp), itv = .ref it ∧ Inv X pins σ H' s2 ∧ Turn X.prog X.w X.K tg J fp it tn ∧ tn 0 s2.heap ∧ (∀ b ∈ fp, FpOk X pins H' b) ∧ R J H'
def PI (X : Cx) (tg iter : Expr) (wi : TI) : Prop :=
  ∀ (pins : List (Addr × Obj)) (s : Shared) (σ : St) (H : Hp) (R : It → Hp → Prop), Inv X pins σ H s → wi σ H R →
    wpAny (model X.prog X.w) X.A (eval iter X.env) (fun v s1 => wpAny (model X.prog X.w) X.A (pyIter v) (PIE X pins σ tg R) X.xe s1) X.xe s

/-- the step ahead of the store is nothing for an iterator that keeps no tuple -/
theorem go_of {M : Model} {A : Around} {E : Value → Shared → Prop} {s : Shared} {tg : Expr} {it : Addr} {u : Value} {o : Obj} {n : String} {vs : Array Value} {Q : Unit → Shared → Prop} (ho : s.heap.get? it = some o) (hc : o.cls = .type n) (hd : o.data = .fields vs)
    (hn : ["enumerate", "zip", "dict_itemiterator", "dict_reverseitemiterator", "odict_iterator", "itertools.zip_longest", "itertools.pairwise"].contains n = false) (hQ : Q () s) : wpAny M A (letOwnedTupleGo tg (.ref it) u) Q E s := by
  unfold letOwnedTupleGo
  cases tg <;> first
    | exact wpAny_pure hQ
    | (cases u <;> first
        | exact wpAny_pure hQ
        | (refine wpAny_bind (wpAny_load ho ?_)
           rw [hc, hd]
           show wpAny M A (if (["enumerate", "zip", "dict_itemiterator", "dict_reverseitemiterator", "odict_iterator", "itertools.zip_longest", "itertools.pairwise"].contains n && vs[0]? == some (rawInt _)) = true then _ else _) Q E s
           rw [if_neg (by intro h; rw [hn, Bool.false_and] at h; cases h)]
           exact wpAny_pure hQ))

/-- the list at a, as it stands at each turn (a loop may append to it) -/
def Itl (K : PySem.W.Frag) (a : Addr) : It :=
  ⟨fun i H => ∃ xs x, SqL K H a xs ∧ xs[i]? = some x, fun i H x H' => H' = H ∧ ∀ xs, SqL K H a xs → xs[i]? = some x, fun i H => ∃ xs, SqL K H a xs ∧ xs.length ≤ i⟩
/-- lo, lo + 1, .. (n of them) -/
def Itr (lo : Int) (n : Nat) : It := ⟨fun i _ => i < n, fun i H x H' => H' = H ∧ x = .int (lo + i), fun i _ => n ≤ i⟩
theorem turn_list {P : Program} {w : World} {K : PySem.W.Frag} {tg : Expr} (a it : Addr) : Turn P w K tg (Itl K a) [it] it (fun i h => h.IsListIter it a i) where
  mem := by simp
  obj := fun i h st b hb => by
    have e : b = it := by simpa using hb
    subst e
    obtain ⟨o, e, c, d⟩ := st
    exact ⟨o, e, fun v z => by rw [d] at z; cases z⟩
  keep := fun i h h' st k => st.at fun o e => k it (by simp) o e
  item := by
    intro X hP hw hK hc i pins s σ H E I hf st hg
    subst hP hw hK
    obtain ⟨xs, x, hq, hx⟩ := hg
    obtain ⟨its, rv, p, hz⟩ := I.list hq
    obtain ⟨u, hu, ru⟩ := rv.get hx
    obtain ⟨f0, f1, f2, f3, f4, f5⟩ := hf it (by simp)
    refine wpAny_pyNext_list_item st p.isList (x := u) (by simpa using hu) fun h' st' sb => ?_
    have I1 : Inv X pins σ H { s with heap := h' } := I.turned (t' := s.toks) (fun b o hb e => (sb.2 b hb).trans e) f0 f1 f3 f4 f5
    obtain ⟨o, e, c, d⟩ := id st'
    exact ⟨u, rfl, go_of (s := { s with heap := h' }) e c d (by decide) ⟨x, H, I1, ru, ⟨rfl, fun ys hy => by rw [I.list_inj hy hq]; exact hx⟩, st', fun b hb => (hf b hb).1⟩⟩
  done := by
    intro X hP hw hK hc i pins s σ H E I hf st hg
    subst hP hw hK
    obtain ⟨xs, hq, hx⟩ := hg
    obtain ⟨its, rv, p, hz⟩ := I.list hq
    obtain ⟨f0, f1, f2, f3, f4, f5⟩ := hf it (by simp)
    have hl := rv.length
    exact wpAny_pyNext_list_end (I.ok.hd hc) st p.isList (by simp; omega) fun h' eb => ⟨rfl, I.turned (t' := s.toks) (fun b o hb e => eb b o hb e) f0 f1 f3 f4 f5⟩
  self := fun _ _ _ _ _ st h => wpAny_pyIter_listiter st h
theorem turn_range {P : Program} {w : World} {K : PySem.W.Frag} {tg : Expr} (it : Addr) (lo : Int) (n : Nat) : Turn P w K tg (Itr lo n) [it] it (fun i h => IsRangeIter h it (lo + (i : Nat) * 1) ((n : Int) - (i : Nat)) 1) where
  mem := by simp
  obj := fun i h st b hb => by
    have e : b = it := by simpa using hb
    subst e
    exact ⟨_, st, fun v z => by
      have z' : Data.fields _ = Data.cell v := z
      cases z'⟩
  keep := fun i h h' st k => k it (by simp) _ st
  item := by
    intro X hP hw hK hc i pins s σ H E I hf st hg
    subst hP hw hK
    obtain ⟨f0, f1, f2, f3, f4, f5⟩ := hf it (by simp)
    have W := Walks.range (prog := X.prog) (w := X.w) (I.ok.hd hc) it lo 1 n
    refine W.item i s _ _ hg st fun v h' tk hv st' kk => ?_
    obtain ⟨t, rfl⟩ := hv
    have I1 : Inv X pins σ H { s with heap := h', toks := tk } := I.turned (fun b o hb e => kk b o (by simpa using hb) e) f0 f1 f3 f4 f5
    refine ⟨_, rfl, go_of (s := { s with heap := h', toks := tk }) (n := "range_iterator") st' rfl rfl (by decide) ⟨.int (lo + i), H, I1, ⟨t, ?_⟩, ⟨rfl, rfl⟩, st', fun b hb => (hf b hb).1⟩⟩
    rw [Int.mul_one]
  done := by
    intro X hP hw hK hc i pins s σ H E I hf st hg
    subst hP hw hK
    obtain ⟨f0, f1, f2, f3, f4, f5⟩ := hf it (by simp)
    exact wpAny_pyNext_range_end (I.ok.hd hc) st (by have : n ≤ i := hg; omega) fun h' eb => ⟨rfl, I.turned (t' := s.toks) (fun b o hb e => eb b o hb e) f0 f1 f3 f4 f5⟩
  self := fun _ _ _ _ _ st h => wpAny_pyIter_rangeiter st h
end L2

namespace L2
open PySem PySem.Spec PyProof.Rows
section
variable {X : Cx} {tg : Expr}
def iList (K : PySem.W.Frag) (tl : TE) : TI := fun σ H R => tl σ H fun x H1 => ∃ a, x = .ref a ∧ (∃ xs, SqL K H1 a xs) ∧ R (Itl K a) H1
theorem pi_list {l : Expr} {tl : TE} (hl : PE X l tl) : PI X tg l (iList X.K tl) := by
  intro pins s σ H R I h
  refine thn (hl pins s σ H _ I h) fun v s1 ⟨x, H1, I1, r1, q1⟩ => ?_
  obtain ⟨a, e, ⟨xs, hq⟩, q⟩ := q1
  subst e
  cases r1
  obtain ⟨its, rv, p, hz⟩ := I1.list hq
  refine wpAny_pyIter_list p.isList ?_
  refine ⟨s1.heap.objs.size, [s1.heap.objs.size], _, _, H1, rfl, I1.kept (t' := s1.toks) fun b o e => Heap.get?_push_of_some _ e, turn_list a _, ⟨_, Heap.get?_push_size _ rfl, rfl, rfl⟩, fun b hb => ?_, q⟩
  have e : b = s1.heap.objs.size := by simpa using hb
  subst e
  exact I1.fpOk (Nat.le_refl _) (I1.hok.fresh (Nat.le_refl _))
/-- a range object just made, walked -/
theorem range_it {pins : List (Addr × Obj)} {σ : St} {H : Hp} {s : Shared} {R : It → Hp → Prop} {E : Value → Shared → Prop} {lo hi : Int} {t u v : Tok} {tk : Nat} (I : Inv X pins σ H s) (h1 : -(2 ^ 62) ≤ lo) (h2 : lo < 2 ^ 62) (h3 : -(2 ^ 62) ≤ hi) (h4 : hi < 2 ^ 62)
    (q : R (Itr lo (hi - lo).toNat) H) : wpAny (model X.prog X.w) X.A (pyIter (.ref s.heap.objs.size)) (PIE X pins σ tg R) E { s with heap := s.heap.push { cls := .type "range", data := .fields #[.int lo t, .int hi u, .int 1 v] }, toks := tk } := by
  refine wpAny_pyIter_range (IsRange.new ..) (small_one h1 h2 h3 h4) ?_
  have I1 : Inv X pins σ H { s with heap := s.heap.push { cls := .type "range", data := .fields #[.int lo t, .int hi u, .int 1 v] }, toks := tk } := I.kept fun b o e => Heap.get?_push_of_some _ e
  refine ⟨(s.heap.push { cls := .type "range", data := .fields #[.int lo t, .int hi u, .int 1 v] }).objs.size, [(s.heap.push { cls := .type "range", data := .fields #[.int lo t, .int hi u, .int 1 v] }).objs.size], _, _, H, rfl,
    I1.kept (t' := tk) fun b o e => Heap.get?_push_of_some _ e, turn_range _ lo (hi - lo).toNat, ?_, fun b hb => ?_, q⟩
  · have e1 : lo + ((0 : Nat) : Int) * 1 = lo := by simp
    have e2 : (((hi - lo).toNat : Nat) : Int) - ((0 : Nat) : Int) = Builtin.Range.rangeSize lo hi 1 := by rw [rangeSize_one]; split <;> omega
    show IsRangeIter _ _ (lo + ((0 : Nat) : Int) * 1) ((((hi - lo).toNat : Nat) : Int) - ((0 : Nat) : Int)) 1
    rw [e1, e2]
    exact Heap.get?_push_size _ rfl
  · have e : b = (s.heap.push { cls := .type "range", data := .fields #[.int lo t, .int hi u, .int 1 v] }).objs.size := by simpa using hb
    subst e
    exact I1.fpOk (Nat.le_refl _) (I1.hok.fresh (Nat.le_refl _))
def iRng1 (ta : TA) : TI := fun σ H R => ta σ H fun vs H1 => ∃ j : Int, vs = [.int j] ∧ -(2 ^ 62) ≤ j ∧ j < 2 ^ 62 ∧ R (Itr 0 j.toNat) H1
theorem pi_range1 {a : Expr} {ta : TA} {p pos : Pos} (hg : Gl X "range") (hm : X.mg "range" = none) (ha : PA X [a] ta) (hs : starEach [a] X.env = [(false, eval a X.env)] := by rfl) : PI X tg (.Call (.Name "range" p) [a] [] pos) (iRng1 ta) := by
  intro pins s σ H R I h
  refine Call_ (ld_blt I hg hm boot_range (PyProof.Rows.callWith_type1 (thn (ha pos pins s σ H _ I h) fun us s1 ⟨vs, H1, I1, r1, q1⟩ => ?_) hs rfl))
  obtain ⟨j, e, q1, q2, q⟩ := q1
  subst e
  cases r1 with
  | cons r rr =>
    cases rr
    obtain ⟨t, rfl⟩ := r
    exact call_range_1 (range_it I1 (by omega) (by omega) q1 q2 (by simpa using q))

/-! ### for -/
/-- W: the invariant by the turn and a measure; N: what the body is to reach -/
def tFor (wi : TI) (g : TG) (tb : TS) : TS := fun D σ H => wi σ H fun J H1 => ∃ W : Nat → Nat → St → Hp → Prop, (∃ m, W 0 m σ H1) ∧ ∀ i m σ H, W i m σ H →
  (J.stop i H ∧ D.nx σ H) ∨ (J.go i H ∧ ∃ N : St → Hp → Prop, (∀ σ' H', N σ' H' → ∃ m', m' < m ∧ W (i + 1) m' σ' H') ∧ ∀ x H', J.yld i H x H' → g x σ H' fun σ2 H2 => tb { D with nx := N, ct := N, bk := D.nx } σ2 H2)
/-- the records at fp as they stand -/
def pinsAt (fp : List Addr) (h : Heap) : List (Addr × Obj) := fp.filterMap fun b => (h.get? b).map fun o => (b, o)
theorem mem_pinsAt {fp : List Addr} {h : Heap} {b : Addr} {o : Obj} (hb : b ∈ fp) (e : h.get? b = some o) : (b, o) ∈ pinsAt fp h := List.mem_filterMap.mpr ⟨b, hb, by rw [e]; rfl⟩
theorem of_pinsAt {fp : List Addr} {h : Heap} {p : Addr × Obj} (hp : p ∈ pinsAt fp h) : p.1 ∈ fp ∧ h.get? p.1 = some p.2 := by
  obtain ⟨b, hb, e⟩ := List.mem_filterMap.mp hp
  cases q : h.get? b with
  | none => rw [q] at e; cases e
  | some o =>
    rw [q] at e
    have e' : (b, o) = p := Option.some.inj e
    subst e'
    exact ⟨hb, q⟩
theorem Inv.pinned {pins : List (Addr × Obj)} {σ : St} {H : Hp} {s : Shared} {fp : List Addr} (I : Inv X pins σ H s) (hf : ∀ b ∈ fp, FpOk X pins H b) (ho : ∀ b ∈ fp, ∃ o, s.heap.get? b = some o ∧ ∀ v, o.data ≠ .cell v) : Inv X (pins ++ pinsAt fp s.heap) σ H s :=
  I.pins_of fun p hp => (List.mem_append.mp hp).elim (fun z => I.pin p (List.mem_append_right _ z)) fun z => by
    obtain ⟨hb, e⟩ := of_pinsAt z
    obtain ⟨f0, f1, f2, _⟩ := hf p.1 hb
    obtain ⟨o, e', d⟩ := ho p.1 hb
    rw [e] at e'; cases e'
    exact ⟨e, f0, f1, f2, d⟩
theorem Inv.unpinned {pins pl : List (Addr × Obj)} {σ : St} {H : Hp} {s : Shared} (I : Inv X (pins ++ pl) σ H s) : Inv X pins σ H s := I.pins_of fun p hp => I.pin p (List.mem_append_right _ (List.mem_append_left _ hp))
theorem ps_for {iter : Expr} {body : List Stmt} {wi : TI} {g : TG} {tb : TS} {pos : Pos} (hp : PassesOwn (model X.prog X.w) X.A X.env X.xe) (hc : X.calm = true) (hi : PI X tg iter wi) (hg : PG X tg g) (hb : PSs X body tb)
    (hs : ∀ x, foldedSetIterable iter X.env x = pure x := by intro _; rfl) : PS X (.For tg iter body [] pos) (tFor wi g tb) := by
  intro pins s σ H D I h
  refine wpAny_For (thn (hi pins s σ H _ I h) fun v s1 h1 => thn h1 fun itv s2 h2 => ?_) hs
  obtain ⟨it, fp, tn, J, H2, e, I2, T, st2, f2, W, ⟨m0, w0⟩, turn⟩ := h2
  subst e
  -- what stays true of the iterator's objects through the loop
  have stat : ∀ {H' : Hp}, (∀ b ∈ fp, H' b = none) → ∀ b ∈ fp, FpOk X pins H' b := fun hn b hb => ⟨hn b hb, (f2 b hb).2⟩
  refine codeAny_forLoop_any (fun n s' => ∃ i σ' H', Inv X pins σ' H' s' ∧ tn i s'.heap ∧ (∀ b ∈ fp, H' b = none) ∧ W i n σ' H') ?_ m0 ⟨0, σ, H2, I2, st2, fun b hb => (f2 b hb).1, w0⟩
  rintro n s3 ⟨i, σ3, H3, I3, st3, fr3, w3⟩
  rcases turn i n σ3 H3 w3 with ⟨stop, qn⟩ | ⟨go, N, hN, step⟩
  · refine wpAny_passesOwn hp (thn (T.done X rfl rfl rfl hc i pins s3 σ3 H3 X.xe I3 (stat fr3) st3 stop) fun r s4 ⟨hr, I4⟩ => ?_)
    subst hr
    exact wpAny_execs_nil ⟨σ3, H3, I4, qn⟩
  · refine wpAny_passesOwn hp (thn (T.item X rfl rfl rfl hc i pins s3 σ3 H3 X.xe I3 (stat fr3) st3 go) fun r s4 ⟨u, hr, h4⟩ => ?_)
    subst hr
    refine wpAny_passesOwn hp (thn h4 fun _ s5 ⟨x, H5, I5, r5, y5, st5, fr5⟩ => ?_)
    have I5' := I5.pinned (stat fr5) (T.obj _ _ st5)
    refine wpAny_passesOwn hp (thn (hg _ s5 σ3 H5 x u _ I5' r5 (step x H5 y5)) fun _ s6 ⟨σ6, H6, I6, q6⟩ => ?_)
    refine wpAny_passesOwn hp (thn (hb _ s6 σ6 H6 _ I6 q6) fun f s7 q7 => ?_)
    have again : ∀ {σ7 : St} {H7 : Hp}, Inv X (pins ++ pinsAt fp s5.heap) σ7 H7 s7 → N σ7 H7 → ∃ m, m < n ∧ ∃ i σ' H', Inv X pins σ' H' s7 ∧ tn i s7.heap ∧ (∀ b ∈ fp, H' b = none) ∧ W i m σ' H' := fun {σ7 H7} I7 n7 => by
      obtain ⟨m', hm, w7⟩ := hN σ7 H7 n7
      refine ⟨m', hm, i + 1, σ7, H7, I7.unpinned, T.keep _ _ _ st5 fun b hb o e => (I7.pin (b, o) (List.mem_append_right _ (List.mem_append_right _ (mem_pinsAt hb e)))).1, fun b hb => ?_, w7⟩
      obtain ⟨o, e, d⟩ := T.obj _ _ st5 b hb
      exact (I7.pin (b, o) (List.mem_append_right _ (List.mem_append_right _ (mem_pinsAt hb e)))).2.1
    cases f with
    | next => obtain ⟨σ7, H7, I7, n7⟩ := q7; exact again I7 n7
    | cont => obtain ⟨σ7, H7, I7, n7⟩ := q7; exact again I7 n7
    | brk => obtain ⟨σ7, H7, I7, q7⟩ := q7; exact ⟨σ7, H7, I7.unpinned, q7⟩
    | ret v => obtain ⟨x7, σ7, H7, I7, r7, q7⟩ := q7; exact ⟨x7, σ7, H7, I7.unpinned, r7, q7⟩
end

/-! ### the forms one uses -/
/-- over a list that the body leaves as it is -/
theorem for_list {K : PySem.W.Frag} {a : Addr} {xs : List V} {g : TG} {tb : TS} {D : Ends} {σ : St} {H : Hp} (Pv : Nat → St → Hp → Prop) (h0 : Pv 0 σ H) (hl : ∀ i σ H, i ≤ xs.length → Pv i σ H → SqL K H a xs)
    (hs : ∀ i x σ H, xs[i]? = some x → Pv i σ H → g x σ H fun σ2 H2 => tb { D with nx := Pv (i + 1), ct := Pv (i + 1), bk := D.nx } σ2 H2) (hd : ∀ σ H, Pv xs.length σ H → D.nx σ H) :
    ∃ W : Nat → Nat → St → Hp → Prop, (∃ m, W 0 m σ H) ∧ ∀ i m σ H, W i m σ H →
      ((Itl K a).stop i H ∧ D.nx σ H) ∨ ((Itl K a).go i H ∧ ∃ N : St → Hp → Prop, (∀ σ' H', N σ' H' → ∃ m', m' < m ∧ W (i + 1) m' σ' H') ∧ ∀ x H', (Itl K a).yld i H x H' → g x σ H' fun σ2 H2 => tb { D with nx := N, ct := N, bk := D.nx } σ2 H2) := by
  refine ⟨fun i m σ H => m = xs.length - i ∧ i ≤ xs.length ∧ Pv i σ H, ⟨xs.length, by simp, Nat.zero_le _, h0⟩, ?_⟩
  rintro i m σ H ⟨rfl, hi, p⟩
  have q := hl i σ H hi p
  by_cases hlt : i < xs.length
  · refine .inr ⟨⟨xs, xs[i], q, by simp [hlt]⟩, Pv (i + 1), fun σ' H' p' => ⟨xs.length - (i + 1), by omega, rfl, hlt, p'⟩, fun x H' y => ?_⟩
    obtain ⟨e, y⟩ := y
    subst e
    exact hs i x σ _ (y xs q) p
  · have e : i = xs.length := by omega
    subst e
    exact .inl ⟨⟨xs, q, Nat.le_refl _⟩, hd σ H p⟩
theorem for_range {lo : Int} {n : Nat} {g : TG} {tb : TS} {D : Ends} {σ : St} {H : Hp} (Pv : Nat → St → Hp → Prop) (h0 : Pv 0 σ H)
    (hs : ∀ i σ H, i < n → Pv i σ H → g (.int (lo + i)) σ H fun σ2 H2 => tb { D with nx := Pv (i + 1), ct := Pv (i + 1), bk := D.nx } σ2 H2) (hd : ∀ σ H, Pv n σ H → D.nx σ H) :
    ∃ W : Nat → Nat → St → Hp → Prop, (∃ m, W 0 m σ H) ∧ ∀ i m σ H, W i m σ H →
      ((Itr lo n).stop i H ∧ D.nx σ H) ∨ ((Itr lo n).go i H ∧ ∃ N : St → Hp → Prop, (∀ σ' H', N σ' H' → ∃ m', m' < m ∧ W (i + 1) m' σ' H') ∧ ∀ x H', (Itr lo n).yld i H x H' → g x σ H' fun σ2 H2 => tb { D with nx := N, ct := N, bk := D.nx } σ2 H2) := by
  refine ⟨fun i m σ H => m = n - i ∧ i ≤ n ∧ Pv i σ H, ⟨n, by simp, Nat.zero_le _, h0⟩, ?_⟩
  rintro i m σ H ⟨rfl, hi, p⟩
  by_cases hlt : i < n
  · refine .inr ⟨hlt, Pv (i + 1), fun σ' H' p' => ⟨n - (i + 1), by omega, rfl, hlt, p'⟩, fun x H' y => ?_⟩
    obtain ⟨e, y⟩ := y
    subst e y
    exact hs i σ _ hlt p
  · have e : i = n := by omega
    subst e
    exact .inl ⟨Nat.le_refl _, hd σ H p⟩
end L2

namespace L2
open PySem PySem.Spec PyProof.Rows

abbrev R2 := V → V → Hp → VK → Prop
/-- a two-place operation on values: f is binaryOp op, inplaceOp op or compareOp op -/
def OpR (X : Cx) (f : Value → Value → Sem Value) (r : R2) : Prop :=
  ∀ (pins : List (Addr × Obj)) (s : Shared) (σ : St) (H : Hp) (x y : V) (v u : Value) (Q : VK), Inv X pins σ H s → RelV x v → RelV y u → r x y H Q →
    wpAny (model X.prog X.w) X.A (f v u) (EP X pins σ Q) X.xe s
/-- a one-place operation -/
def UnR (X : Cx) (f : Value → Sem Value) (r : V → Hp → VK → Prop) : Prop :=
  ∀ (pins : List (Addr × Obj)) (s : Shared) (σ : St) (H : Hp) (x : V) (v : Value) (Q : VK), Inv X pins σ H s → RelV x v → r x H Q →
    wpAny (model X.prog X.w) X.A (f v) (EP X pins σ Q) X.xe s
/-- a call of a value that is known (a builtin, a type) with values -/
def CallR (X : Cx) (f : Value) (r : List V → Hp → VK → Prop) : Prop :=
  ∀ (pins : List (Addr × Obj)) (s : Shared) (σ : St) (H : Hp) (xs : List V) (us : List Value) (Q : VK), Inv X pins σ H s → Vals xs us → r xs H Q →
    wpAny (model X.prog X.w) X.A (call f us) (EP X pins σ Q) X.xe s
/-- a value's truth -/
def TruR (X : Cx) (r : V → Hp → (Bool → Hp → Prop) → Prop) : Prop :=
  ∀ (pins : List (Addr × Obj)) (s : Shared) (σ : St) (H : Hp) (x : V) (v : Value) (Q : Bool → Hp → Prop), Inv X pins σ H s → RelV x v → r x H Q →
    wpAny (model X.prog X.w) X.A (truthy v) (TP X pins σ Q) X.xe s

def tOp (r : R2) (ta tb : TE) : TE := fun σ H Q => ta σ H fun x H1 => tb σ H1 fun y H2 => r x y H2 Q
def tUn (r : V → Hp → VK → Prop) (ta : TE) : TE := fun σ H Q => ta σ H fun x H1 => r x H1 Q
/-- ints in, under C, and a value out -/
def rI (C : Int → Int → Prop) (g : Int → Int → V) : R2 := fun x y H Q => ∃ i j, x = .int i ∧ y = .int j ∧ C i j ∧ Q (g i j) H
def rI0 (g : Int → Int → V) : R2 := fun x y H Q => ∃ i j, x = .int i ∧ y = .int j ∧ Q (g i j) H
def rU (g : Int → V) : V → Hp → VK → Prop := fun x H Q => ∃ i, x = .int i ∧ Q (g i) H

section
variable {X : Cx} {a b c : Expr} {ta tb tc : TE} {pos : Pos}

theorem binT (ha : PE X a ta) (hb : PE X b tb) {pins : List (Addr × Obj)} {s : Shared} {σ : St} {H : Hp} {R : V → V → Hp → Prop} (I : Inv X pins σ H s)
    (h : ta σ H fun x H1 => tb σ H1 fun y H2 => R x y H2) {Q : Value → Shared → Prop} {f : Value → Value → Sem Value}
    (hf : ∀ v u s2 x y H2, Inv X pins σ H2 s2 → RelV x v → RelV y u → R x y H2 → wpAny (model X.prog X.w) X.A (f v u) Q X.xe s2) :
    wpAny (model X.prog X.w) X.A (eval a X.env) (fun v s₁ => wpAny (model X.prog X.w) X.A (eval b X.env) (fun u s₂ => wpAny (model X.prog X.w) X.A (f v u) Q X.xe s₂) X.xe s₁) X.xe s := by
  refine thn (ha pins s σ H _ I h) fun v s1 ⟨x, H1, I1, r1, q1⟩ => ?_
  refine thn (hb pins s1 σ H1 _ I1 q1) fun u s2 ⟨y, H2, I2, r2, q2⟩ => ?_
  exact hf v u s2 x y H2 I2 r1 r2 q2

theorem pe_op {op : Operator} {r : R2} (ho : OpR X (binaryOp op) r) (ha : PE X a ta) (hb : PE X b tb) : PE X (.BinOp a op b pos) (tOp r ta tb) := by
  intro pins s σ H Q I h
  exact wpAny_BinOp (binT ha hb I h fun v u s2 x y H2 I2 rx ry q => ho pins s2 σ H2 x y v u Q I2 rx ry q)
theorem pe_un {op : UnaryOp} {r : V → Hp → VK → Prop} (ho : UnR X (unaryOp op) r) (ha : PE X a ta) : PE X (.UnaryOp op a pos) (tUn r ta) := by
  intro pins s σ H Q I h
  exact UnaryOp_ (thn (ha pins s σ H _ I h) fun v s1 ⟨x, H1, I1, r1, q1⟩ => ho pins s1 σ H1 x v Q I1 r1 q1)

/-! ### ints -/
theorem opI {f : Value → Value → Sem Value} {C : Int → Int → Prop} {g : Int → Int → Int}
    (rule : ∀ (i j : Int) (t u : Tok) (s : Shared) (Q : Value → Shared → Prop) (E : Value → Shared → Prop), C i j → Q (.int (g i j) s.toks) { s with toks := s.toks + 1 } → wpAny (model X.prog X.w) X.A (f (.int i t) (.int j u)) Q E s) :
    OpR X f (rI C fun i j => .int (g i j)) := by
  intro pins s σ H x y v u Q I rx ry h
  obtain ⟨i, j, rfl, rfl, hc, q⟩ := h
  obtain ⟨t, rfl⟩ := rx
  obtain ⟨t', rfl⟩ := ry
  exact rule i j t t' s _ _ hc ⟨.int (g i j), H, I.tok _, ⟨_, rfl⟩, q⟩
theorem opI0 {f : Value → Value → Sem Value} {g : Int → Int → Int}
    (rule : ∀ (i j : Int) (t u : Tok) (s : Shared) (Q : Value → Shared → Prop) (E : Value → Shared → Prop), Q (.int (g i j) s.toks) { s with toks := s.toks + 1 } → wpAny (model X.prog X.w) X.A (f (.int i t) (.int j u)) Q E s) :
    OpR X f (rI0 fun i j => .int (g i j)) := by
  intro pins s σ H x y v u Q I rx ry h
  obtain ⟨i, j, rfl, rfl, q⟩ := h
  obtain ⟨t, rfl⟩ := rx
  obtain ⟨t', rfl⟩ := ry
  exact rule i j t t' s _ _ ⟨.int (g i j), H, I.tok _, ⟨_, rfl⟩, q⟩
theorem opB0 {f : Value → Value → Sem Value} {g : Int → Int → Bool}
    (rule : ∀ (i j : Int) (t u : Tok) (s : Shared) (Q : Value → Shared → Prop) (E : Value → Shared → Prop), Q (.bool (g i j)) s → wpAny (model X.prog X.w) X.A (f (.int i t) (.int j u)) Q E s) :
    OpR X f (rI0 fun i j => .bl (g i j)) := by
  intro pins s σ H x y v u Q I rx ry h
  obtain ⟨i, j, rfl, rfl, q⟩ := h
  obtain ⟨t, rfl⟩ := rx
  obtain ⟨t', rfl⟩ := ry
  exact rule i j t t' s _ _ ⟨.bl (g i j), H, I, rfl, q⟩

def CDiv (i j : Int) : Prop := 0 < j ∧ j < 1073741824
def CMul (i j : Int) : Prop := (-(2 ^ 64) < i ∧ i < 2 ^ 64) ∨ (-(2 ^ 64) < j ∧ j < 2 ^ 64)
theorem CMul.ok {i j : Int} (h : CMul i j) : IntMulOk i j := by
  rcases h with ⟨h1, h2⟩ | ⟨h1, h2⟩
  · exact .of_left (intBits_le_64 h1 h2)
  · exact .of_right (intBits_le_64 h1 h2)

theorem op_add : OpR X (binaryOp .Add) (rI0 fun i j => .int (i + j)) := opI0 fun _ _ _ _ _ _ _ q => add_int q
theorem op_sub : OpR X (binaryOp .Sub) (rI0 fun i j => .int (i - j)) := opI0 fun _ _ _ _ _ _ _ q => sub_int q
theorem op_mul : OpR X (binaryOp .Mult) (rI CMul fun i j => .int (i * j)) := opI fun _ _ _ _ _ _ _ hc q => mul_int q hc.ok
/-- // by a positive divisor -/
theorem op_fdiv : OpR X (binaryOp .FloorDiv) (rI CDiv fun i j => .int (i / j)) := opI fun i j _ _ _ _ _ hc q => by
  have h1 : (0 : Int) < j := hc.1
  have h2 : j < 1073741824 := hc.2
  exact floordiv_int (by omega) (by rw [Int.fdiv_eq_ediv_of_nonneg i (by omega)]; exact q) (.inl (PyProof.noPylong_small (by omega)))
/-- % by a positive divisor of any size -/
theorem op_mod : OpR X (binaryOp .Mod) (rI (fun _ j => 0 < j) fun i j => .int (i % j)) := opI fun i j _ _ _ _ _ hc q => by
  have h1 : (0 : Int) < j := hc
  exact mod_int' (by omega) (by rw [Int.fmod_eq_emod_of_nonneg i (by omega)]; exact q)


theorem unI {f : Value → Sem Value} {g : Int → Int}
    (rule : ∀ (i : Int) (t : Tok) (s : Shared) (Q : Value → Shared → Prop) (E : Value → Shared → Prop), Q (.int (g i) s.toks) { s with toks := s.toks + 1 } → wpAny (model X.prog X.w) X.A (f (.int i t)) Q E s) :
    UnR X f (rU fun i => .int (g i)) := by
  intro pins s σ H x v Q I rx h
  obtain ⟨i, rfl, q⟩ := h
  obtain ⟨t, rfl⟩ := rx
  exact rule i t s _ _ ⟨.int (g i), H, I.tok _, ⟨_, rfl⟩, q⟩
theorem un_neg : UnR X (unaryOp .USub) (rU fun i => .int (-i)) := unI fun _ _ _ _ _ q => neg_int q

/-! ### bools among ints: n += (a < b) -/
end

/-! ### comparisons -/
/-- the scalars that == tells apart as data does -/
def scal : V → V → Bool
  | .non, .non => true | .non, .int _ => true | .int _, .non => true | .non, .bl _ => true | .bl _, .non => true | .non, .str _ => true | .str _, .non => true
  | .int _, .int _ => true | .bl _, .bl _ => true | .str _, .str _ => true | .byt _, .byt _ => true
  | .int _, .str _ => true | .str _, .int _ => true | .bl _, .str _ => true | .str _, .bl _ => true
  | _, _ => false
def rEq : R2 := fun x y H Q => scal x y = true ∧ Q (.bl (decide (x = y))) H
def rNe : R2 := fun x y H Q => scal x y = true ∧ Q (.bl (!decide (x = y))) H

theorem dec_int {i j : Int} : decide (V.int i = V.int j) = (i == j) := by
  rw [Bool.eq_iff_iff]
  simp
theorem dec_bl {i j : Bool} : decide (V.bl i = V.bl j) = (i == j) := by
  rw [Bool.eq_iff_iff]
  simp
theorem dec_str {i j : Str} : decide (V.str i = V.str j) = (i == j) := by
  rw [Bool.eq_iff_iff]
  simp
theorem dec_byt {i j : Array UInt8} : decide (V.byt i = V.byt j) = (i.toList == j.toList) := by
  rw [Bool.eq_iff_iff]
  cases i
  cases j
  simp

section
variable {X : Cx} {a b c : Expr} {ta tb tc : TE} {pos : Pos}
theorem fin_bl {pins : List (Addr × Obj)} {σ : St} {H : Hp} {s : Shared} {Q : VK} {k k' : Bool} (I : Inv X pins σ H s) (q : Q (.bl k) H) (e : k = k') : EP X pins σ Q (.bool k') s := by
  subst e
  exact ⟨.bl k, H, I, rfl, q⟩
theorem op_eq : OpR X (compareOp .Eq) rEq := by
  intro pins s σ H x y v u Q I rx ry h
  obtain ⟨hs, q⟩ := h
  cases x with
  | non =>
    cases rx
    cases y with
    | non => cases ry; exact PySem.EqNone.eq_none_none (fin_bl I q (by simp))
    | bl j => cases ry; exact PySem.EqNone.eq_none_bool (fin_bl I q (by simp))
    | int j => obtain ⟨t', rfl⟩ := ry; exact PySem.EqNone.eq_none_int (fin_bl I q (by simp))
    | str j => obtain ⟨t', rfl⟩ := ry; exact PySem.EqNone.eq_none_str (fin_bl I q (by simp))
    | _ => exact absurd (show false = true from hs) Bool.false_ne_true
  | bl i =>
    cases rx
    cases y with
    | non => cases ry; exact PySem.EqNone.eq_bool_none (fin_bl I q (by simp))
    | bl j => cases ry; exact eq_bool (fin_bl I q dec_bl)
    | str j => obtain ⟨t', rfl⟩ := ry; exact PySem.EqMixed.eq_bool_str (fin_bl I q (by simp))
    | _ => exact absurd (show false = true from hs) Bool.false_ne_true
  | int i =>
    obtain ⟨t, rfl⟩ := rx
    cases y with
    | non => cases ry; exact PySem.EqNone.eq_int_none (fin_bl I q (by simp))
    | int j => obtain ⟨t', rfl⟩ := ry; exact eq_int (fin_bl I q dec_int)
    | str j => obtain ⟨t', rfl⟩ := ry; exact PySem.EqMixed.eq_int_str (fin_bl I q (by simp))
    | _ => exact absurd (show false = true from hs) Bool.false_ne_true
  | str i =>
    obtain ⟨t, rfl⟩ := rx
    cases y with
    | non => cases ry; exact PySem.EqNone.eq_str_none (fin_bl I q (by simp))
    | bl j => cases ry; exact PySem.EqMixed.eq_str_bool (fin_bl I q (by simp))
    | int j => obtain ⟨t', rfl⟩ := ry; exact PySem.EqMixed.eq_str_int (fin_bl I q (by simp))
    | str j => obtain ⟨t', rfl⟩ := ry; exact eq_str (fin_bl I q dec_str)
    | _ => exact absurd (show false = true from hs) Bool.false_ne_true
  | byt i =>
    obtain ⟨t, rfl⟩ := rx
    cases y with
    | byt j => obtain ⟨t', rfl⟩ := ry; exact PySem.W.eq_bytes (fin_bl I q dec_byt)
    | _ => exact absurd (show false = true from hs) Bool.false_ne_true
  | _ => cases y <;> exact absurd (show false = true from hs) Bool.false_ne_true
theorem op_ne : OpR X (compareOp .NotEq) rNe := by
  intro pins s σ H x y v u Q I rx ry h
  obtain ⟨hs, q⟩ := h
  cases x with
  | non =>
    cases rx
    cases y with
    | non => cases ry; exact PySem.EqNone.ne_none_none (fin_bl I q (by simp))
    | bl j => cases ry; exact PySem.EqNone.ne_none_bool (fin_bl I q (by simp))
    | int j => obtain ⟨t', rfl⟩ := ry; exact PySem.EqNone.ne_none_int (fin_bl I q (by simp))
    | str j => obtain ⟨t', rfl⟩ := ry; exact PySem.EqNone.ne_none_str (fin_bl I q (by simp))
    | _ => exact absurd (show false = true from hs) Bool.false_ne_true
  | bl i =>
    cases rx
    cases y with
    | non => cases ry; exact PySem.EqNone.ne_bool_none (fin_bl I q (by simp))
    | bl j => cases ry; exact ne_bool (fin_bl I q (congrArg not dec_bl))
    | str j => obtain ⟨t', rfl⟩ := ry; exact PySem.EqMixed.ne_bool_str (fin_bl I q (by simp))
    | _ => exact absurd (show false = true from hs) Bool.false_ne_true
  | int i =>
    obtain ⟨t, rfl⟩ := rx
    cases y with
    | non => cases ry; exact PySem.EqNone.ne_int_none (fin_bl I q (by simp))
    | int j => obtain ⟨t', rfl⟩ := ry; exact ne_int (fin_bl I q (congrArg not dec_int))
    | str j => obtain ⟨t', rfl⟩ := ry; exact PySem.EqMixed.ne_int_str (fin_bl I q (by simp))
    | _ => exact absurd (show false = true from hs) Bool.false_ne_true
  | str i =>
    obtain ⟨t, rfl⟩ := rx
    cases y with
    | non => cases ry; exact PySem.EqNone.ne_str_none (fin_bl I q (by simp))
    | bl j => cases ry; exact PySem.EqMixed.ne_str_bool (fin_bl I q (by simp))
    | int j => obtain ⟨t', rfl⟩ := ry; exact PySem.EqMixed.ne_str_int (fin_bl I q (by simp))
    | str j => obtain ⟨t', rfl⟩ := ry; exact ne_str (fin_bl I q (congrArg not dec_str))
    | _ => exact absurd (show false = true from hs) Bool.false_ne_true
  | byt i =>
    obtain ⟨t, rfl⟩ := rx
    cases y with
    | byt j => obtain ⟨t', rfl⟩ := ry; exact PySem.W.ne_bytes (fin_bl I q (congrArg not dec_byt))
    | _ => exact absurd (show false = true from hs) Bool.false_ne_true
  | _ => cases y <;> exact absurd (show false = true from hs) Bool.false_ne_true

theorem op_lt : OpR X (compareOp .Lt) (rI0 fun i j => .bl (decide (i < j))) := opB0 fun _ _ _ _ _ _ _ q => lt_int q
theorem op_le : OpR X (compareOp .LtE) (rI0 fun i j => .bl (decide (i ≤ j))) := opB0 fun _ _ _ _ _ _ _ q => le_int q
theorem op_gt : OpR X (compareOp .Gt) (rI0 fun i j => .bl (decide (j < i))) := opB0 fun _ _ _ _ _ _ _ q => gt_int q

/-- is None, is not None: the right side a value none -/
theorem op_isN : OpR X (compareOp .Is) (fun x y H Q => y = .non ∧ Q (.bl (decide (x = .non))) H) := by
  intro pins s σ H x y v u Q I rx ry h
  obtain ⟨rfl, q⟩ := h
  cases ry
  refine is_none_gen (fin_bl I q ?_)
  cases x <;> first
    | (cases rx; rfl)
    | (obtain ⟨t, rfl⟩ := rx; rfl)
theorem op_notN : OpR X (compareOp .IsNot) (fun x y H Q => y = .non ∧ Q (.bl (!decide (x = .non))) H) := by
  intro pins s σ H x y v u Q I rx ry h
  obtain ⟨rfl, q⟩ := h
  cases ry
  refine isnot_none_gen (fin_bl I q ?_)
  cases x <;> first
    | (cases rx; rfl)
    | (obtain ⟨t, rfl⟩ := rx; rfl)



theorem nomark (b : Expr) {op : CmpOp} (h : op ≠ .In := by decide) (h2 : op ≠ .NotIn := by decide) : behindInMarks op b = false := by
  have e1 : (op == CmpOp.In) = false := by cases op <;> first | rfl | exact absurd rfl h
  have e2 : (op == CmpOp.NotIn) = false := by cases op <;> first | rfl | exact absurd rfl h2
  cases b <;> simp [behindInMarks, e1, e2]
/-- a comparison as a value; hm: nomark b, or (for in, not in) by with_unfolding_all rfl -/
theorem pe_cmpR {op : CmpOp} {r : R2} (ho : OpR X (compareOp op) r) (ha : PE X a ta) (hb : PE X b tb) (hm : behindInMarks op b = false) : PE X (.Compare a [op] [b] pos) (tOp r ta tb) := by
  intro pins s σ H Q I h
  exact wpAny_Compare1 (binT ha hb I h fun v u s2 x y H2 I2 rx ry q => ho pins s2 σ H2 x y v u Q I2 rx ry q) hm
/-- a reading of a value as a test -/
def tTest (t : TE) : TT := fun σ H Q => t σ H fun x H' => ∃ k, x = .bl k ∧ Q k H'
theorem pt_cmpR {op : CmpOp} {r : R2} (ho : OpR X (compareOp op) r) (ha : PE X a ta) (hb : PE X b tb) (hm : behindInMarks op b = false) : PT X (.Compare a [op] [b] pos) (tTest (tOp r ta tb)) := by
  intro pins s σ H Q I h
  refine wpAny_isTrue_Compare1 (thn (ha pins s σ H _ I h) fun v s1 ⟨x, H1, I1, r1, q1⟩ => thn (hb pins s1 σ H1 _ I1 q1) fun u s2 ⟨y, H2, I2, r2, q2⟩ =>
    thn (ho pins s2 σ H2 x y v u _ I2 r1 r2 q2) fun c s3 ⟨z, H3, I3, r3, k, e, q3⟩ => ?_) hm
  subst e
  cases r3
  exact wpAny_truthy_bool ⟨H3, I3, q3⟩
/-- a op1 b op2 c -/
def tChain (r r' : R2) (ta tb tc : TE) : TE := fun σ H Q => ta σ H fun x H1 => tb σ H1 fun y H2 => r x y H2 fun z H3 => ∃ k, z = .bl k ∧
  (if k = true then tc σ H3 fun w' H4 => r' y w' H4 Q else Q (.bl false) H3)
theorem pe_chain {op op' : CmpOp} {r r' : R2} (ho : OpR X (compareOp op) r) (ho' : OpR X (compareOp op') r') (ha : PE X a ta) (hb : PE X b tb) (hc : PE X c tc)
    (hm : lastMarks [op, op'] [b, c] = false := by with_unfolding_all rfl) : PE X (.Compare a [op, op'] [b, c] pos) (tChain r r' ta tb tc) := by
  intro pins s σ H Q I h
  refine Compare_chain (thn (ha pins s σ H _ I h) fun v s1 ⟨x, H1, I1, r1, q1⟩ => chain_link (thn (hb pins s1 σ H1 _ I1 q1) fun u s2 ⟨y, H2, I2, r2, q2⟩ =>
    thn (ho pins s2 σ H2 x y v u _ I2 r1 r2 q2) fun d s3 ⟨z, H3, I3, r3, k, e, q3⟩ => ?_)) hm
  subst e
  cases r3
  refine wpAny_truthy_bool ?_
  cases k with
  | false => exact ite_ff ⟨.bl false, H3, I3, rfl, q3⟩
  | true => exact ite_tt (chain_last (thn (hc pins s3 σ H3 _ I3 q3) fun w' s4 ⟨z', H4, I4, r4, q4⟩ => ho' pins s4 σ H4 y z' u w' Q I4 r2 r4 q4))

/-! ### truth -/
/-- a value's truth by the abstract heap -/
def TruV (K : PySem.W.Frag) (x : V) (H : Hp) (k : Bool) : Prop :=
  match x with
  | .non => k = false
  | .bl b => k = b
  | .int i => k = (i != 0)
  | .str y => y.length ≤ sizeLine ∧ k = ((y.length : Int) != 0)
  | .byt y => y.size ≤ sizeLine ∧ k = ((y.size : Int) != 0)
  | .ref p => (∃ xs, SqL K H p xs ∧ k = !xs.isEmpty) ∨ (∃ xs, SqT K H p xs ∧ k = !xs.isEmpty) ∨ ∃ kvs, H p = some (.dK kvs) ∧ k = !kvs.isEmpty
  | _ => False
theorem isEmpty_kv {κ : Type} {kvs : List (κ × V)} {vs : List (κ × Value)} (r : KV kvs vs) : (!vs.isEmpty) = !kvs.isEmpty := by
  cases r <;> rfl
theorem isEmpty_of {xs : List V} {its : List Value} (r : Vals xs its) : (!its.toArray.isEmpty) = !xs.isEmpty := by
  cases r <;> simp
theorem line63 : (sizeLine : Nat) < 2 ^ 63 := by rw [sizeLine_eq]; decide
theorem tru_ok : TruR X (fun x H Q => ∃ k, TruV X.K x H k ∧ Q k H) := by
  intro pins s σ H x v Q I rx h
  obtain ⟨k, e, q⟩ := h
  have hl := line63
  have hs : sizeLine = 16777216 := sizeLine_eq
  cases x with
  | non =>
    cases rx
    have e' : k = false := e
    subst e'
    exact truthy_none ⟨H, I, q⟩
  | bl b =>
    cases rx
    have e' : k = b := e
    subst e'
    exact wpAny_truthy_bool ⟨H, I, q⟩
  | int i =>
    obtain ⟨t, rfl⟩ := rx
    have e' : k = (i != 0) := e
    subst e'
    exact PySem.P.truthy_int ⟨H, I, q⟩
  | str y =>
    obtain ⟨t, rfl⟩ := rx
    obtain ⟨hy, e'⟩ : y.length ≤ sizeLine ∧ k = ((y.length : Int) != 0) := e
    subst e'
    exact PySem.P.truthy_str (by omega) ⟨H, I.tok _, q⟩
  | byt y =>
    obtain ⟨t, rfl⟩ := rx
    obtain ⟨hy, e'⟩ : y.size ≤ sizeLine ∧ k = ((y.size : Int) != 0) := e
    subst e'
    exact PySem.W.truthy_bytes (by omega) ⟨H, I.tok _, q⟩
  | ref p =>
    cases rx
    have e' : (∃ xs, SqL X.K H p xs ∧ k = !xs.isEmpty) ∨ (∃ xs, SqT X.K H p xs ∧ k = !xs.isEmpty) ∨ ∃ kvs, H p = some (.dK kvs) ∧ k = !kvs.isEmpty := e
    rcases e' with ⟨xs, hx, e'⟩ | ⟨xs, hx, e'⟩ | ⟨kvs, hx, e'⟩
    · subst e'
      obtain ⟨its, r, pl, hz⟩ := I.list hx
      have hlen := r.length
      exact wpAny_truthy_list pl.isList (by simp only [List.size_toArray]; omega) ⟨H, I.tok _, by rw [isEmpty_of r]; exact q⟩
    · subst e'
      obtain ⟨its, r, pl, hz⟩ := I.tuple hx
      have hlen := r.length
      exact truthy_tuple pl (by simp only [List.size_toArray]; omega) ⟨H, I.tok _, by rw [isEmpty_of r]; exact q⟩
    · subst e'
      obtain ⟨hz, hS, vs, r, m⟩ : kvs.length ≤ sizeLine ∧ (p == sysModules) = false ∧ ∃ vs, KV kvs vs ∧ s.heap.DictOf (mixKind X.prog X.w) p vs := I.hok p _ hx
      have hlen : kvs.length = vs.length := Paired.length r
      exact wpAny_truthy_dict hS m (by omega) ⟨H, I.tok _, by rw [isEmpty_kv r]; exact q⟩
  | _ => exact (show False from e).elim
/-- any expression whose test is its value's truth (a name, a call, a subscript, a field ..: he by fun _ => rfl) -/
theorem pt_truth (ha : PE X a ta) (he : ∀ whole, isTrue a X.env whole = (do let v ← whole; standAt a.pos; holding [v] (truthy v))) :
    PT X a (fun σ H Q => ta σ H fun x H' => ∃ k, TruV X.K x H' k ∧ Q k H') := by
  intro pins s σ H Q I h
  exact isTrue_plain (thn (ha pins s σ H _ I h) fun v s1 ⟨x, H1, I1, r1, q1⟩ => tru_ok pins s1 σ H1 x v Q I1 r1 q1) (he _)

/-! ### strs and bytes -/


/-! ### scalar builtins, by CallR -/
theorem vals1 {x : V} {us : List Value} (r : Vals [x] us) : ∃ u, us = [u] ∧ RelV x u := by
  cases r with
  | cons r1 r2 => cases r2; exact ⟨_, rfl, r1⟩
theorem call_int1 : CallR X (.type "int") (fun xs H Q => (∃ i, xs = [.int i] ∧ Q (.int i) H) ∨ ∃ k, xs = [.bl k] ∧ Q (.int (if k then 1 else 0)) H) := by
  intro pins s σ H xs us Q I r h
  rcases h with ⟨i, rfl, q⟩ | ⟨k, rfl, q⟩
  · obtain ⟨u, rfl, t, rfl⟩ := vals1 r
    exact call_int_int ⟨.int i, H, I, ⟨_, rfl⟩, q⟩
  · obtain ⟨u, rfl, r1⟩ := vals1 r
    cases r1
    exact call_int_bool ⟨.int (if k then 1 else 0), H, I.tok _, ⟨_, rfl⟩, q⟩
end
end L2

namespace L2
open PySem PySem.Spec PyProof.Rows

/-! ### an instance, its attributes a map -/
structure ObjM (h : Heap) (x dx C : Addr) (mA : Str → Option Value) : Prop where
  obj : h.get? x = some (PySem.W.instObj C dx)
  ns : h.Ns1 dx mA
  ne : dx ≠ x

theorem lookIn_ns {h : Heap} {dx : Addr} {mA : Str → Option Value} (n : h.Ns1 dx mA) : ∃ od, h.get? dx = some od ∧ ∀ name, PySem.W.lookIn name od = some (mA name) := by
  obtain ⟨o, es, ep, ho, hd, hk, _, hm⟩ := n
  refine ⟨o, ho, fun name => ?_⟩
  have e := hm name
  unfold nsFind findBy at e
  rw [← Array.find?_toList] at e
  unfold PySem.W.lookIn
  rw [hd]
  dsimp only
  split
  · rename_i y q
    rw [q] at e
    exact congrArg some e
  · rename_i q
    rw [q] at e
    have a : es.toList.any (·.refKey) = false := by
      rw [List.any_eq_false]
      intro y hy
      obtain ⟨z, t, hkey⟩ := hk y (Array.mem_toList_iff.mp hy)
      simp [DictEntry.refKey, hkey]
    have a' : ¬ es.toList.any (·.refKey) = true := by rw [a]; exact Bool.false_ne_true
    rw [if_neg a']
    exact congrArg some e

theorem ObjM.look {h : Heap} {x dx C : Addr} {mA : Str → Option Value} (I : ObjM h x dx C mA) : ∃ od, PySem.W.InstAt h x (PySem.W.instObj C dx) C (some od) ∧ ∀ name, PySem.W.lookIn name od = some (mA name) :=
  let ⟨od, ho, hl⟩ := lookIn_ns I.ns
  ⟨od, ⟨I.obj, rfl, rfl, ho⟩, hl⟩

section
variable {prog : Program} {w : World} {A : Around} {E : Value → Shared → Prop} {s : Shared} {K : PySem.W.Frag} {x dx C f : Addr} {mA : Str → Option Value} {name : Str} {v : Value}

theorem get_map {expr : Bool} {Q : Value → Shared → Prop} (X : K.In s.heap) (I : ObjM s.heap x dx C mA) (hg : PySem.W.plainGet K C name = true) (hh : PySem.W.hasDictIn K C = true)
    (ha : PySem.W.findIn K (.ref C) name = some none) (hv : mA name = some v) (hv' : PySem.W.handedIn v = true) (h : Q v { s with toks := s.toks + 1 }) :
    wpAny (model prog w) A (getAttr (.ref x) name expr) Q E s := by
  obtain ⟨od, J, hl⟩ := I.look
  exact PySem.W.get_value X J (PySem.W.plainGet_of hg).1 (PySem.W.findObj_own hh ha rfl (by rw [hl, hv])) hv' h


theorem get_meth {pl : Sem Bool} {Q : Value × List Value → Shared → Prop} (X : K.In s.heap) (I : ObjM s.heap x dx C mA) (hg : PySem.W.plainGet K C name = true)
    (hf : PySem.W.findIn K (.ref C) name = some (some (.ref f))) (ht : PySem.W.isFn K (.ref f) = true) (hv : mA name = none) (h : Q (.ref f, [.ref x]) s) :
    wpAny (model prog w) A (getMethod (.ref x) name pl) Q E s := by
  obtain ⟨od, J, hl⟩ := I.look
  exact PySem.W.method_fn X J (PySem.W.plainGet_of hg).1 (PySem.W.plainGet_of hg).2 hf (beq_iff_eq.mp ht) (by show (PySem.W.lookIn name od).map (·.isSome) = some false; rw [hl, hv]; rfl) h

theorem set_map {ns : List Str} {Q : Unit → Shared → Prop} (X : K.In s.heap) (I : ObjM s.heap x dx C mA)
    (hs : PySem.W.findIn K (.ref C) "__setattr__" = some (some (.builtin "object.__setattr__"))) (hp : PySem.W.plainOver K C = true) (ht : PySem.W.takerIn K C name = some none) (hh : PySem.W.hasDictIn K C = true)
    (hw : PySem.Within mA ns) (hsz : ns.length ≤ sizeLine)
    (h : ∀ h', ObjM h' x dx C (fun y => if y = name then some v else mA y) → Heap.SameBut dx s.heap h' → Q () { s with heap := h', toks := s.toks + 2 }) :
    wpAny (model prog w) A (setAttr (.ref x) name v) Q E s := by
  obtain ⟨od, J, hl⟩ := I.look
  refine PySem.W.set_plain X J hs (PySem.W.osa_open (s := { s with toks := s.toks + 1 }) (r := none) X J hp ht fun b => ?_)
  obtain ⟨cd, hc, hd'⟩ := PySem.W.any_some hh
  have hx : s.heap.get? x = some ⟨.ref C, some dx, .plain, #[]⟩ := I.obj
  refine wpAny_bind (wpAny_pure (wpAny_bind (wpAny_bind (wpAny_loadPart hx (wpAny_bind (PySem.W.Looks.here (s := { s with toks := s.toks + 1 }) (PySem.W.looks_clsIn X hc) ?_))))))
  rw [hd']
  refine wpAny_pure (a := some dx) (wpAny_bind (wpAny_pure (wpAny_bind ?_)))
  refine wpAny_nsSet1 (s := { s with toks := s.toks + 1 }) I.ns fun h' hn2 hs2 => ?_
  obtain ⟨oD, esD, epD, hoD, hdD, hcD⟩ := hn2.count (PySem.Within.cons name v hw)
  refine wpAny_bind (wpAny_lookBehind hoD (by rw [hdD]; exact pastItsLine_dict (Nat.le_trans hcD (by rw [List.length_cons]; omega))) ?_)
  exact wpAny_pure (h _ ⟨(hs2.2 _ (Ne.symm I.ne)).trans I.obj, hn2, I.ne⟩ hs2)

/-- C(..): the dict at the heap's end, the instance behind it; then its __init__ -/
theorem make_map {R : Result → Shared → Prop} {vs : List Value} {kw : List (Str × Value)} (X : K.In s.heap) (hm : PySem.W.makesIn K C = true)
    (hi : PySem.W.findIn K (.ref C) "__init__" = some (some (.ref f))) (hf : PySem.W.typeIn K (.ref f) = some (.type "function"))
    (h : codeAny (model prog w) (A.under (.builtin "type.__call__" ⟨.ref C :: vs, kw⟩)) (.call (.ref f) ⟨.ref (s.heap.objs.size + 1) :: vs, kw⟩) (PySem.W.InitBack (s.heap.objs.size + 1) R)
      { s with heap := (s.heap.push PySem.W.emptyDict).push (PySem.W.instObj C s.heap.objs.size) }) :
    codeAny (model prog w) A (.call (.ref C) ⟨vs, kw⟩) R s := by
  obtain ⟨hh, g, d, t, os⟩ := s
  exact PySem.W.make_core (PySem.W.makes_of X hm) (PySem.W.looks_findIn X hi) (fun self => PySem.W.bind_fn X self hf) (.inl rfl) h
end

/-! ### the attributes as a list of pairs -/
def putF (f : Str) (v : V) : List (Str × V) → List (Str × V)
  | [] => [(f, v)]
  | (g, x) :: r => if g = f then (g, v) :: r else (g, x) :: putF f v r
theorem lookup_putF (f g : Str) (v : V) : ∀ fs : List (Str × V), (putF f v fs).lookup g = if g = f then some v else fs.lookup g
  | [] => by
    show List.lookup g [(f, v)] = _
    by_cases h : g = f
    · have hb : (g == f) = true := beq_iff_eq.mpr h
      simp only [List.lookup, hb, if_pos h]
    · have hb : (g == f) = false := beq_eq_false_iff_ne.mpr h
      simp only [List.lookup, hb, if_neg h]
  | (k, x) :: r => by
    have ih := lookup_putF f g v r
    rw [show putF f v ((k, x) :: r) = (if k = f then (k, v) :: r else (k, x) :: putF f v r) from rfl]
    by_cases hk : k = f
    · rw [if_pos hk]
      by_cases h : g = k
      · have hb : (g == k) = true := beq_iff_eq.mpr h
        simp only [List.lookup, hb, if_pos (h.trans hk)]
      · have hb : (g == k) = false := beq_eq_false_iff_ne.mpr h
        simp only [List.lookup, hb, if_neg (fun e : g = f => h (e.trans hk.symm))]
    · rw [if_neg hk]
      by_cases h : g = k
      · have hb : (g == k) = true := beq_iff_eq.mpr h
        simp only [List.lookup, hb, if_neg (fun e : g = f => hk (h.symm.trans e))]
      · have hb : (g == k) = false := beq_eq_false_iff_ne.mpr h
        simp only [List.lookup, hb]
        exact ih
theorem keys_putF (f : Str) (v : V) : ∀ fs : List (Str × V), f ∈ (putF f v fs).map (·.1) ∧ ∀ g, g ∈ fs.map (·.1) → g ∈ (putF f v fs).map (·.1)
  | [] => ⟨by simp [putF], fun g h => by simp at h⟩
  | (k, x) :: r => by
    obtain ⟨i1, i2⟩ := keys_putF f v r
    rw [show putF f v ((k, x) :: r) = (if k = f then (k, v) :: r else (k, x) :: putF f v r) from rfl]
    by_cases hk : k = f
    · rw [if_pos hk]
      subst hk
      exact ⟨by simp, fun g h => by simpa using h⟩
    · rw [if_neg hk]
      refine ⟨?_, fun g h => ?_⟩
      · rw [List.map_cons]
        exact List.mem_cons_of_mem _ i1
      · rw [List.map_cons] at h ⊢
        rcases List.mem_cons.mp h with e | e
        · exact List.mem_cons.mpr (.inl e)
        · exact List.mem_cons_of_mem _ (i2 g e)
theorem length_putF (f : Str) (v : V) : ∀ fs : List (Str × V), (putF f v fs).length ≤ fs.length + 1
  | [] => by simp [putF]
  | (k, x) :: r => by
    have ih := length_putF f v r
    rw [show putF f v ((k, x) :: r) = (if k = f then (k, v) :: r else (k, x) :: putF f v r) from rfl]
    by_cases hk : k = f
    · rw [if_pos hk, List.length_cons, List.length_cons]; omega
    · rw [if_neg hk, List.length_cons, List.length_cons]; omega

theorem RelO.some_of {v : V} {o : Option Value} (r : RelO (some v) o) : ∃ u, o = some u ∧ RelV v u := by
  cases o with
  | none => exact (show False from r).elim
  | some u => exact ⟨u, rfl, r⟩
theorem RelO.none_of {o : Option Value} (r : RelO none o) : o = none := by
  cases o with
  | none => rfl
  | some u => exact (show False from r).elim
theorem handed_of {v : V} {u : Value} (r : RelV v u) : PySem.W.handedIn u = true := by
  cases v with
  | non => cases (show u = Value.none from r); rfl
  | bl b => cases (show u = Value.bool b from r); rfl
  | int i => obtain ⟨t, e⟩ := (show ∃ t, u = Value.int i t from r); cases e; rfl
  | str x => obtain ⟨t, e⟩ := (show ∃ t, u = Value.str x t from r); cases e; rfl
  | byt b => obtain ⟨t, e⟩ := (show ∃ t, u = Value.bytes b t from r); cases e; rfl
  | flt b => obtain ⟨t, e⟩ := (show ∃ t, u = Value.float b t from r); cases e; rfl
  | ref a => cases (show u = Value.ref a from r); rfl
  | ty n => cases (show u = Value.type n from r); rfl

section
variable {P : Program} {w : World} {H H' : Hp} {h h' : Heap} {a C dx : Addr} {fs fs' : List (Str × V)}
theorem ins_get (hok : HOk P w H h) (e : H a = some (.ins C dx fs)) : ∃ mA, ObjM h a dx C mA ∧ (∀ f, RelO (fs.lookup f) (mA f)) ∧ PySem.Within mA (fs.map (·.1)) ∧ fs.length ≤ 1000 ∧ H dx = some (.own a) := by
  obtain ⟨d, z, ne, ob, mA, n, r, q⟩ := (show ObjOk P w H h a (.ins C dx fs) from hok a _ e)
  exact ⟨mA, ⟨ob, n, ne⟩, r, q, z, d⟩
end

/-! ### what of the text a class must have -/
structure Cls (K : PySem.W.Frag) (C : Addr) : Prop where
  pg : PySem.W.plainGet K C Str.empty = true
  hd : PySem.W.hasDictIn K C = true
  po : PySem.W.plainOver K C = true
  sa : PySem.W.findIn K (.ref C) "__setattr__" = some (some (.builtin "object.__setattr__"))
theorem Cls.get {K : PySem.W.Frag} {C : Addr} (c : Cls K C) (f : Str) : PySem.W.plainGet K C f = true := c.pg
/-- no class of it has the name -/
def NoAttr (K : PySem.W.Frag) (C : Addr) (f : Str) : Prop := PySem.W.findIn K (.ref C) f = some none
theorem NoAttr.taker {K : PySem.W.Frag} {C : Addr} {f : Str} (n : NoAttr K C f) : PySem.W.takerIn K C f = some none := by
  unfold PySem.W.takerIn
  rw [show PySem.W.findIn K (.ref C) f = some none from n]
  rfl
/-- a method: a plain def of the class or of one above it -/
structure Meth (K : PySem.W.Frag) (C : Addr) (m : Str) (f : Addr) : Prop where
  at_ : PySem.W.findIn K (.ref C) m = some (some (.ref f))
  fn : PySem.W.isFn K (.ref f) = true
  kp : PySem.W.keepIn K (.ref f) = true

section
variable {X : Cx} {pins : List (Addr × Obj)} {σ : St} {H : Hp} {s : Shared} {a C dx : Addr} {fs : List (Str × V)} {f : Str} {v : V} {A : Around} {E : Value → Shared → Prop}

theorem getattr_ok {b : Bool} {Q : Value → Shared → Prop} (I : Inv X pins σ H s) (e : H a = some (.ins C dx fs)) (c : Cls X.K C) (n : NoAttr X.K C f) (l : fs.lookup f = some v)
    (h : ∀ u s', Inv X pins σ H s' → RelV v u → Q u s') : wpAny (model X.prog X.w) A (getAttr (.ref a) f b) Q E s := by
  obtain ⟨mA, O, r, _, _, _⟩ := ins_get I.hok e
  obtain ⟨u, hu, ru⟩ := RelO.some_of (v := v) (o := mA f) (by rw [← l]; exact r f)
  exact get_map I.kIn O (c.get f) c.hd n hu (handed_of ru) (h u _ (I.tok _) ru)


theorem getmeth_ok {m : Str} {g : Addr} {pl : Sem Bool} {Q : Value × List Value → Shared → Prop} (I : Inv X pins σ H s) (e : H a = some (.ins C dx fs)) (c : Cls X.K C) (k : Meth X.K C m g) (l : fs.lookup m = none)
    (h : Q (.ref g, [.ref a]) s) : wpAny (model X.prog X.w) A (getMethod (.ref a) m pl) Q E s := by
  obtain ⟨mA, O, r, _, _, _⟩ := ins_get I.hok e
  have hn : mA m = none := RelO.none_of (by rw [← l]; exact r m)
  exact get_meth I.kIn O (c.get m) k.at_ k.fn hn h

theorem setattr_ok {y : V} {u : Value} {Q : Unit → Shared → Prop} (I : Inv X pins σ H s) (e : H a = some (.ins C dx fs)) (c : Cls X.K C) (n : NoAttr X.K C f) (hl : fs.length < 1000) (ry : RelV y u)
    (h : ∀ s', Inv X pins σ (upd H a (.ins C dx (putF f y fs))) s' → Q () s') : wpAny (model X.prog X.w) A (setAttr (.ref a) f u) Q E s := by
  obtain ⟨mA, O, r, wi, _, ho⟩ := ins_get I.hok e
  have hz : (fs.map (·.1)).length ≤ sizeLine := by rw [List.length_map, sizeLine_eq]; omega
  refine set_map I.kIn O c.sa c.po n.taker c.hd wi hz fun h' O' sb => h _ ?_
  have hd : ∃ o, h'.get? dx = some o := let ⟨o, _, _, e', _⟩ := O'.ns; ⟨o, e'⟩
  refine I.write (x := a) (e := dx) (by rw [e]; exact True.intro) (.inr ho) (fun b q hb z => (sb.2 b hb).trans z) hd ?_
  refine ⟨by rw [upd_ne O.ne]; exact ho, ?_, O.ne, O'.obj, _, O'.ns, fun g => ?_, fun g hg => ?_⟩
  · have := length_putF f y fs; omega
  · show RelO ((putF f y fs).lookup g) (if g = f then some u else mA g)
    rw [lookup_putF]
    by_cases q : g = f
    · rw [if_pos q, if_pos q]; exact ry
    · rw [if_neg q, if_neg q]; exact r g
  · by_cases q : g = f
    · rw [q]; exact (keys_putF f y fs).1
    · refine (keys_putF f y fs).2 g (wi g fun z => hg ?_)
      show (if g = f then some u else mA g) = none
      rw [if_neg q]; exact z

/-- a new instance, tracked, without attributes -/
theorem Inv.made (I : Inv X pins σ H s) : Inv X pins σ (upd (upd H s.heap.objs.size (.own (s.heap.objs.size + 1))) (s.heap.objs.size + 1) (.ins C s.heap.objs.size []))
    { s with heap := (s.heap.push PySem.W.emptyDict).push (PySem.W.instObj C s.heap.objs.size) } := by
  have e1 : (s.heap.push PySem.W.emptyDict).get? s.heap.objs.size = some PySem.W.emptyDict := Heap.get?_push_size s.heap rfl
  have e2 : ((s.heap.push PySem.W.emptyDict).push (PySem.W.instObj C s.heap.objs.size)).get? (s.heap.objs.size + 1) = some (PySem.W.instObj C s.heap.objs.size) := by
    have := Heap.get?_push_size (s.heap.push PySem.W.emptyDict) (o := PySem.W.instObj C s.heap.objs.size) rfl
    rwa [Heap.size_push] at this
  have e3 : (s.heap.push PySem.W.emptyDict).Ns s.heap.objs.size (fun _ => none) := ⟨PySem.W.emptyDict, #[], _, e1, rfl, (fun e he => absurd he (by simp)), fun _ => rfl⟩
  have I1 := I.laid (a := s.heap.objs.size) (o := .own (s.heap.objs.size + 1)) (h' := s.heap.push PySem.W.emptyDict) (t' := s.toks) (fun b u q => Heap.get?_push_of_some _ q) (Nat.le_refl _) ⟨_, e1⟩
  refine I1.laid (a := s.heap.objs.size + 1) (o := .ins C s.heap.objs.size []) (t' := s.toks) (fun b u q => Heap.get?_push_of_some _ q) (Nat.le_of_eq (Heap.size_push _ _)) ?_
  have ne : s.heap.objs.size ≠ s.heap.objs.size + 1 := Nat.ne_of_lt (Nat.lt_succ_self _)
  refine ⟨by rw [upd_ne ne, upd_same], Nat.zero_le _, ne, e2, fun _ => none, (Heap.Ns1.of_empty e3).at fun o q => Heap.get?_push_of_some _ q, fun _ => True.intro, fun y hy => absurd rfl hy⟩

/-- e.f where nothing but the object is asked: through attributeBase (super) and the last hold -/
theorem attr_of {prog : Program} {w : World} {env : Env} {e : Expr} {f : Str} {pos : Pos} {s : Shared} {Q : Value → Shared → Prop} (hb : attributeBase e f env (eval e env) = eval e env)
    (h : wpAny (model prog w) A (eval e env) (fun o s₁ => wpAny (model prog w) A (getAttr o f true) Q E s₁) E s) : wpAny (model prog w) A (eval (.Attribute e f pos) env) Q E s :=
  Attribute_any_ h (by rw [arm_eval_Attribute, hb])
end

/-! ### readings and rules -/
/-- e.f, an attribute of the instance -/
def tFld (K : PySem.W.Frag) (ta : TE) (f : Str) : TE := fun σ H Q => ta σ H fun x H1 => ∃ a C dx fs v, x = .ref a ∧ H1 a = some (.ins C dx fs) ∧ Cls K C ∧ NoAttr K C f ∧ fs.lookup f = some v ∧ Q v H1
/-- e.f = value -/
def sFld (K : PySem.W.Frag) (ta tv : TE) (f : Str) : TS := fun D σ H => tv σ H fun y H1 => ta σ H1 fun x H2 => ∃ a C dx fs, x = .ref a ∧ H2 a = some (.ins C dx fs) ∧ Cls K C ∧ NoAttr K C f ∧ fs.length < 1000 ∧
  D.nx σ (upd H2 a (.ins C dx (putF f y fs)))

section
variable {X : Cx} {o e value : Expr} {f : Str} {pos pos' tpos : Pos} {ta tv : TE}
theorem pe_fld (he : PE X e ta) (hb : attributeBase e f X.env (eval e X.env) = eval e X.env) : PE X (.Attribute e f pos) (tFld X.K ta f) := by
  intro pins s σ H Q I h
  refine attr_of hb (thn (he pins s σ H _ I h) fun u s1 ⟨x, H1, I1, rx, a, C, dx, fs, v, ex, ea, c, n, l, q⟩ => ?_)
  subst ex
  obtain rfl : u = Value.ref a := rx
  exact getattr_ok I1 ea c n l fun u' s2 I2 ru => ⟨v, H1, I2, ru, q⟩
theorem ps_fld (ha : PE X o ta) (hv : PE X value tv) (hs : swapsWith value (some (.Attribute o f pos')) pos.line X.env = pure false) : PS X (.Assign [.Attribute o f pos'] value pos) (sFld X.K ta tv f) := by
  intro pins s σ H D I h
  refine plainObj_wpAny_Assign_Attribute (thn (hv pins s σ H _ I h) fun u s1 ⟨y, H1, I1, ry, q⟩ => thn (ha pins s1 σ H1 _ I1 q) fun ov s2 ⟨x, H2, I2, rx, a, C, dx, fs, ex, ea, c, n, l, q2⟩ => ?_) hs
  subst ex
  obtain rfl : ov = Value.ref a := rx
  exact setattr_ok I2 ea c n l ry fun s3 I3 => ⟨σ, _, I3, q2⟩

end

/-! ### isinstance -/
section
variable {X : Cx} {pins : List (Addr × Obj)} {σ : St} {H : Hp} {s : Shared} {A : Around} {E : Value → Shared → Prop} {Q : Value → Shared → Prop} {c : Value} {b : Bool}
/-- the type of a value, as the fragment's deciders take it; for an instance its class -/
inductive TyOf (K : PySem.W.Frag) (H : Hp) : V → Value → Prop where
  | non : TyOf K H .non (.type "NoneType")
  | bl (x : Bool) : TyOf K H (.bl x) (.type "bool")
  | int (i : Int) : TyOf K H (.int i) (.type "int")
  | str (x : Str) : TyOf K H (.str x) (.type "str")
  | flt (x : UInt64) : TyOf K H (.flt x) (.type "float")
  | lst {a : Addr} {xs : List V} (e : H a = some (.lst xs)) : TyOf K H (.ref a) (.type "list")
  | frz {a : Addr} {o : Obj} {xs : List V} (e : H a = some (.frz o (.lst xs))) : TyOf K H (.ref a) (.type "list")
  | tup {a : Addr} {xs : List V} (e : H a = some (.tup xs)) : TyOf K H (.ref a) (.type "tuple")
  | dK {a : Addr} {kvs : List (Key × V)} (e : H a = some (.dK kvs)) : TyOf K H (.ref a) (.type "dict")
  | dT {a : Addr} {kvs : List (List Key × V)} (e : H a = some (.dT kvs)) : TyOf K H (.ref a) (.type "dict")
  | ins {a C dx : Addr} {fs : List (Str × V)} (e : H a = some (.ins C dx fs)) (cl : Cls K C) (ha : PySem.W.findIn K (.ref C) "__class__" = some (some (.builtin "object.__class__")))
      (hn : PySem.W.specialIn K (.builtin "object.__class__") "__get__" = some (some (.builtin "getset_descriptor.__get__"))) (htk : PySem.W.takesIn K (.builtin "object.__class__") = some true)
      (hm : PySem.W.mroIn K C (.type "object") = some true) : TyOf K H (.ref a) (.ref C)
/-- isinstance(x, c) for one class c, a built-in or an own one: kitOne's answer -/
theorem isinst_ok {x : V} {u t : Value} (I : Inv X pins σ H s) (rx : RelV x u) (ty : TyOf X.K H x t) (e : PySem.W.kitOne X.K t c = some b) (h : ∀ tk, Q (.bool b) { s with toks := tk }) :
    wpAny (model X.prog X.w) A (call (.builtin "isinstance") [u, c]) Q E s := by
  cases ty with
  | non => cases (show u = Value.none from rx); exact PySem.W.kia_one PySem.W.kitx_none I.kIn True.intro e (fun z => nomatch z) h
  | bl y => cases (show u = Value.bool y from rx); exact PySem.W.kia_one PySem.W.kitx_bool I.kIn True.intro e (fun z => nomatch z) h
  | int i => obtain ⟨t, q⟩ := (show ∃ t, u = Value.int i t from rx); cases q; exact PySem.W.kia_one PySem.W.kitx_int I.kIn True.intro e (fun z => nomatch z) h
  | str y => obtain ⟨t, q⟩ := (show ∃ t, u = Value.str y t from rx); cases q; exact PySem.W.kia_one PySem.W.kitx_str I.kIn True.intro e (fun z => nomatch z) h
  | flt y => obtain ⟨t, q⟩ := (show ∃ t, u = Value.float y t from rx); cases q; exact PySem.W.kia_one PySem.W.kitx_float I.kIn True.intro e (fun z => nomatch z) h
  | @lst a xs ea =>
    cases (show u = Value.ref a from rx)
    obtain ⟨_, _, n, _, h1⟩ := (show ObjOk X.prog X.w H s.heap a (.lst xs) from I.hok a _ ea)
    exact PySem.W.kia_one PySem.W.kitx_list I.kIn ⟨_, h1, rfl⟩ e (fun z => nomatch z) h
  | @frz a ob xs ea =>
    cases (show u = Value.ref a from rx)
    obtain ⟨_, _, _, n, _, h1⟩ := (show ObjOk X.prog X.w H s.heap a (.frz ob (.lst xs)) from I.hok a _ ea)
    exact PySem.W.kia_one PySem.W.kitx_list I.kIn ⟨_, h1, rfl⟩ e (fun z => nomatch z) h
  | @tup a xs ea =>
    cases (show u = Value.ref a from rx)
    obtain ⟨_, _, _, p⟩ := (show ObjOk X.prog X.w H s.heap a (.tup xs) from I.hok a _ ea)
    obtain ⟨o, h1, h2, _⟩ := p
    exact PySem.W.kia_one PySem.W.kitx_tuple I.kIn ⟨o, h1, h2⟩ e (fun z => nomatch z) h
  | @dK a kvs ea =>
    cases (show u = Value.ref a from rx)
    obtain ⟨_, _, vs, _, p⟩ := (show ObjOk X.prog X.w H s.heap a (.dK kvs) from I.hok a _ ea)
    obtain ⟨o, es, ep, h1, h2, _⟩ := p
    exact PySem.W.kia_one PySem.W.kitx_dict I.kIn ⟨o, h1, h2.1⟩ e (fun z => nomatch z) h
  | @dT a kvs ea =>
    cases (show u = Value.ref a from rx)
    obtain ⟨_, _, xs, _, o, es, ep, h1, h2, _⟩ := (show ObjOk X.prog X.w H s.heap a (.dT kvs) from I.hok a _ ea)
    exact PySem.W.kia_one PySem.W.kitx_dict I.kIn ⟨o, h1, h2.1⟩ e (fun z => nomatch z) h
  | @ins a C dx fs ea cl ha hn htk hm =>
    cases (show u = Value.ref a from rx)
    obtain ⟨mA, O, _⟩ := ins_get I.hok ea
    obtain ⟨od, J, _⟩ := O.look
    exact PySem.W.kia_one (PySem.W.kitx_own (cl.get _) cl.hd ha hn htk hm) I.kIn J e (fun z => nomatch z) h
end
end L2

namespace L2
open PySem PySem.Spec PyProof.Rows

/-! ### room -/
structure Room (k : Nat) (A : Around) : Prop where
  hd : A.handled = none
  dp : A.depth + 3 * k + 5 < recursionLimit
  un : A.units + 16 * k + 200 < cLine
theorem Room.mono {j k : Nat} {A : Around} (r : Room k A) (h : j ≤ k) : Room j A := ⟨r.hd, by have := r.dp; omega, by have := r.un; omega⟩
theorem Room.deeper {k : Nat} {A : Around} (r : Room (k + 1) A) (env : Env) : Room k (A.deeper env) :=
  ⟨r.hd, by have := r.dp; show A.depth + 1 + 3 * k + 5 < _; omega, by have := r.un; show A.units + 3 + 16 * k + 200 < _; omega⟩
theorem make_depth {A : Around} {C : Addr} {us : List Value} {kw : List (Str × Value)} : (A.under (.builtin "type.__call__" ⟨.ref C :: us, kw⟩)).depth = A.depth + 1 := by
  first | rfl | simp [Around.under, Code.weight, Code.isCreation, Code.isGuard, Code.isCaller, Code.frames, Code.isFrame, guardIds]
theorem make_units {A : Around} {C : Addr} {us : List Value} {kw : List (Str × Value)} : (A.under (.builtin "type.__call__" ⟨.ref C :: us, kw⟩)).units = A.units + 1 := by
  first | rfl | simp [Around.under, Code.cUnits, Code.frames, Code.isFrame]
theorem Room.make {k : Nat} {A : Around} (r : Room (k + 1) A) (C : Addr) (us : List Value) (kw : List (Str × Value)) : Room k (A.under (.builtin "type.__call__" ⟨.ref C :: us, kw⟩)) :=
  ⟨r.hd, by have := r.dp; rw [make_depth]; omega, by have := r.un; rw [make_units]; omega⟩
theorem Room.depth {k : Nat} {A : Around} (r : Room k A) : A.depth < recursionLimit := by have := r.dp; omega
theorem Room.units {k : Nat} {A : Around} (r : Room k A) : A.units + 64 < cLine := by have := r.un; omega
theorem Room.units0 {k : Nat} {A : Around} (r : Room k A) : A.units < cLine := by have := r.un; omega

/-! ### argument lists and displays -/
def tNil : TA := fun _ H Q => Q [] H
def tCons (ta : TE) (tr : TA) : TA := fun σ H Q => ta σ H fun x H1 => tr σ H1 fun xs H2 => Q (x :: xs) H2
section
variable {X : Cx} {e : Expr} {es : List Expr} {te : TE} {t : TA} {pos : Pos}
theorem pa_nil : PA X [] tNil := fun _ _ _ _ H Q I h => Calls.spliced_nil ⟨[], H, I, .nil, h⟩
theorem pa_cons (ha : PE X e te) (hr : PA X es t) (hs : starEach (e :: es) X.env = (false, eval e X.env) :: starEach es X.env := by rfl) : PA X (e :: es) (tCons te t) := by
  intro pos pins s σ H Q I h
  rw [hs]
  show wpAny _ _ (spliced ((false, eval e X.env) :: backTo pos (starEach es X.env))) _ _ s
  refine Calls.spliced_cons (thn (ha pins s σ H _ I h) fun u s1 ⟨x, H1, I1, r1, q1⟩ => ?_)
  exact thn (hr pos pins s1 σ H1 _ I1 q1) fun us s2 ⟨xs, H2, I2, r2, q2⟩ => ⟨x :: xs, H2, I2, .cons r1 r2, q2⟩

/-- a tuple, a list of written items -/
def tTup (t : TA) : TE := fun σ H Q => t σ H fun xs H1 => xs.length ≤ sizeLine ∧ ∀ p, H1 p = none → Q (.ref p) (upd H1 p (.tup xs))
def tLst (t : TA) : TE := fun σ H Q => t σ H fun xs H1 => xs.length ≤ sizeLine ∧ ∀ p, H1 p = none → Q (.ref p) (upd H1 p (.lst xs))
theorem pe_tup {x1} (h : PA X es t) : PE X (.Tuple es x1 pos) (tTup t) := by
  intro pins s σ H Q I hq
  refine wpAny_Tuple_spliced (thn (h pos pins s σ H _ I hq) fun us s1 ⟨xs, H1, I1, r, z, q⟩ => ⟨by rw [← r.length]; exact z, ?_⟩)
  have hf : H1 s1.heap.objs.size = none := I1.hok.fresh (Nat.le_refl _)
  refine ⟨.ref s1.heap.objs.size, upd H1 s1.heap.objs.size (.tup xs), I1.laid (t' := s1.toks) (fun b u e => Heap.get?_push_of_some _ e) (Nat.le_refl _) ?_, rfl, q _ hf⟩
  exact ⟨z, us, r, ⟨_, Heap.get?_push_size _ rfl, rfl, _, rfl⟩⟩
theorem pe_lst (h : PA X es t) : PE X (.List es pos) (tLst t) := by
  intro pins s σ H Q I hq
  refine wpAny_List_spliced (thn (h pos pins s σ H _ I hq) fun us s1 ⟨xs, H1, I1, r, z, q⟩ => ⟨by rw [← r.length]; exact z, ?_⟩)
  have hf : H1 s1.heap.objs.size = none := I1.hok.fresh (Nat.le_refl _)
  refine ⟨.ref s1.heap.objs.size, upd H1 s1.heap.objs.size (.lst xs), I1.laid (t' := s1.toks) (fun b u e => Heap.get?_push_of_some _ e) (Nat.le_refl _) ?_, rfl, q _ hf⟩
  exact ⟨z, us, 0, r, Heap.get?_push_size _ rfl⟩
end

/-! ### what a def promises -/
/-- a def's promise: the bound arguments in the parameters' order, the heap, the wanted end, the wanted exception -/
abbrev Sp := List V → Hp → VK → XK → Prop
/-- how an exception lies behind a call (file 08 gives it): the callers' frames, abstract heap and state ahead of the call, the wish, the exception, the state -/
abbrev CXT := List Env → Hp → Shared → XK → Value → Shared → Prop

/-- the state at a call -/
structure Env0 (P : Program) (w : World) (K : PySem.W.Frag) (mg : Str → Option Value) (base : Heap) (A : Around) (outer : List Env) (s : Shared) (H : Hp) : Prop where
  frames : A.frames = some outer
  mod : Mod K mg base
  bs : ∀ b o, base.get? b = some o → s.heap.get? b = some o ∧ H b = none
  bsz : base.objs.size ≤ s.heap.objs.size
  funs : s.heap.FunFrames base outer
  frf : ∀ b ∈ frs outer, H b = none
  hok : HOk P w H s.heap
  bare : AllBare s.gens
/-- a call's end -/
def CE (outer : List Env) (P : Program) (w : World) (H : Hp) (s : Shared) (Q : VK) (u : Value) (s' : Shared) : Prop :=
  ∃ v H', s'.os = s.os ∧ AllBare s'.gens ∧ Un (frs outer) [] H H' s.heap s'.heap ∧ HOk P w H' s'.heap ∧ RelV v u ∧ Q v H'
def CR (CX : CXT) (outer : List Env) (P : Program) (w : World) (H : Hp) (s : Shared) (Q : VK) (E : XK) (r : Result) (s' : Shared) : Prop :=
  match r with
  | .ok (.ret u) => CE outer P w H s Q u s'
  | .ok _ => False
  | .error e => CX outer H s E e s'
structure FnOk (P : Program) (w : World) (K : PySem.W.Frag) (mg : Str → Option Value) (base : Heap) (CX : CXT) (k : Nat) (f : Addr) (fd : FuncData) (ps : List Str) (sp : Sp) : Prop where
  len : ∀ vs H Q E, sp vs H Q E → vs.length = ps.length
  run : ∀ (A : Around) (outer : List Env) (s : Shared) (H : Hp) (args : Args) (us : List Value) (vs : List V) (Q : VK) (E : XK), Room k A → Env0 P w K mg base A outer s H → BindsTo s fd args (ps.zip us) → Vals vs us → sp vs H Q E →
    codeAny (model P w) A (.call (.ref f) args) (CR CX outer P w H s Q E) s

theorem Env0.make {P : Program} {w : World} {K : PySem.W.Frag} {mg : Str → Option Value} {base : Heap} {A : Around} {outer : List Env} {s : Shared} {H : Hp} (e : Env0 P w K mg base A outer s H) (C : Addr) (us : List Value) (kw : List (Str × Value)) :
    Env0 P w K mg base (A.under (.builtin "type.__call__" ⟨.ref C :: us, kw⟩)) outer s H := ⟨by first | exact e.frames | (simpa [Around.under, Code.envs, Code.isFrame, pushEnvs] using e.frames), e.mod, e.bs, e.bsz, e.funs, e.frf, e.hok, e.bare⟩

section
variable {X : Cx} {pins : List (Addr × Obj)} {σ : St} {H : Hp} {s s' : Shared}
/-- from a body: what a callee wants -/
theorem Inv.env0 (I : Inv X pins σ H s) : Env0 X.prog X.w X.K X.mg X.base X.A X.stack s H :=
  ⟨I.ok.frames, I.ok.mod, I.bs, Nat.le_trans I.ok.bsz I.sz, I.stack, I.stkFree, I.hok, I.bare⟩
/-- behind a call -/
theorem Inv.after {Q : VK} {u : Value} (I : Inv X pins σ H s) (h : CE X.stack X.prog X.w H s Q u s') : EP X pins σ Q u s' := by
  obtain ⟨v, H', os, bare, un, hok, r, q⟩ := h
  obtain ⟨hh, g, d, t, os'⟩ := s'
  obtain rfl : os' = s.os := os
  exact ⟨v, H', I.call (h' := hh) (g' := g) (d' := d) (t' := t) (ch := []) un hok bare (fun b z => absurd z (by simp)), r, q⟩
end

/-! ### calls -/
/-- f(..): the written arguments, then the defaults dvs; E: what is wanted of an exception -/
def tCall (sp : Sp) (dvs : List V) (E : XK) (t : TA) : TE := fun σ H Q => t σ H fun vs H1 => sp (vs ++ dvs) H1 Q E
/-- o.m(..) of an instance of the class at C -/
def tMeth (C : Addr) (m : Str) (sp : Sp) (dvs : List V) (E : XK) (ta : TE) (t : TA) : TE := fun σ H Q => ta σ H fun x H1 => ∃ a dx fs, x = .ref a ∧ H1 a = some (.ins C dx fs) ∧ fs.lookup m = none ∧
  t σ H1 fun vs H2 => sp (x :: (vs ++ dvs)) H2 Q E
/-- C(..): a new instance and its dict, then __init__ -/
def tMake (C : Addr) (sp : Sp) (dvs : List V) (E : XK) (t : TA) : TE := fun σ H Q => t σ H fun vs H1 => ∀ x dx, H1 x = none → H1 dx = none → dx ≠ x →
  sp (.ref x :: (vs ++ dvs)) (upd (upd H1 dx (.own x)) x (.ins C dx [])) (fun v H2 => v = .non ∧ Q (.ref x) H2) E

/-- how the parameters are bound: us the positional arguments, kw the keywords' values by name, ds the defaults that fill up -/
def Binds (K : PySem.W.Frag) (fd : FuncData) (ps : List Str) (ds : List Value) : Prop :=
  ∀ (s : Shared) (us : List Value), K.In s.heap → (us ++ ds).length = ps.length → BindsTo s fd ⟨us, []⟩ (ps.zip (us ++ ds))
/-- every parameter is given -/
theorem Binds.all {K : PySem.W.Frag} {fd : FuncData} {ps : List Str} (h : ∀ us : List Value, us.length = ps.length → bindArgs fd ⟨us, []⟩ = pure (ps.zip us)) : Binds K fd ps [] := fun s us _ hl => by
  rw [List.append_nil] at hl ⊢
  exact .of_eq (h us hl)

/-- an exception of a callee reaches what this body wants of exceptions -/
def Passes (CX : CXT) (X : Cx) (E : XK) : Prop := ∀ (pins : List (Addr × Obj)) (σ : St) (H : Hp) (s : Shared) (e : Value) (s' : Shared), Inv X pins σ H s → CX X.stack H s E e s' → X.xe e s'

section
variable {X : Cx} {CX : CXT} {k : Nat} {f C : Addr} {fd : FuncData} {ps : List Str} {sp : Sp} {dvs : List V} {ds : List Value} {E : XK} {x m : Str} {p pos apos : Pos} {e o : Expr} {es : List Expr} {ta : TE} {t : TA}

/-- the callee runs -/
theorem run_fn {pins : List (Addr × Obj)} {σ : St} {H : Hp} {s : Shared} {Q : VK} {us : List Value} {vs : List V} (F : FnOk X.prog X.w X.K X.mg X.base CX k f fd ps sp) (hr : Room k X.A) (hb : Binds X.K fd ps ds) (hd : Vals dvs ds) (hx : Passes CX X E)
    (I : Inv X pins σ H s) (r : Vals vs us) (h : sp (vs ++ dvs) H Q E) : wpAny (model X.prog X.w) X.A (call (.ref f) us) (EP X pins σ Q) X.xe s := by
  have r2 : Vals (vs ++ dvs) (us ++ ds) := r.append hd
  have hl : (us ++ ds).length = ps.length := by rw [← r2.length]; exact F.len _ _ _ _ h
  refine wpAny_call (codeAny_mono (F.run X.A X.stack s H ⟨us, []⟩ (us ++ ds) (vs ++ dvs) Q E hr I.env0 (hb s us I.kIn hl) r2 h) fun r s' hq => ?_)
  cases r with
  | error e => exact hx pins σ H s e s' I hq
  | ok fl =>
    cases fl with
    | ret u => exact I.after hq
    | next => exact False.elim hq
    | brk => exact False.elim hq
    | cont => exact False.elim hq

theorem pe_call (F : FnOk X.prog X.w X.K X.mg X.base CX k f fd ps sp) (hr : Room k X.A) (hg : Gl X x) (hm : X.mg x = some (.ref f)) (hk : PySem.W.keepIn X.K (.ref f) = true) (hb : Binds X.K fd ps ds) (hd : Vals dvs ds) (hx : Passes CX X E)
    (ha : PA X (e :: es) t) (hdb : (x == ("__debug__" : Str)) = false := by decide) (he : starEach (e :: es) X.env = (false, eval e X.env) :: starEach es X.env := by rfl) (hpl : (backTo pos (starEach es X.env)).any (·.1) = false := by rfl) :
    PE X (.Call (.Name x p) (e :: es) [] pos) (tCall sp dvs E t) := by
  intro pins s σ H Q I h
  refine wpAny_Call_Name_kw (ld_glob I hg hm ?_ hdb)
  refine PySem.W.callWith_K (h₀ := X.base) I.ok.mod.kin hk (thn (ha pos pins s σ H _ I h) fun us s1 ⟨vs, H1, I1, r, q⟩ => ⟨I1.kIn, ?_⟩) he hpl
  exact run_fn F hr hb hd hx I1 r q
theorem pe_call0 (F : FnOk X.prog X.w X.K X.mg X.base CX k f fd ps sp) (hr : Room k X.A) (hg : Gl X x) (hm : X.mg x = some (.ref f)) (hk : PySem.W.keepIn X.K (.ref f) = true) (hb : Binds X.K fd ps ds) (hd : Vals dvs ds) (hx : Passes CX X E)
    (hdb : (x == ("__debug__" : Str)) = false := by decide) : PE X (.Call (.Name x p) [] [] pos) (tCall sp dvs E tNil) := by
  intro pins s σ H Q I h
  refine wpAny_Call_Name_kw (ld_glob I hg hm ?_ hdb)
  exact PySem.W.callWith_K0 I.kIn hk (run_fn (us := []) F hr hb hd hx I .nil h)

/-- o.m(e, ..) -/
theorem pe_meth {pl : Sem Bool} (he : PE X o ta) (c : Cls X.K C) (hm : Meth X.K C m f) (F : FnOk X.prog X.w X.K X.mg X.base CX k f fd ps sp) (hr : Room k X.A) (hb : Binds X.K fd ps ds) (hd : Vals dvs ds) (hx : Passes CX X E) (ha : PA X (e :: es) t)
    (hst : starEach (e :: es) X.env = (false, eval e X.env) :: starEach es X.env := by rfl) (hpl : (backTo pos (starEach es X.env)).any (·.1) = false := by rfl)
    (ht : eval (.Call (.Attribute o m apos) (e :: es) [] pos) X.env = (do
      let ov ← eval o X.env
      standAt apos.atName
      let (f, first) ← holding [ov] (getMethod ov m pl)
      callWith pos f first (backTo pos (starEach (e :: es) X.env)) (backToKw pos (keywordEach [] X.env))) := by rfl) :
    PE X (.Call (.Attribute o m apos) (e :: es) [] pos) (tMeth C m sp dvs E ta t) := by
  intro pins s σ H Q I h
  refine PySem.W.methodCall_KW (pl := pl) (thn (he pins s σ H _ I h) fun u s1 ⟨x, H1, I1, rx, a, dx, fs, ex, ea, l, q⟩ => ?_) ht
  subst ex
  obtain rfl : u = Value.ref a := rx
  refine getmeth_ok I1 ea c hm l ?_
  refine PySem.W.callWith_K (first := [.ref a]) (h₀ := X.base) I.ok.mod.kin hm.kp (thn (ha pos pins s1 σ H1 _ I1 q) fun us s2 ⟨vs, H2, I2, r, q2⟩ => ⟨I2.kIn, ?_⟩) hst hpl
  exact run_fn (us := .ref a :: us) (vs := .ref a :: vs) F hr hb hd hx I2 (.cons rfl r) q2
/-- o.m() -/
theorem pe_meth0 {pl : Sem Bool} (he : PE X o ta) (c : Cls X.K C) (hm : Meth X.K C m f) (F : FnOk X.prog X.w X.K X.mg X.base CX k f fd ps sp) (hr : Room k X.A) (hb : Binds X.K fd ps ds) (hd : Vals dvs ds) (hx : Passes CX X E)
    (ht : eval (.Call (.Attribute o m apos) [] [] pos) X.env = (do
      let ov ← eval o X.env
      standAt apos.atName
      let (f, first) ← holding [ov] (getMethod ov m pl)
      callWith pos f first (backTo pos (starEach [] X.env)) (backToKw pos (keywordEach [] X.env))) := by rfl) :
    PE X (.Call (.Attribute o m apos) [] [] pos) (tMeth C m sp dvs E ta tNil) := by
  intro pins s σ H Q I h
  refine PySem.W.methodCall_KW (pl := pl) (thn (he pins s σ H _ I h) fun u s1 ⟨x, H1, I1, rx, a, dx, fs, ex, ea, l, q⟩ => ?_) ht
  subst ex
  obtain rfl : u = Value.ref a := rx
  refine getmeth_ok I1 ea c hm l ?_
  exact PySem.W.callWith_K0 (first := [.ref a]) I1.kIn hm.kp (run_fn (us := [.ref a]) (vs := [.ref a]) F hr hb hd hx I1 (.cons rfl .nil) q)

/-- what a class must have to be made -/
structure Mk (K : PySem.W.Frag) (C f : Addr) : Prop where
  makes : PySem.W.makesIn K C = true
  init : PySem.W.findIn K (.ref C) "__init__" = some (some (.ref f))
  fn : PySem.W.isFn K (.ref f) = true
  kp : PySem.W.keepIn K (.ref C) = true

theorem run_make {pins : List (Addr × Obj)} {σ : St} {H : Hp} {s : Shared} {Q : VK} {us : List Value} {vs : List V} (M : Mk X.K C f) (F : FnOk X.prog X.w X.K X.mg X.base CX k f fd ps sp) (hr : Room (k + 1) X.A) (hb : Binds X.K fd ps ds) (hd : Vals dvs ds)
    (hx : Passes CX X E) (I : Inv X pins σ H s) (r : Vals vs us)
    (h : ∀ x dx, H x = none → H dx = none → dx ≠ x → sp (.ref x :: (vs ++ dvs)) (upd (upd H dx (.own x)) x (.ins C dx [])) (fun v H2 => v = .non ∧ Q (.ref x) H2) E) :
    wpAny (model X.prog X.w) X.A (call (.ref C) us) (EP X pins σ Q) X.xe s := by
  have hq := h (s.heap.objs.size + 1) s.heap.objs.size (I.hok.fresh (Nat.le_succ _)) (I.hok.fresh (Nat.le_refl _)) (Nat.ne_of_lt (Nat.lt_succ_self _))
  have I2 := Inv.made (C := C) I
  have r2 : Vals (V.ref (s.heap.objs.size + 1) :: (vs ++ dvs)) (Value.ref (s.heap.objs.size + 1) :: (us ++ ds)) := .cons rfl (r.append hd)
  have hl : (Value.ref (s.heap.objs.size + 1) :: us ++ ds).length = ps.length := by
    have e := r2.length
    rw [F.len _ _ _ _ hq] at e
    exact e.symm
  refine wpAny_call (make_map (f := f) I.kIn M.makes M.init (beq_iff_eq.mp M.fn) (codeAny_mono (F.run _ X.stack _ _ ⟨Value.ref (s.heap.objs.size + 1) :: us, []⟩ (Value.ref (s.heap.objs.size + 1) :: (us ++ ds)) _ _ E (hr.make C us [])
    (I2.env0.make C us []) (hb _ (Value.ref (s.heap.objs.size + 1) :: us) I2.kIn hl) r2 hq) fun r s' hq' => ?_))
  cases r with
  | error e => exact hx pins σ _ _ e s' I2 hq'
  | ok fl =>
    cases fl with
    | ret u =>
      obtain ⟨v, H', I3, rv, ev, q3⟩ := I2.after hq'
      subst ev
      exact ⟨rv, ⟨V.ref (s.heap.objs.size + 1), H', I3, rfl, q3⟩⟩
    | next => exact False.elim hq'
    | brk => exact False.elim hq'
    | cont => exact False.elim hq'
theorem pe_make (M : Mk X.K C f) (F : FnOk X.prog X.w X.K X.mg X.base CX k f fd ps sp) (hr : Room (k + 1) X.A) (hg : Gl X x) (hm : X.mg x = some (.ref C)) (hb : Binds X.K fd ps ds) (hd : Vals dvs ds) (hx : Passes CX X E)
    (ha : PA X (e :: es) t) (hdb : (x == ("__debug__" : Str)) = false := by decide) (he : starEach (e :: es) X.env = (false, eval e X.env) :: starEach es X.env := by rfl) (hpl : (backTo pos (starEach es X.env)).any (·.1) = false := by rfl) :
    PE X (.Call (.Name x p) (e :: es) [] pos) (tMake C sp dvs E t) := by
  intro pins s σ H Q I h
  refine wpAny_Call_Name_kw (ld_glob I hg hm ?_ hdb)
  refine PySem.W.callWith_K (h₀ := X.base) I.ok.mod.kin M.kp (thn (ha pos pins s σ H _ I h) fun us s1 ⟨vs, H1, I1, r, q⟩ => ⟨I1.kIn, ?_⟩) he hpl
  exact run_make M F hr hb hd hx I1 r q
theorem pe_make0 (M : Mk X.K C f) (F : FnOk X.prog X.w X.K X.mg X.base CX k f fd ps sp) (hr : Room (k + 1) X.A) (hg : Gl X x) (hm : X.mg x = some (.ref C)) (hb : Binds X.K fd ps ds) (hd : Vals dvs ds) (hx : Passes CX X E)
    (hdb : (x == ("__debug__" : Str)) = false := by decide) : PE X (.Call (.Name x p) [] [] pos) (tMake C sp dvs E tNil) := by
  intro pins s σ H Q I h
  refine wpAny_Call_Name_kw (ld_glob I hg hm ?_ hdb)
  exact PySem.W.callWith_K0 I.kIn M.kp (run_make (us := []) M F hr hb hd hx I .nil h)
end

/-! ### keywords -/
section
variable {X : Cx} {CX : CXT} {k : Nat} {f C : Addr} {fd : FuncData} {ps ks : List Str} {sp : Sp} {E : XK} {x m : Str} {p pos apos kpos : Pos} {e o : Expr} {es : List Expr} {kws : List Keyword} {te ta : TE} {t tk : TA} {nm : Option Str}

variable {g : List Value → List Value → List Value} {gV : List V → List V → List V}
end

/-! ### a def's body keeps its promise -/
/-- names: the parameters first -/
structure FnScope (N P : List Str) (sc : Scope) : Prop where
  kind : sc.kind = .function
  co : sc.isCoroutine = false
  gen : sc.isGenerator = false
  nd : N.Nodup
  pre : N.take P.length = P
  par : ∀ x ∈ P, sc.names.lookup x = some .local ∨ sc.names.lookup x = some .cell
  nofree : ∀ y ∈ sc.names, y.2 ≠ .free

theorem bindL_out {kindOf : Str → Option NameKind} {x : Str} : ∀ {binds : List (Str × Value)} {m : Str → Option Value}, (∀ v, (x, v) ∉ binds) → bindL kindOf binds m x = m x
  | [], _, _ => rfl
  | (n, v) :: r, m, h => by
    unfold bindL
    rw [bindL_out fun w hw => h w (List.mem_cons_of_mem _ hw)]
    split
    · have : x ≠ n := by rintro rfl; exact h v List.mem_cons_self
      simp [this]
    · rfl
theorem bindC_out {kindOf : Str → Option NameKind} {x : Str} : ∀ {binds : List (Str × Value)} {m : Str → Option Value}, (∀ v, (x, v) ∉ binds) → bindC kindOf binds m x = m x
  | [], _, _ => rfl
  | (n, v) :: r, m, h => by
    unfold bindC
    rw [bindC_out fun w hw => h w (List.mem_cons_of_mem _ hw)]
    split
    · rfl
    · have : x ≠ n := by rintro rfl; exact h v List.mem_cons_self
      simp [this]
theorem bindL_get {kindOf : Str → Option NameKind} {x : Str} {v : Value} : ∀ {P : List Str} {vs : List Value} {i : Nat} {m : Str → Option Value}, P.Nodup → P[i]? = some x → vs[i]? = some v → kindOf x = some .local →
    bindL kindOf (P.zip vs) m x = some v
  | [], _, _, _, _, h, _, _ => by simp at h
  | _ :: _, [], _, _, _, _, h, _ => by simp at h
  | p :: P, w :: vs, 0, m, nd, h1, h2, hk => by
    simp at h1 h2; subst h1; subst h2
    show bindL kindOf ((p, w) :: P.zip vs) m p = _
    unfold bindL
    rw [bindL_out fun v hv => (List.nodup_cons.mp nd).1 (List.of_mem_zip hv).1, if_pos hk]
    simp
  | p :: P, w :: vs, i + 1, m, nd, h1, h2, hk => by
    show bindL kindOf ((p, w) :: P.zip vs) m x = _
    unfold bindL
    exact bindL_get (i := i) (List.nodup_cons.mp nd).2 (by simpa using h1) (by simpa using h2) hk
theorem bindC_get {kindOf : Str → Option NameKind} {x : Str} {v : Value} : ∀ {P : List Str} {vs : List Value} {i : Nat} {m : Str → Option Value}, P.Nodup → P[i]? = some x → vs[i]? = some v → kindOf x ≠ some .local →
    bindC kindOf (P.zip vs) m x = some v
  | [], _, _, _, _, h, _, _ => by simp at h
  | _ :: _, [], _, _, _, _, h, _ => by simp at h
  | p :: P, w :: vs, 0, m, nd, h1, h2, hk => by
    simp at h1 h2; subst h1; subst h2
    show bindC kindOf ((p, w) :: P.zip vs) m p = _
    unfold bindC
    rw [bindC_out fun v hv => (List.nodup_cons.mp nd).1 (List.of_mem_zip hv).1, if_neg hk]
    simp
  | p :: P, w :: vs, i + 1, m, nd, h1, h2, hk => by
    show bindC kindOf ((p, w) :: P.zip vs) m x = _
    unfold bindC
    exact bindC_get (i := i) (List.nodup_cons.mp nd).2 (by simpa using h1) (by simpa using h2) hk

/-- the names' values at the entry -/
def start (N : List Str) (vs : List V) : St := vs.map some ++ List.replicate (N.length - vs.length) none

/-- the context of a def's body, at its entry; an exception leaves the frame, then lies as CX says -/
def cxOf (CX : CXT) (P : Program) (w : World) (K : PySem.W.Frag) (mg : Str → Option Value) (base : Heap) (N : List Str) (qual : Str) (scope : Scope) (f : Addr) (cd : Value) (A : Around) (outer : List Env) (s : Shared) (H : Hp) (E : XK) : Cx where
  prog := P
  w := w
  K := K
  mg := mg
  base := base
  A := A.deeper (envOfC qual scope s.heap.objs.size f cd)
  N := N
  s₀ := s
  H₀ := H
  env := envOfC qual scope s.heap.objs.size f cd
  outer := outer
  stack := envOfC qual scope s.heap.objs.size f cd :: outer
  ex := []
  calm := true
  fn := fun _ => true
  pn := []
  xe := fun e s' => wpAny (model P w) (A.deeper (envOfC qual scope s.heap.objs.size f cd)) (leaving (envOfC qual scope s.heap.objs.size f cd) e) (fun _ s'' => CX outer H s E e s'') (fun e' s'' => CX outer H s E e' s'') s'

theorem cell_has {sc : Scope} {n : Nat} {x : Str} (h : sc.names.lookup x = some .cell) : ∃ c, (cellsFrom n sc.names []).lookup x = some c := by
  have q := PySem.W.cellsFrom_some sc.names n [] (.inl h)
  exact Option.isSome_iff_exists.mp q

theorem inv_start {CX : CXT} {P : Program} {w : World} {K : PySem.W.Frag} {mg : Str → Option Value} {base : Heap} {N ps : List Str} {qual : Str} {scope : Scope} {f : Addr} {cd : Value} {A : Around} {outer : List Env} {s s1 : Shared} {H : Hp} {E : XK} {us : List Value} {vs : List V}
    (S : FnScope N ps scope) (hd : A.handled = none) (e0 : Env0 P w K mg base A outer s H) (hl : vs.length = ps.length) (r : Vals vs us)
    (x : InCallC s s.heap.objs.size (bindL (envOfC qual scope s.heap.objs.size f cd).kindOf (ps.zip us) fun _ => none) (cellsFrom (s.heap.objs.size + 1) scope.names []) (bindC (envOfC qual scope s.heap.objs.size f cd).kindOf (ps.zip us) fun _ => none) s1) :
    Inv (cxOf CX P w K mg base N qual scope f cd A outer s H E) [] (start N vs) H s1 := by
  have hpl : ps.length ≤ N.length := by have := congrArg List.length S.pre; rw [List.length_take] at this; omega
  obtain ⟨h1, tk, rfl, hk⟩ := x.done
  have noA : ∀ b : Addr, b ∉ (cxOf CX P w K mg base N qual scope f cd A outer s H E).ex := fun b z => absurd (show b ∈ ([] : List Addr) from z) (by simp)
  refine ⟨⟨e0.mod, S.kind, rfl, rfl, Nat.le_refl _, fun y z c h1 h2 => ?_, fun y hy => ?_, fun y c _ h => ?_, fun _ => hd, Around.frames_deeper e0.frames, .inr ⟨rfl, rfl⟩, fun b z => absurd z (noA b), e0.bs, e0.bsz, fun b _ _ => noA b, fun b z => absurd z (noA b), e0.funs, e0.frf⟩,
    rfl, e0.bare, Un.kept hk, ⟨_, x.toInCall.ns, fun i y v h1 h2 h3 => ?_⟩, fun y c h => ⟨_, x.cell y c h⟩, e0.hok.fresh (Nat.le_refl _), fun y c h => ?_, fun p hp => absurd (show p ∈ ([] : List (Addr × Obj)) from hp) (by simp), e0.hok.kept hk, ?_⟩
  · exact name_of_addr x.apart (PySem.mem_of_lookup h1) (PySem.mem_of_lookup h2)
  · have hy : scope.names.lookup y = some .cell ∨ scope.names.lookup y = some .free := hy
    rcases hy with hy | hy
    · exact cell_has hy
    · exact absurd rfl (S.nofree _ (PySem.mem_of_lookup hy))
  · exact Nat.le_of_lt (x.above y c (PySem.mem_of_lookup h))
  · have hi : i < vs.length := by
      unfold start at h2
      by_cases hi : i < vs.length
      · exact hi
      · rw [List.getElem?_append_right (by simpa using hi)] at h2
        rw [List.getElem?_replicate] at h2
        split at h2 <;> cases h2
    have ha : vs[i]? = some v := by
      unfold start at h2
      rw [List.getElem?_append_left (by simpa using hi), List.getElem?_map] at h2
      cases e : vs[i]? with
      | none => rw [e] at h2; cases h2
      | some a => rw [e] at h2; cases h2; rfl
    obtain ⟨u, hu, rv⟩ := r.get ha
    have hp : ps[i]? = some y := by
      rw [← S.pre, List.getElem?_take_of_lt (by omega)]; exact h1
    have ndP : ps.Nodup := by rw [← S.pre]; exact S.nd.sublist (List.take_sublist _ _)
    refine ⟨u, rv, ?_⟩
    rcases S.par y (List.mem_of_getElem? hp) with k | k
    · exact .inl ⟨k, bindL_get ndP hp hu k⟩
    · obtain ⟨c, e⟩ := cell_has (n := s.heap.objs.size + 1) k
      refine .inr ⟨.inl k, c, e, ?_⟩
      have q := x.cell y c e
      rw [bindC_get ndP hp hu (by show scope.names.lookup y ≠ _; rw [k]; decide)] at q
      exact q
  · exact e0.hok.fresh (Nat.le_of_lt (x.above y c (PySem.mem_of_lookup h)))
  · unfold start
    show _ = N.length
    rw [List.length_append, List.length_map, List.length_replicate]
    omega

/-- THE RULE: a def (or a method) of the text, by its body. The body's reading t is chosen for each entry; it is run at the parameters' values -/
theorem fn_of {CX : CXT} {P : Program} {w : World} {K : PySem.W.Frag} {mg : Str → Option Value} {base : Heap} {k : Nat} {f : Addr} {name qual : Str} {params : Arguments} {body : List Stmt} {scope : Scope} {dV kV doc pm cdv ct oc : Value} {an od : Option Addr}
    {osl : Array (Option Value)} {N ps : List Str} {sp : Sp} (lk : K.lookup f = some ⟨oc, od, .func (PySem.W.fnOf name qual params body scope dV kV doc pm an cdv ct), osl⟩) (hcd : PySem.W.codeIn K cdv qual = true) (S : FnScope N ps scope)
    (len : ∀ vs H Q E, sp vs H Q E → vs.length = ps.length)
    (hbody : ∀ (A : Around) (outer : List Env) (s : Shared) (H : Hp) (vs : List V) (Q : VK) (E : XK), Room k (A.deeper (envOfC qual scope s.heap.objs.size f cdv)) → sp vs H Q E →
      ∃ t, PSs (cxOf CX P w K mg base N qual scope f cdv A outer s H E) body t ∧ t { nx := fun _ H' => Q .non H', rt := Q } (start N vs) H) :
    FnOk P w K mg base CX (k + 1) f (PySem.W.fnOf name qual params body scope dV kV doc pm an cdv ct) ps sp := by
  refine ⟨len, fun A outer s H args us vs Q E hr e0 hb r hsp => ?_⟩
  have hl := len _ _ _ _ hsp
  have KX : K.In s.heap := e0.mod.kin.keeps fun b o e => (e0.bs b o e).1
  have lim : s.heap.NoLimit := e0.mod.nolimit.keeps fun b o e => (e0.bs b o e).1
  have hkind : ∀ y ∈ ps.zip us, scope.names.lookup y.1 = some .local ∨ (scope.names.lookup y.1 = some .cell ∧ ((cellsFrom (s.heap.objs.size + 1) scope.names []).lookup y.1).isSome = true) := fun ⟨n, v⟩ hy => by
    rcases S.par n (List.of_mem_zip hy).1 with q | q
    · exact .inl q
    · exact .inr ⟨q, PySem.W.cellsFrom_some _ _ _ (.inl q)⟩
  refine codeAny_call_function hr.depth (KX _ _ lk) rfl S.co S.gen rfl (PySem.W.codeRec_of KX hcd) (hb _ _ _ _ ?_)
  refine wpAny_newFunctionEnv_cells S.kind hkind fun env he s1 x => ?_
  subst he
  refine ⟨lim.keeps x.toInCall.keep, codeAny_func ?_⟩
  obtain ⟨t, ht, hq⟩ := hbody A outer s H vs Q E (hr.deeper _) hsp
  have I : Inv (cxOf CX P w K mg base N qual scope f cdv A outer s H E) [] (start N vs) H s1 := inv_start S hr.hd e0 hl r x
  refine wpAny_mono (ht [] s1 (start N vs) H _ I hq) (fun fl s' hs => ?_) fun e s' hs => hs
  have fin : ∀ {σ' : St} {H' : Hp} {v : V} {u : Value}, Inv (cxOf CX P w K mg base N qual scope f cdv A outer s H E) [] σ' H' s' → RelV v u → Q v H' → CE outer P w H s Q u s' :=
    fun {σ' H' v u} J rv q => ⟨v, H', J.os, J.bare, J.base, J.hok, rv, q⟩
  cases fl with
  | ret u =>
    obtain ⟨v, σ', H', J, rv, q⟩ := hs
    exact fin J rv q
  | next =>
    obtain ⟨σ', H', J, q⟩ := hs
    exact fin (v := V.non) (u := Value.none) J rfl q
  | brk =>
    obtain ⟨_, _, _, q⟩ := hs
    exact False.elim q
  | cont =>
    obtain ⟨_, _, _, q⟩ := hs
    exact False.elim q
end L2

namespace L2
open PySem PySem.Spec PyProof.Rows
section
variable {X : Cx} {x : Str} {p pos : Pos} {e : Expr} {es : List Expr} {t : TA} {id T : String} {r : List V → Hp → VK → Prop}

def tCB (r : List V → Hp → VK → Prop) (t : TA) : TE := fun σ H Q => t σ H fun vs H1 => r vs H1 Q
/-- f(e, ..), f a built-in function -/
theorem pe_callB (hc : CallR X (.builtin id) r) (hg : Gl X x) (hm : X.mg x = none) (hv : bootBuiltins x = some (.builtin id)) (ha : PA X (e :: es) t) (hn : x ≠ "__name__" := by decide) (hdb : (x == ("__debug__" : Str)) = false := by decide)
    (he : starEach (e :: es) X.env = (false, eval e X.env) :: starEach es X.env := by rfl) (hpl : (backTo pos (starEach es X.env)).any (·.1) = false := by rfl) : PE X (.Call (.Name x p) (e :: es) [] pos) (tCB r t) := by
  intro pins s σ H Q I h
  refine wpAny_Call_Name_kw (ld_blt I hg hm hv ?_ hn hdb)
  exact PyProof.Rows.callWith_builtin1 (thn (ha pos pins s σ H _ I h) fun us s1 ⟨vs, H1, I1, r1, q1⟩ => hc pins s1 σ H1 vs us Q I1 r1 q1) he hpl
/-- T(e, ..), T a built-in type -/
theorem pe_callTy (hc : CallR X (.type T) r) (hg : Gl X x) (hm : X.mg x = none) (hv : bootBuiltins x = some (.type T)) (ha : PA X (e :: es) t) (hn : x ≠ "__name__" := by decide) (hdb : (x == ("__debug__" : Str)) = false := by decide)
    (he : starEach (e :: es) X.env = (false, eval e X.env) :: starEach es X.env := by rfl) (hpl : (backTo pos (starEach es X.env)).any (·.1) = false := by rfl) : PE X (.Call (.Name x p) (e :: es) [] pos) (tCB r t) := by
  intro pins s σ H Q I h
  refine wpAny_Call_Name_kw (ld_blt I hg hm hv ?_ hn hdb)
  exact PyProof.Rows.callWith_type1 (thn (ha pos pins s σ H _ I h) fun us s1 ⟨vs, H1, I1, r1, q1⟩ => hc pins s1 σ H1 vs us Q I1 r1 q1) he hpl
end
end L2

namespace HT
open PySem PyProof.Rows



section
open PySem.SeqAt
open PySem.AutoSeq1 (wpAny_loadPart')
open PySem.MeetsSeq PySem.MeetsSeq2 PySem.MeetsSeq3

end

section
variable {prog : Program} {w : World} {A : Around} {E : Value → Shared → Prop} {s : Shared}



/-! ### t[a:b], not the whole -/
/-- a slice's bound as a place among n (d where it is left out) -/
def sIx (n d : Nat) : Option Int → Nat
  | none => d
  | some v => if v < 0 then (v + (n : Int)).toNat else min v.toNat n
theorem sIx_nat (n d k : Nat) : sIx n d (some (k : Int)) = min k n := by
  show (if (k : Int) < 0 then ((k : Int) + (n : Int)).toNat else min (k : Int).toNat n) = min k n
  rw [if_neg (by omega), Int.toNat_natCast]

end
end HT

namespace L2
open PySem PySem.Spec PyProof.Rows

/-! ### the parts of a slice -/
abbrev TO := St → Hp → (Option Int → Hp → Prop) → Prop
/-- a slice's part (left out, or an int) -/
def PO (X : Cx) (e : Option Expr) (t : TO) : Prop :=
  ∀ (pins : List (Addr × Obj)) (s : Shared) (σ : St) (H : Hp) (Q : Option Int → Hp → Prop), Inv X pins σ H s → t σ H Q →
    wpAny (model X.prog X.w) X.A (evalPart e X.env) (fun u s' => ∃ o H', Inv X pins σ H' s' ∧ IsPart u o ∧ Q o H') X.xe s
def tNoPart : TO := fun _ H Q => Q none H
def tPart (t : TE) : TO := fun σ H Q => t σ H fun x H1 => ∃ i, x = .int i ∧ Q (some i) H1

theorem intsAre_of {ns : List Int} : ∀ {us : List Value}, Vals (ns.map V.int) us → IntsAre us ns := by
  induction ns with
  | nil => intro us r; rw [List.map_nil] at r; cases r; exact .nil
  | cons n ns ih =>
    intro us r
    rw [List.map_cons] at r
    cases r with
    | cons r1 r2 =>
      obtain ⟨t, e⟩ := r1
      subst e
      exact .cons n t (ih r2)

section
variable {X : Cx} {e : Expr} {te : TE} {lo hi : Option Expr} {tl th : TO} {pos p2 : Pos}

theorem po_none : PO X none tNoPart := by
  intro pins s σ H Q I h
  rw [evalPart_none]
  exact wpAny_pure ⟨none, H, I, .none, h⟩
theorem po_some (h : PE X e te) : PO X (some e) (tPart te) := by
  intro pins s σ H Q I hw
  rw [evalPart_some]
  refine thn (h pins s σ H _ I hw) fun u s1 ⟨x, H1, I1, r1, q1⟩ => ?_
  obtain ⟨i, rfl, q⟩ := q1
  obtain ⟨t, rfl⟩ := r1
  exact ⟨some i, H1, I1, .int i t, q⟩

/-- what a slice of a value is, by values: the slice object stands at sl -/
def SlR (X : Cx) (r : V → Option Int → Option Int → Hp → VK → Prop) : Prop :=
  ∀ (pins : List (Addr × Obj)) (s : Shared) (σ : St) (H : Hp) (x : V) (v vl vu : Value) (lo hi : Option Int) (sl : Addr) (Q : VK), Inv X pins σ H s → RelV x v → s.heap.IsSliceOf sl vl vu .none → IsPart vl lo → IsPart vu hi → r x lo hi H Q →
    ∃ T id, typeLookup (.type T) "__getitem__" = pure (some (.builtin id)) ∧ s.TypeIs v T ∧ wpAny (model X.prog X.w) X.A (getItem v (.ref sl)) (EP X pins σ Q) X.xe s
def tSl (r : V → Option Int → Option Int → Hp → VK → Prop) (te : TE) (tl th : TO) : TE := fun σ H Q => te σ H fun x H1 => tl σ H1 fun l H2 => th σ H2 fun u H3 => r x l u H3 Q
/-- a[lo:hi], any a -/
theorem pe_slice {r : V → Option Int → Option Int → Hp → VK → Prop} (hr : SlR X r) (he : PE X e te) (hl : PO X lo tl) (hu : PO X hi th) : PE X (.Subscript e (.Slice lo hi none p2) pos) (tSl r te tl th) := by
  intro pins s σ H Q I h
  refine Subscript_ (thn (he pins s σ H _ I h) fun v s1 ⟨x, H1, I1, r1, q1⟩ => ?_)
  refine wpAny_Slice (thn (hl pins s1 σ H1 _ I1 q1) fun vl s2 ⟨l, H2, I2, pl, q2⟩ => thn (hu pins s2 σ H2 _ I2 q2) fun vu s3 ⟨u, H3, I3, pu, q3⟩ => ?_)
  rw [evalPart_none]
  refine wpAny_pure ?_
  have I4 : Inv X pins σ H3 { s3 with heap := s3.heap.push { cls := .type "slice", data := .fields #[vl, vu, .none] } } := I3.kept (t' := s3.toks) fun b ob q => Heap.get?_push_of_some _ q
  obtain ⟨T, id, hT, ht, hg⟩ := hr pins { s3 with heap := s3.heap.push { cls := .type "slice", data := .fields #[vl, vu, .none] } } σ H3 x v vl vu l u s3.heap.objs.size Q I4 r1 (Heap.IsSliceOf.new ..) pl pu q3
  show wpAny (model X.prog X.w) X.A (subscriptTail e (.Slice lo hi none p2) v (.ref s3.heap.objs.size)) (EP X pins σ Q) X.xe { s3 with heap := s3.heap.push { cls := .type "slice", data := .fields #[vl, vu, .none] } }
  exact tail_any (ops := [.ref s3.heap.objs.size, v]) ht hT hg (by with_unfolding_all rfl)

/-- the items of xs[lo:hi] -/
def cutV (xs : List V) (lo hi : Option Int) : List V := (xs.drop (HT.sIx xs.length 0 lo)).take (HT.sIx xs.length xs.length hi - HT.sIx xs.length 0 lo)
theorem cutV_length (xs : List V) (lo hi : Option Int) : (cutV xs lo hi).length ≤ xs.length := by
  unfold cutV
  rw [List.length_take, List.length_drop]
  omega

/-! ### t < u, t + u -/
end
end L2

namespace L2
open PySem PySem.Spec PyProof.Rows

/-! ### places -/
/-- the place that an index of any sign means -/
def ixN (n : Nat) (i : Int) : Option Nat := if 0 ≤ i then (if i < n then some i.toNat else none) else if -(n : Int) ≤ i then some (i + n).toNat else none
def atI {α : Type} (xs : List α) (i : Int) : Option α := (ixN xs.length i).bind fun j => xs[j]?
theorem ixN_seq {n : Nat} {i : Int} {j : Nat} (h : ixN n i = some j) : seqIndex? i n = some j ∧ j < n ∧ -(n : Int) ≤ i ∧ i < n := by
  unfold ixN at h
  by_cases h0 : 0 ≤ i
  · rw [if_pos h0] at h
    by_cases h1 : i < n
    · rw [if_pos h1] at h
      have e : i.toNat = j := Option.some.inj h
      exact ⟨by rw [seqIndex_of h0 h1, e], by omega, by omega, h1⟩
    · rw [if_neg h1] at h; cases h
  · rw [if_neg h0] at h
    by_cases h1 : -(n : Int) ≤ i
    · rw [if_pos h1] at h
      have e : (i + n).toNat = j := Option.some.inj h
      exact ⟨by rw [seqIndex_neg (by omega) h1, e], by omega, h1, by omega⟩
    · rw [if_neg h1] at h; cases h
theorem atI_get {α : Type} {xs : List α} {i : Int} {v : α} (h : atI xs i = some v) : ∃ j, seqIndex? i xs.length = some j ∧ xs[j]? = some v ∧ j < xs.length ∧ -(xs.length : Int) ≤ i ∧ i < xs.length := by
  unfold atI at h
  cases e : ixN xs.length i with
  | none => rw [e] at h; cases h
  | some j =>
    rw [e] at h
    obtain ⟨h1, h2, h3, h4⟩ := ixN_seq e
    exact ⟨j, h1, h, h2, h3, h4⟩
theorem atI_nat {α : Type} {xs : List α} {j : Nat} {v : α} (h : xs[j]? = some v) : atI xs (j : Int) = some v := by
  have hj : j < xs.length := (List.getElem?_eq_some_iff.mp h).1
  have e : ixN xs.length (j : Int) = some j := by
    unfold ixN
    rw [if_pos (by omega), if_pos (by omega)]; simp
  unfold atI; rw [e]; exact h
theorem atI_last {α : Type} (xs : List α) (v : α) : atI (xs ++ [v]) (-1) = some v := by
  have hl : (xs ++ [v]).length = xs.length + 1 := by simp
  have e : ixN (xs ++ [v]).length (-1) = some xs.length := by
    unfold ixN
    rw [hl, if_neg (by decide), if_pos (by omega)]
    congr 1
    omega
  unfold atI
  rw [e]
  show (xs ++ [v])[xs.length]? = some v
  simp

/-! ### what may be subscripted -/
/-- what stands as an index of a plain subscript -/
def PlainIx (b : Expr) : Prop := ∀ o i, subscripted b false o i = operate [o, i] (getItem o i)
/-- a subscript by values -/
def IxR (X : Cx) (r : R2) : Prop :=
  ∀ (value slice : Expr) (pins : List (Addr × Obj)) (s : Shared) (σ : St) (H : Hp) (x y : V) (v u : Value) (Q : VK), Inv X pins σ H s → RelV x v → RelV y u → r x y H Q →
    subscripted slice false v u = operate [v, u] (getItem v u) → wpAny (model X.prog X.w) X.A (subscriptTail value slice v u) (EP X pins σ Q) X.xe s
/-- a call of a builtin's method by values: the receiver, the arguments -/
def MtR (X : Cx) (id : String) (r : V → List V → Hp → VK → Prop) : Prop :=
  ∀ (pins : List (Addr × Obj)) (s : Shared) (σ : St) (H : Hp) (x : V) (xs : List V) (v : Value) (us : List Value) (Q : VK), Inv X pins σ H s → RelV x v → Vals xs us → r x xs H Q →
    wpAny (model X.prog X.w) X.A (call (.builtin id) (v :: us)) (EP X pins σ Q) X.xe s
section
variable {X : Cx} {a b : Expr} {ta tb : TE} {pos : Pos}
theorem IxR.or {r r' : R2} (h : IxR X r) (h' : IxR X r') : IxR X (fun x y H Q => r x y H Q ∨ r' x y H Q) := by
  intro value slice pins s σ H x y v u Q I rx ry q hs
  rcases q with q | q
  · exact h value slice pins s σ H x y v u Q I rx ry q hs
  · exact h' value slice pins s σ H x y v u Q I rx ry q hs
/-- a[b] -/
theorem pe_ix {r : R2} (hr : IxR X r) (ha : PE X a ta) (hb : PE X b tb) (hs : PlainIx b) : PE X (.Subscript a b pos) (tOp r ta tb) := by
  intro pins s σ H Q I h
  exact Subscript_ (binT ha hb I h fun v u s2 x y H2 I2 rx ry q => hr a b pins s2 σ H2 x y v u Q I2 rx ry q (hs _ _))

def rIxL (K : PySem.W.Frag) : R2 := fun x y H Q => ∃ p xs i v, x = .ref p ∧ y = .int i ∧ SqL K H p xs ∧ atI xs i = some v ∧ Q v H
def rIxT (K : PySem.W.Frag) : R2 := fun x y H Q => ∃ p xs i v, x = .ref p ∧ y = .int i ∧ SqT K H p xs ∧ atI xs i = some v ∧ Q v H
def rIxS : R2 := fun x y H Q => ∃ z i c, x = .str z ∧ y = .int i ∧ z.length ≤ sizeLine ∧ atI z.cps.toList i = some c ∧ Q (.str ⟨#[c]⟩) H
theorem ix_list : IxR X (rIxL X.K) := by
  intro value slice pins s σ H x y v u Q I rx ry h hs
  obtain ⟨p, xs, i, z, rfl, rfl, hq, he, q⟩ := h
  cases rx
  obtain ⟨t, rfl⟩ := ry
  obtain ⟨its, r, pl, hz⟩ := I.list hq
  obtain ⟨j, h1, h2, h3, h4, h5⟩ := atI_get he
  obtain ⟨w, ew, rw'⟩ := r.get h2
  have hl := r.length
  have hn := line63
  have fin : EP X pins σ Q w s := ⟨z, H, I, rw', q⟩
  by_cases h0 : 0 ≤ i
  · have hj : i.toNat = j := by
      rw [seqIndex_of h0 h5] at h1
      exact Option.some.inj h1
    exact item_listR pl.isList h0 (by omega) (by rw [hj]; simpa using ew) fin hs
  · have hj : (i + (its.toArray.size : Int)).toNat = j := by
      rw [seqIndex_neg (by omega) h4] at h1
      rw [List.size_toArray, ← hl]
      exact Option.some.inj h1
    exact subscriptTail_builtinR (x := w) pl.isList.typeIs slot_list_getitem.lookup
      (wpAny_getItem_list_neg (Q := fun r s' => r = w ∧ EP X pins σ Q r s') pl.isList (by omega) (by rw [List.size_toArray] <;> omega) (by omega) (by rw [hj]; simpa using ew) ⟨rfl, fin⟩) hs
theorem ix_tup : IxR X (rIxT X.K) := by
  intro value slice pins s σ H x y v u Q I rx ry h hs
  obtain ⟨p, xs, i, z, rfl, rfl, hq, he, q⟩ := h
  cases rx
  obtain ⟨t, rfl⟩ := ry
  obtain ⟨its, r, pl, hz⟩ := I.tuple hq
  obtain ⟨j, h1, h2, h3, h4, h5⟩ := atI_get he
  obtain ⟨w, ew, rw'⟩ := r.get h2
  have hl := r.length
  have hn := line63
  have fin : EP X pins σ Q w s := ⟨z, H, I, rw', q⟩
  exact subscriptTail_builtinR (x := w) pl.typeIs slot_tuple_getitem.lookup
    (getItem_tuple (j := j) (Q := fun r s' => r = w ∧ EP X pins σ Q r s') pl (by omega) (by omega) (by rw [List.size_toArray, ← hl]; exact h1) (by simpa using ew) ⟨rfl, fin⟩) hs
theorem ix_str : IxR X rIxS := by
  intro value slice pins s σ H x y v u Q I rx ry h hs
  obtain ⟨z, i, c, rfl, rfl, hz, he, q⟩ := h
  obtain ⟨t, rfl⟩ := rx
  obtain ⟨t', rfl⟩ := ry
  obtain ⟨j, h1, h2, h3, h4, h5⟩ := atI_get he
  have hl : z.cps.toList.length = z.length := by simp [Str.length]
  rw [hl] at h1 h4 h5
  have hn := line63
  exact tail_any (typeIs_str s z t) slot_str_getitem.lookup (getItem_str (c := c) (by
    have e1 : decide (i < -(2 ^ 63 : Int)) = false := decide_eq_false (by omega)
    have e2 : decide (i ≥ 2 ^ 63) = false := decide_eq_false (by omega)
    rw [e1, e2, Bool.or_false]) (by rw [h1]; simpa using h2) ⟨.str ⟨#[c]⟩, H, I.tok _, ⟨_, rfl⟩, q⟩) hs
/-- list, tuple or str -/
def rIx (K : PySem.W.Frag) : R2 := fun x y H Q => rIxL K x y H Q ∨ rIxT K x y H Q ∨ rIxS x y H Q
theorem ix_seq : IxR X (rIx X.K) := ix_list.or (ix_tup.or ix_str)

/-! ### xs[i] = v, any sign -/
/-- the list's object behind a store -/
theorem mapSeq_set (its : List Value) (n j : Nat) (u : Value) : Obj.mapSeq (·.setIfInBounds j u) { cls := .type "list", data := .seq its.toArray n } = { cls := .type "list", data := .seq (its.set j u).toArray n } := by
  simp [Obj.mapSeq]
theorem Inv.lst {pins : List (Addr × Obj)} {σ : St} {H : Hp} {s : Shared} {p : Addr} {xs : List V} (I : Inv X pins σ H s) (h : H p = some (.lst xs)) :
    ∃ (its : List Value) (n : Nat), Vals xs its ∧ s.heap.get? p = some { cls := .type "list", data := .seq its.toArray n } ∧ xs.length ≤ sizeLine := by
  obtain ⟨z, its, n, r, e⟩ := I.hok p _ h
  exact ⟨its, n, r, e, z⟩
/-- the list at p is written by an update of its object -/
theorem Inv.lstUpd {pins : List (Addr × Obj)} {σ : St} {H : Hp} {s : Shared} {p : Addr} {xs ys : List V} {its its' : List Value} {n n' : Nat} {f : Obj → Obj} (I : Inv X pins σ H s) (h : H p = some (.lst xs))
    (ho : s.heap.get? p = some { cls := .type "list", data := .seq its.toArray n }) (hf : f { cls := .type "list", data := .seq its.toArray n } = { cls := .type "list", data := .seq its'.toArray n' }) (r : Vals ys its') (hz : ys.length ≤ sizeLine) (t : Nat) :
    Inv X pins σ (upd H p (.lst ys)) { s with heap := s.heap.update p f, toks := t } := by
  have e : (s.heap.update p f).get? p = some { cls := .type "list", data := .seq its'.toArray n' } := by
    rw [Heap.get?_update_self f ho (by rw [hf] <;> rfl), hf]
  refine I.write (x := p) (e := p) (by rw [h]; trivial) (.inl rfl) (fun b u hb q => (Heap.get?_update_other _ _ (Ne.symm hb)).trans q) ⟨_, e⟩ ?_
  exact ⟨hz, its', n', r, e⟩
def rSetL : V → V → V → Hp → (Hp → Prop) → Prop := fun o i v H Q => ∃ p xs k j, o = .ref p ∧ i = .int k ∧ H p = some (.lst xs) ∧ ixN xs.length k = some j ∧ Q (upd H p (.lst (xs.set j v)))
theorem set_list : PSet X rSetL := by
  intro pins s σ H o i v ov iv u Q I ro ri rv h
  obtain ⟨p, xs, k, j, rfl, rfl, hp, hj, q⟩ := h
  cases ro
  obtain ⟨t, rfl⟩ := ri
  obtain ⟨its, n, r, ho, hz⟩ := I.lst hp
  obtain ⟨h1, h2, h3, h4⟩ := ixN_seq hj
  have hl := r.length
  have hn := line63
  have I' : Inv X pins σ (upd H p (.lst (xs.set j v))) { s with heap := s.heap.update p (Obj.mapSeq (·.setIfInBounds j u)) } :=
    I.lstUpd hp ho (mapSeq_set its n j u) (r.set rv j) (by rw [List.length_set]; exact hz) s.toks
  by_cases h0 : 0 ≤ k
  · have hk : k.toNat = j := by
      rw [seqIndex_of h0 h4] at h1
      exact Option.some.inj h1
    exact PySem.W.ki_setAt ho h0 (by omega) (by rw [List.size_toArray, ← hl]; exact h4) (by rw [hk]; exact ⟨_, I', q⟩)
  · have hk : (k + (its.toArray.size : Int)).toNat = j := by
      rw [seqIndex_neg (by omega) h3] at h1
      rw [List.size_toArray, ← hl]
      exact Option.some.inj h1
    exact PySem.W.ki_setBack ho (by omega) (by rw [List.size_toArray, ← hl]; exact h3) (by omega) (by rw [hk]; exact ⟨_, I', q⟩)

/-! ### slices -/
theorem slice_bounds (lo hi : Option Int) (n : Nat) : (sliceBounds lo hi none n).1 = ((HT.sIx n 0 lo : Nat) : Int) ∧ (sliceBounds lo hi none n).2.1 = ((HT.sIx n n hi : Nat) : Int) ∧ (sliceBounds lo hi none n).2.2 = 1 := by
  refine ⟨?_, ?_, rfl⟩
  · cases lo with
    | none => simp [sliceBounds, HT.sIx]
    | some i =>
      simp only [sliceBounds, HT.sIx, Option.getD_none, show (1 : Int) > 0 by decide, if_true]
      by_cases h : i < 0
      · simp only [h, if_true] <;> omega
      · simp only [h, if_false] <;> omega
  · cases hi with
    | none => simp [sliceBounds, HT.sIx]
    | some i =>
      simp only [sliceBounds, HT.sIx, Option.getD_none, show (1 : Int) > 0 by decide, if_true]
      by_cases h : i < 0
      · simp only [h, if_true] <;> omega
      · simp only [h, if_false] <;> omega
theorem slicePick_cut (its : List Value) (lo hi : Option Int) : slicePick its.toArray lo hi none = ((its.drop (HT.sIx its.length 0 lo)).take (HT.sIx its.length its.length hi - HT.sIx its.length 0 lo)).toArray := by
  obtain ⟨h1, h2, h3⟩ := slice_bounds lo hi its.toArray.size
  unfold slicePick
  rw [h1, h2, h3]
  simp only [sliceRange_one, pick_run, List.size_toArray] <;> rfl
/-- xs[lo:hi] of a list: a new list -/
def rSlL (K : PySem.W.Frag) : V → Option Int → Option Int → Hp → VK → Prop := fun x lo hi H Q => ∃ a xs, x = .ref a ∧ SqL K H a xs ∧ ∀ p, H p = none → Q (.ref p) (upd H p (.lst (cutV xs lo hi)))
theorem sl_list : SlR X (rSlL X.K) := by
  intro pins s σ H x v vl vu lo hi sl Q I rx hs pl pu h
  obtain ⟨a, xs, rfl, hx, q⟩ := h
  cases rx
  obtain ⟨its, r, ht, hz⟩ := I.list hx
  have hlen := r.length
  refine ⟨"list", _, slot_list_getitem.lookup, ht.isList.typeIs, ?_⟩
  refine wpAny_getItem_list_slice ht.isList hs pl pu .none (by simp) ?_ (by rw [List.size_toArray] <;> omega)
  rw [slicePick_cut, ← hlen]
  refine ⟨.ref s.heap.objs.size, _, I.laid (t' := s.toks) (o := .lst (cutV xs lo hi)) (fun b ob q => Heap.get?_push_of_some _ q) (Nat.le_refl _) ?_, rfl, q _ (I.hok.fresh (Nat.le_refl _))⟩
  exact ⟨Nat.le_trans (cutV_length xs lo hi) hz, _, 0, (r.drop (HT.sIx xs.length 0 lo)).take (HT.sIx xs.length xs.length hi - HT.sIx xs.length 0 lo), Heap.get?_push_size _ rfl⟩

/-! ### in, not in: flat items -/
def flatV : V → Bool
  | .non => true
  | .bl _ => true
  | .int _ => true
  | .str _ => true
  | _ => false
/-- == of flat values -/
def eqV : V → V → Bool
  | .non, .non => true
  | .bl a, .bl b => a == b
  | .bl a, .int b => (if a then 1 else 0) == b
  | .int a, .bl b => a == (if b then 1 else 0)
  | .int a, .int b => a == b
  | .str a, .str b => a == b
  | _, _ => false
theorem eqAt_V {A : Around} {s : Shared} {y x : V} {u v : Value} (ry : RelV y u) (rx : RelV x v) (fy : flatV y = true) (fx : flatV x = true) : SeqAt.EqAt A s u v (eqV y x) := by
  cases y with
  | non =>
    cases ry
    cases x with
    | non => cases rx; exact SeqAt.EqAt.same _
    | bl b => cases rx; exact SeqAt.EqAt.none_bool b
    | int b => obtain ⟨t, rfl⟩ := rx; exact SeqAt.EqAt.none_int b t
    | str b => obtain ⟨t, rfl⟩ := rx; exact SeqAt.EqAt.none_str b t
    | _ => exact absurd (show false = true from fx) Bool.false_ne_true
  | bl a =>
    cases ry
    cases x with
    | non => cases rx; exact SeqAt.EqAt.bool_none a
    | bl b => cases rx; exact SeqAt.EqAt.bool_bool a b
    | int b => obtain ⟨t, rfl⟩ := rx; exact SeqAt.EqAt.bool_int a b t
    | str b => obtain ⟨t, rfl⟩ := rx; exact SeqAt.EqAt.bool_str a b t
    | _ => exact absurd (show false = true from fx) Bool.false_ne_true
  | int a =>
    obtain ⟨t', rfl⟩ := ry
    cases x with
    | non => cases rx; exact SeqAt.EqAt.int_none a t'
    | bl b => cases rx; exact SeqAt.EqAt.int_bool a t' b
    | int b => obtain ⟨t, rfl⟩ := rx; exact SeqAt.EqAt.int_int a t' b t
    | str b => obtain ⟨t, rfl⟩ := rx; exact SeqAt.EqAt.int_str a t' b t
    | _ => exact absurd (show false = true from fx) Bool.false_ne_true
  | str a =>
    obtain ⟨t', rfl⟩ := ry
    cases x with
    | non => cases rx; exact SeqAt.EqAt.str_none a t'
    | bl b => cases rx; exact SeqAt.EqAt.str_bool a t' b
    | int b => obtain ⟨t, rfl⟩ := rx; exact SeqAt.EqAt.str_int a t' b t
    | str b => obtain ⟨t, rfl⟩ := rx; exact SeqAt.EqAt.str_str a t' b t
    | _ => exact absurd (show false = true from fx) Bool.false_ne_true
  | _ => exact absurd (show false = true from fy) Bool.false_ne_true
/-- the items' answers, read off the values (a value's own answer does not lean on its token) -/
def eqU (x : V) (u : Value) : Bool := match u with
  | .none => eqV .non x
  | .bool b => eqV (.bl b) x
  | .int i _ => eqV (.int i) x
  | .str z _ => eqV (.str z) x
  | _ => false
theorem eqU_of {x y : V} {u : Value} (r : RelV y u) (f : flatV y = true) : eqU x u = eqV y x := by
  cases y with
  | non => cases r; rfl
  | bl b => cases r; rfl
  | int i => obtain ⟨t, rfl⟩ := r; rfl
  | str z => obtain ⟨t, rfl⟩ := r; rfl
  | _ => exact absurd (show false = true from f) Bool.false_ne_true
theorem any_eqU {x : V} : ∀ {xs : List V} {us : List Value}, Vals xs us → xs.all flatV = true → us.any (eqU x) = xs.any fun y => eqV y x
  | _, _, .nil, _ => rfl
  | y :: xs, u :: us, .cons r t, f => by
    rw [List.all_cons, Bool.and_eq_true] at f
    rw [List.any_cons, List.any_cons, eqU_of r f.1, any_eqU t f.2]
theorem mem_eqAt {A : Around} {s : Shared} {x : V} {v : Value} (rx : RelV x v) (fx : flatV x = true) : ∀ {xs : List V} {us : List Value}, Vals xs us → xs.all flatV = true → ∀ u ∈ us, SeqAt.EqAt A s u v (eqU x u)
  | _, _, .nil, _ => fun u hu => by cases hu
  | y :: xs, u :: us, .cons r t, f => fun u' hu => by
    rw [List.all_cons, Bool.and_eq_true] at f
    rcases List.mem_cons.mp hu with rfl | hu
    · rw [eqU_of r f.1]; exact eqAt_V r rx f.1 fx
    · exact mem_eqAt rx fx t f.2 u' hu
def inV (x : V) (xs : List V) : Bool := xs.any fun y => eqV y x
/-- x in a list or tuple of flat items -/
def rIn (K : PySem.W.Frag) (neg : Bool) : R2 := fun x y H Q => ∃ p xs, y = .ref p ∧ (SqL K H p xs ∨ SqT K H p xs) ∧ flatV x = true ∧ xs.all flatV = true ∧ Q (.bl (if neg then !inV x xs else inV x xs)) H
theorem op_notIn_seq : OpR X (compareOp .NotIn) (rIn X.K true) := by
  intro pins s σ H x y v u Q I rx ry h
  obtain ⟨p, xs, rfl, hq, fx, fs, q⟩ := h
  cases ry
  rcases hq with hq | hq
  · obtain ⟨its, r, pl, hz⟩ := I.list hq
    refine SeqAt.notIn_listAt (eqU x) pl.isList (fun w hw => mem_eqAt rx fx r fs w (by simpa using hw)) ⟨.bl _, H, I, rfl, ?_⟩
    rw [show its.toArray.any (eqU x) = its.any (eqU x) by simp, any_eqU r fs]
    exact q
  · obtain ⟨its, r, pl, hz⟩ := I.tuple hq
    refine SeqAt.notIn_tupleAt (eqU x) pl (fun w hw => mem_eqAt rx fx r fs w (by simpa using hw)) ⟨.bl _, H, I, rfl, ?_⟩
    rw [show its.toArray.any (eqU x) = its.any (eqU x) by simp, any_eqU r fs]
    exact q

/-! ### len, list(x), tuple(x) of any list or tuple that is read -/
theorem call_len_seq : CallR X (.builtin "len") (fun xs H Q => ∃ p ys, xs = [.ref p] ∧ (SqL X.K H p ys ∨ SqT X.K H p ys) ∧ Q (.int ys.length) H) := by
  intro pins s σ H xs us Q I r h
  obtain ⟨p, ys, rfl, hq, q⟩ := h
  obtain ⟨u, rfl, rx⟩ := vals1 r
  cases rx
  have hn := line63
  rcases hq with hq | hq
  · obtain ⟨its, r', pl, hz⟩ := I.list hq
    have hlen := r'.length
    exact Calls.call_len_list pl.isList (by simp only [List.size_toArray] <;> omega) ⟨.int ys.length, H, I.tok _, ⟨s.toks + 1, by rw [List.size_toArray, hlen]⟩, q⟩
  · obtain ⟨its, r', pl, hz⟩ := I.tuple hq
    have hlen := r'.length
    exact len_tuple pl (by simp only [List.size_toArray] <;> omega) ⟨.int ys.length, H, I.tok _, ⟨s.toks + 1, by rw [List.size_toArray, hlen]⟩, q⟩
theorem call_list_of : CallR X (.type "list") (fun xs H Q => ∃ p ys, xs = [.ref p] ∧ (SqL X.K H p ys ∨ SqT X.K H p ys) ∧ ∀ l, H l = none → Q (.ref l) (upd H l (.lst ys))) := by
  intro pins s σ H xs us Q I r h
  obtain ⟨p, ys, rfl, hq, q⟩ := h
  obtain ⟨u, rfl, rx⟩ := vals1 r
  cases rx
  have fin : ∀ (its : List Value), Vals ys its → ys.length ≤ sizeLine → ∀ (h' : Heap) (c' : Nat), (∀ b o', s.heap.get? b = some o' → h'.get? b = some o') →
      h'.get? s.heap.objs.size = some { cls := .type "list", dict := none, data := .seq its.toArray c', slots := #[] } → EP X pins σ Q (.ref s.heap.objs.size) { s with heap := h' } := fun its r' hz h' c' kp e =>
    ⟨.ref s.heap.objs.size, _, I.laid (t' := s.toks) kp (Nat.le_refl _) (show ObjOk X.prog X.w _ h' _ (.lst ys) from ⟨hz, its, c', r', e⟩), rfl, q _ (I.hok.fresh (Nat.le_refl _))⟩
  rcases hq with hq | hq
  · obtain ⟨its, r', pl, hz⟩ := I.list hq
    have hlen := r'.length
    obtain ⟨o, ho, hc, n, hd⟩ := pl.isList
    exact call_list_seq p (.inl rfl) ho hc hd (fun h' c' kp e => fin its r' hz h' c' kp e) (by simp only [List.size_toArray] <;> omega)
  · obtain ⟨its, r', pl, hz⟩ := I.tuple hq
    have hlen := r'.length
    obtain ⟨o, ho, hc, n, hd⟩ := pl
    exact call_list_seq p (.inr rfl) ho hc hd (fun h' c' kp e => fin its r' hz h' c' kp e) (by simp only [List.size_toArray] <;> omega)

/-! ### the call of a builtin's method: o.m(..) -/
/-- the value is of that builtin type -/
def tyV (K : PySem.W.Frag) (T : String) (x : V) (H : Hp) : Prop := match x with
  | .str _ => T = "str"
  | .int _ => T = "int"
  | .ref p => (T = "list" ∧ ∃ xs, SqL K H p xs) ∨ (T = "tuple" ∧ ∃ o, K.lookup p = some o ∧ o.cls = .type "tuple" ∧ o.dict = none) ∨
      (T = "dict" ∧ ((∃ kvs, H p = some (.dK kvs)) ∨ ∃ kvs, H p = some (.dT kvs))) ∨ (T = "set" ∧ ∃ S n, H p = some (.set S n))
  | _ => False
theorem tyV_is {pins : List (Addr × Obj)} {σ : St} {H : Hp} {s : Shared} {T : String} {x : V} {v : Value} (I : Inv X pins σ H s) (r : RelV x v) (ty : tyV X.K T x H) :
    s.TypeIs v T ∧ ∀ a, v = .ref a → ∃ ob, s.heap.get? a = some ob ∧ ob.dict = none := by
  cases x with
  | str z =>
    obtain ⟨t, rfl⟩ := r
    cases (show T = "str" from ty)
    exact ⟨typeIs_str s z t, fun _ e => nomatch e⟩
  | int i =>
    obtain ⟨t, rfl⟩ := r
    cases (show T = "int" from ty)
    exact ⟨typeIs_int s i t, fun _ e => nomatch e⟩
  | ref p =>
    cases r
    rcases ty with ⟨rfl, xs, hq⟩ | ⟨rfl, o, hk, hc, hd⟩ | ⟨rfl, hk⟩ | ⟨rfl, S, n, hk⟩
    · obtain ⟨its, _, pl, _⟩ := I.list hq
      refine ⟨pl.isList.typeIs, fun a e => ?_⟩
      cases e
      obtain ⟨o, n, e, c, hd, _⟩ := pl
      exact ⟨o, e, hd⟩
    · refine ⟨⟨o, I.kIn p o hk, hc⟩, fun a e => ?_⟩
      cases e
      exact ⟨o, I.kIn _ o hk, hd⟩
    · have z : ∃ o, s.heap.get? p = some o ∧ o.ExactDict := by
        rcases hk with ⟨kvs, hk⟩ | ⟨kvs, hk⟩
        · obtain ⟨_, _, _, _, o, _, _, e, ex, _⟩ := I.hok p _ hk
          exact ⟨o, e, ex⟩
        · obtain ⟨_, _, _, _, o, _, _, e, ex, _⟩ := I.hok p _ hk
          exact ⟨o, e, ex⟩
      obtain ⟨o, e, ex⟩ := z
      refine ⟨⟨o, e, ex.1⟩, fun a e2 => ?_⟩
      cases e2
      exact ⟨o, e, ex.2.1⟩
    · obtain ⟨o, _, _, _, e, ex, _⟩ := I.hok p _ hk
      refine ⟨⟨o, e, ex.1⟩, fun a e2 => ?_⟩
      cases e2
      exact ⟨o, e, ex.2.1⟩
  | _ => exact False.elim ty
def tBM0 (K : PySem.W.Frag) (T : String) (r : V → List V → Hp → VK → Prop) (to : TE) : TE := fun σ H Q => to σ H fun x H1 => tyV K T x H1 ∧ r x [] H1 Q
def tBM (K : PySem.W.Frag) (T : String) (r : V → List V → Hp → VK → Prop) (to : TE) (t : TA) : TE := fun σ H Q => to σ H fun x H1 => tyV K T x H1 ∧ t σ H1 fun xs H2 => r x xs H2 Q
variable {o e : Expr} {es : List Expr} {to : TE} {t : TA} {name : Str} {apos cpos : Pos} {T id : String} {r : V → List V → Hp → VK → Prop}
theorem pe_bm0 (pa : PlainAttrs T) (slot : Slot T name id) (hty : typeOf (.builtin id) = pure (.type "method_descriptor")) (hm : MtR X id r) (ho : PE X o to)
    (hbase : attributeBase o name X.env (eval o X.env) = eval o X.env := by rfl) (hline : (apos.endLine == cpos.line) = true := by rfl) : PE X (.Call (.Attribute o name apos) [] [] cpos) (tBM0 X.K T r to) := by
  intro pins s σ H Q I h
  refine wpAny_Call_method0_late hbase hline (thn (ho pins s σ H _ I h) fun v s1 ⟨x, H1, I1, r1, ty, q1⟩ => ?_)
  obtain ⟨h1, h2⟩ := tyV_is I1 r1 ty
  exact ⟨T, id, pa, slot, hty, h1, h2, Calls.callWith_builtin rfl (PySem.evalArgs_none (hm pins s1 σ H1 x [] v [] Q I1 r1 .nil q1))⟩
theorem pe_bm (pa : PlainAttrs T) (slot : Slot T name id) (hty : typeOf (.builtin id) = pure (.type "method_descriptor")) (hm : MtR X id r) (ho : PE X o to) (ha : PA X (e :: es) t)
    (hbase : attributeBase o name X.env (eval o X.env) = eval o X.env := by rfl)
    (hfew : ((backTo cpos (starEach (e :: es) X.env)).all (fun x => !x.1) && (backToKw cpos (keywordEach [] X.env)).all (fun x => x.1.isSome)
      && decide ((e :: es).length + ([] : List Keyword).length + (if ([] : List Keyword).isEmpty then 0 else 1) < 30)) = true := by rfl)
    (hline : (apos.endLine == cpos.line) = true := by rfl) (hs : starEach (e :: es) X.env = (false, eval e X.env) :: starEach es X.env := by rfl) (hplain : (backTo cpos (starEach es X.env)).any (·.1) = false := by rfl) :
    PE X (.Call (.Attribute o name apos) (e :: es) [] cpos) (tBM X.K T r to t) := by
  intro pins s σ H Q I h
  refine wpAny_Call_method_late hbase hfew hline rfl (thn (ho pins s σ H _ I h) fun v s1 ⟨x, H1, I1, r1, ty, q1⟩ => ?_)
  obtain ⟨h1, h2⟩ := tyV_is I1 r1 ty
  refine ⟨T, id, pa, slot, hty, h1, h2, ?_⟩
  have hA := ha cpos pins s1 σ H1 _ I1 q1
  rw [hs] at hA ⊢
  refine Calls.callWith_builtin (by show (false || (backTo cpos (starEach es X.env)).any (·.1)) = false; rw [hplain] <;> rfl) (Calls.evalArgs_plain ?_)
  exact thn hA fun us s2 ⟨vs, H2, I2, r2, q2⟩ => hm pins s2 σ H2 x vs v us Q I2 r1 r2 q2
/- xs.append(e), list.index on a module's tuple .. are MtR facts of 06m -/
end
end L2

namespace L2
open PySem PySem.Spec PyProof.Rows

def MtM (X : Cx) (id : String) (r : V → List V → Hp → VK → Prop) : Prop :=
  ∀ (pins : List (Addr × Obj)) (s : Shared) (σ : St) (H : Hp) (x : V) (xs : List V) (v : Value) (us : List Value) (Q : VK), Inv X pins σ H s → RelV x v → Vals xs us → r x xs H Q →
    wpAny (model X.prog X.w) X.A (call (.builtin id) (v :: us)) (EP X pins σ Q) X.xe s

/-! ### lists of values -/
theorem Vals.one : ∀ {x : V} {us : List Value}, Vals [x] us → ∃ u, us = [u] ∧ RelV x u
  | _, _, .cons r .nil => ⟨_, rfl, r⟩
theorem Vals.two : ∀ {x y : V} {us : List Value}, Vals [x, y] us → ∃ u v, us = [u, v] ∧ RelV x u ∧ RelV y v
  | _, _, _, .cons r (.cons q .nil) => ⟨_, _, rfl, r, q⟩
theorem Vals.zero : ∀ {us : List Value}, Vals [] us → us = []
  | _, .nil => rfl
theorem Vals.dropLast {xs : List V} {us : List Value} (h : Vals xs us) : Vals xs.dropLast us.dropLast := by
  induction h with
  | nil => exact .nil
  | cons r t ih =>
    cases t with
    | nil => exact .nil
    | cons q t' => exact .cons r ih
theorem erase_last {α : Type} (l : List α) : l.eraseIdx (l.length - 1) = l.dropLast := by
  induction l with
  | nil => rfl
  | cons a r ih =>
    cases r with
    | nil => rfl
    | cons b r =>
      have e : (a :: b :: r).length - 1 = ((b :: r).length - 1) + 1 := by
        have h1 : (a :: b :: r).length = r.length + 2 := rfl
        have h2 : (b :: r).length = r.length + 1 := rfl
        omega
      rw [e, List.eraseIdx_cons_succ, ih]
      all_goals rfl

section
variable {X : Cx} {pins : List (Addr × Obj)} {σ : St} {H : Hp} {s : Shared} {l b : Addr} {xs ys zs : List V}

/-! ### the two steps: a tracked list is rewritten, a new list is laid -/
theorem Inv.lset {its its' : List Value} {n : Nat} {f : Array Value → Array Value} {t' : Nat} (I : Inv X pins σ H s) (hH : H l = some (.lst xs))
    (e : s.heap.get? l = some { cls := .type "list", data := .seq its.toArray n }) (hf : f its.toArray = its'.toArray) (hv : Vals ys its') (hz : ys.length ≤ sizeLine) :
    Inv X pins σ (upd H l (.lst ys)) { s with heap := s.heap.update l (Obj.mapSeq f), toks := t' } := by
  have q := PySem.IsL.update e f
  rw [hf] at q
  refine I.write (x := l) (e := l) (by rw [hH]; exact trivial) (.inl rfl) (fun b' u hb hu => (Heap.get?_update_other s.heap (Obj.mapSeq f) (Ne.symm hb)).trans hu) ⟨_, q⟩ ?_
  exact ⟨hz, its', _, hv, q⟩
theorem Inv.lnew {its : List Value} {t' : Nat} (I : Inv X pins σ H s) (hv : Vals ys its) (hz : ys.length ≤ sizeLine) :
    Inv X pins σ (upd H s.heap.objs.size (.lst ys)) { s with heap := s.heap.push { cls := .type "list", data := .seq its.toArray }, toks := t' } :=
  I.laid (fun _ _ q => Heap.get?_push_of_some _ q) (Nat.le_refl _) ⟨hz, its, 0, hv, Heap.get?_push_size _ rfl⟩
theorem Inv.fresh (I : Inv X pins σ H s) : H s.heap.objs.size = none := I.hok.fresh (Nat.le_refl _)
theorem Inv.lstM (I : Inv X pins σ H s) (hH : H l = some (.lst xs)) : xs.length ≤ sizeLine ∧ ∃ (its : List Value) (n : Nat), Vals xs its ∧ xs.length = its.length ∧ s.heap.get? l = some { cls := .type "list", data := .seq its.toArray n } := by
  obtain ⟨z, its, n, r, e⟩ := I.hok l _ hH
  exact ⟨z, its, n, r, r.length, e⟩

theorem notLongL {n : Nat} (h : n ≤ sizeLine) : Builtin.List.listTooLong n = false := by
  unfold Builtin.List.listTooLong
  exact decide_eq_false (by omega)
end

section
variable {X : Cx}

/-! ### methods -/
def rAppend : V → List V → Hp → VK → Prop := fun x vs H Q => ∃ l xs y, x = .ref l ∧ vs = [y] ∧ H l = some (.lst xs) ∧ xs.length < sizeLine ∧ Q .non (upd H l (.lst (xs ++ [y])))
theorem mt_append : MtM X "list.append" rAppend := by
  intro pins s σ H x vs v us Q I rx rv h
  obtain ⟨l, xs, y, rfl, rfl, hH, hz, q⟩ := h
  cases rx
  obtain ⟨u, rfl, ru⟩ := rv.one
  obtain ⟨z, its, n, r, hl, e⟩ := I.lstM hH
  refine call_meets F.slot_list_append ⟨_, e, rfl⟩ F.entry_list_append (F.args_list_append_2 _ _) (PySem.list_append l its.toArray n u (by rw [List.size_toArray]; omega)) ⟨e, ?_⟩
  refine ⟨.non, _, I.lset (its' := its ++ [u]) hH e (by simp) (r.append (.cons ru .nil)) ?_, rfl, q⟩
  rw [List.length_append, List.length_singleton]
  omega

def rExtend : V → List V → Hp → VK → Prop := fun x vs H Q => ∃ l b xs zs, x = .ref l ∧ vs = [.ref b] ∧ H l = some (.lst xs) ∧ H b = some (.lst zs) ∧ xs.length + zs.length ≤ sizeLine ∧ Q .non (upd H l (.lst (xs ++ zs)))
theorem mt_extend : MtM X "list.extend" rExtend := by
  intro pins s σ H x vs v us Q I rx rv h
  obtain ⟨l, b, xs, zs, rfl, rfl, hH, hB, hz, q⟩ := h
  cases rx
  obtain ⟨u, rfl, ru⟩ := rv.one
  cases ru
  obtain ⟨z, its, n, r, hl, e⟩ := I.lstM hH
  obtain ⟨z2, its2, n2, r2, hl2, e2⟩ := I.lstM hB
  have hsz : its.toArray.size + its2.toArray.size ≤ sizeLine := by rw [List.size_toArray, List.size_toArray]; omega
  have hlong : ¬ (!its.toArray.isEmpty && Builtin.List.listTooLong (its.toArray.size + its2.toArray.size)) = true := by
    rw [notLongL hsz, Bool.and_false]
    exact Bool.false_ne_true
  refine call_meets F.slot_list_extend ⟨_, e, rfl⟩ F.entry_list_extend (F.args_list_extend_2 _ _)
    (AutoSeq1.list_extend_list_list_0 l its.toArray n b its2.toArray n2 hlong (by rw [List.size_toArray]; omega) (by omega)) ⟨e, e2, ?_⟩
  refine ⟨.non, _, I.lset (its' := its ++ its2) hH e (by simp) (r.append r2) ?_, rfl, q⟩
  rw [List.length_append]
  omega

def rPop : V → List V → Hp → VK → Prop := fun x vs H Q => ∃ l xs y, x = .ref l ∧ vs = [] ∧ H l = some (.lst xs) ∧ xs[xs.length - 1]? = some y ∧ Q y (upd H l (.lst xs.dropLast))
theorem mt_pop : MtM X "list.pop" rPop := by
  intro pins s σ H x vs v us Q I rx rv h
  obtain ⟨l, xs, y, rfl, rfl, hH, hy, q⟩ := h
  cases rx
  have hus := rv.zero
  subst hus
  obtain ⟨z, its, n, r, hl, e⟩ := I.lstM hH
  obtain ⟨u, hu, ru⟩ := r.get hy
  have hy' : its.toArray[its.toArray.size - 1]? = some u := by
    show its.toArray[its.length - 1]? = some u
    rw [← Array.getElem?_toList, ← hl]
    exact hu
  refine call_meets F.slot_list_pop ⟨_, e, rfl⟩ F.entry_list_pop (F.args_list_pop_1 _) (MeetsSeq.list_pop_last l its.toArray n u hy' (by rw [List.size_toArray]; omega)) ⟨e, ?_⟩
  refine ⟨y, _, I.lset (its' := its.dropLast) hH e ?_ r.dropLast ?_, ru, q⟩
  · show its.toArray.eraseIdxIfInBounds (its.toArray.size - 1) = its.dropLast.toArray
    rw [List.size_toArray, List.eraseIdxIfInBounds_toArray, erase_last]
  · rw [List.length_dropLast]
    omega




/-! ### list + list, list += list, list * int -/
def rCat : R2 := fun x y H Q => ∃ l b xs zs, x = .ref l ∧ y = .ref b ∧ H l = some (.lst xs) ∧ H b = some (.lst zs) ∧ xs.length + zs.length ≤ sizeLine ∧ ∀ p, H p = none → Q (.ref p) (upd H p (.lst (xs ++ zs)))
theorem op_cat : OpR X (binaryOp .Add) rCat := by
  intro pins s σ H x y v u Q I rx ry h
  obtain ⟨l, b, xs, zs, rfl, rfl, hH, hB, hz, q⟩ := h
  cases rx
  cases ry
  obtain ⟨z, its, n, r, hl, e⟩ := I.lstM hH
  obtain ⟨z2, its2, n2, r2, hl2, e2⟩ := I.lstM hB
  refine PySem.P.add_list e e2 ?_ (by rw [List.size_toArray, List.size_toArray]; omega)
  have ea : its.toArray ++ its2.toArray = (its ++ its2).toArray := by simp
  rw [ea]
  exact ⟨.ref _, _, I.lnew (t' := s.toks) (r.append r2) (by rw [List.length_append]; omega), rfl, q _ I.fresh⟩

/-! ### del xs[i] -/
end

/-! ### xs[a:b] = ys -/
section
variable {prog : Program} {w : World} {A : Around} {E : Value → Shared → Prop} {s : Shared}
set_option maxRecDepth 100000 in
end

section
variable {X : Cx}
end
end L2

namespace Att
open PySem PySem.W PySem.Calls PyProof.Rows

/-! ### the script -/
theorem ints_of_wellAll {P : Params} {h : Heap} : ∀ (ns : List Int) (vs : List Value), WellAll P h vs (ns.map WData.int) → IntsAre vs ns := by
  intro ns
  induction ns with
  | nil =>
    intro vs w
    rw [List.map_nil] at w
    cases w
    exact .nil
  | cons n ns ih =>
    intro vs w
    rw [List.map_cons] at w
    cases w with
    | cons a b =>
      cases a
      exact .cons _ _ (ih _ b)

theorem script_of {l : OpenLaw} {n : Nat} (hn : l.most = some n) {P : Params} {h : Heap} {args : List WData} {vals : List Value}
    (hpre : l.row.toRowW.claim.pre args = true) (hwl : WellAll P h vals args) :
    ∃ a vs ns, vals = [Value.ref a] ∧ args = [WData.list (ns.map WData.int)] ∧ h.get? a = some { cls := .type "list", data := .seq vs.toArray } ∧ IntsAre vs ns ∧ ns.length ≤ n := by
  have hsh : WShape.hasAll [] args [.list .int] = true := (pre_splitW hpre).1
  have hc : l.pre.holds [] { args := args } = true := (pre_splitW hpre).2
  obtain ⟨d, r, rfl, h1, h2⟩ := hasAllW_cons hsh
  obtain rfl := hasAllW_nil h2
  obtain ⟨xs, rfl, h3⟩ := hasW_list h1
  obtain ⟨ns, rfl⟩ := items_int h3
  have hlen : ns.length ≤ n := by
    unfold OpenLaw.pre at hc
    have h4 : (WTm.not (.lt (.lit (.int (n : Int))) (.len (.arg 0)))).holds [] { args := [.list (ns.map .int)] } = true := by
      have h4 := (holds_andW hc).1
      rw [hn] at h4
      exact h4
    have h5 := condW_of h4 (w_not (w_lt w_lit (w_len_list (w_arg rfl))))
    rw [List.length_map] at h5
    refine Nat.le_of_not_lt fun q => ?_
    have q' : (n : Int) < ((ns.length : Nat) : Int) := by omega
    first
      | (rw [decide_eq_true q'] at h5; exact absurd h5 (by decide))
      | (simp at h5; omega)
  cases hwl with
  | cons w1 w2 =>
    cases w2
    cases w1 with
    | list ho hall => exact ⟨_, _, ns, rfl, rfl, ho, ints_of_wellAll ns _ hall, hlen⟩

theorem post_true (l : OpenLaw) (args : List WData) : l.row.toRowW.claim.post args (.bool true) args = true :=
  postW_of (r := l.row.toRowW) (X := (true == true))
    (show WShape.has [] (.bool true) .bool = true by first | rfl | decide | simp [WShape.has, WShape.arms, WShape.armsAll])
    (show (WTm.eq .res (.lit (.bool true))).value [] { args := args, res := some (.bool true), after := args } = some (.bool (true == true)) from w_eq_bool (w_res rfl) w_lit) rfl

/-! ### the attachment: holds_open's last premise (the goal 'hc' behind k_head) from a wpAny of the law's body -/

/-- the same from a codeAny of the CALL (for a layer whose function contracts speak of calls) -/
theorem attach_call {l : OpenLaw} {n : Nat} {q : Program} {loose : List Str} {XP : (Str → Option Value) → Heap → Prop} {YP : World → Heap → Prop} {d : DefRec}
    (hn : l.most = some n) (hdf : d.params.defaults = [])
    (call : ∀ (w : World) (s₀ s₁ : Shared) (mg mb : Str → Option Value) (fa : Addr) (o : Obj) (pm cd doc : Value) (a : Addr) (vs : List Value) (ns : List Int),
      Ground q loose [] XP w s₀ mg mb s₁.heap → YP w s₁.heap →
      s₁.heap.get? fa = some o → o.data = .func (docDef d.name d.params d.body d.scope pm cd doc) → s₁.heap.CodeRec cd d.name → mg d.name = some (.ref fa) →
      s₁.heap.get? a = some { cls := .type "list", data := .seq vs.toArray } → IntsAre vs ns → ns.length ≤ n → s₁.gens = #[] →
      codeAny (model l.prog w) callerA (.call (.ref fa) ⟨[.ref a], []⟩) (fun r s' => r = .ok (.ret (.bool true)) ∧ OldK s₁.heap s'.heap ∧ s'.os = s₁.os ∧ AllBare s'.gens) s₁) :
    WalkO q loose XP YP l.row.toRowW d [] (fun f vs => PySem.call f vs) := by
  intro w s₀ s₁ mg mb G Y fa o pm cd doc dV kV ho hd hcd hD hmg hg args vals as hpre hlay hrd hwl hlo
  obtain rfl : dV = .none := Dflts.none hD hdf
  obtain rfl : kV = .none := Dflts.noKw hD
  obtain ⟨a, vs, ns, rfl, rfl, hobj, hints, hlen⟩ := script_of hn hpre hwl
  refine enter_call (codeAny_mono (call w s₀ s₁ mg mb fa o pm cd doc a vs ns G Y ho (fd_plain hd) hcd hmg hobj hints hlen hg) fun r s' hq => ?_)
  obtain ⟨rfl, h2, h3, h4⟩ := hq
  exact ⟨.inl ⟨.bool true, .bool true, [], rfl, fun _ => rfl, .bool true, post_true l _, fun _ => ⟨List.Pairwise.nil, fun _ hm => (nomatch hm)⟩⟩, h2, h3, h4⟩


/-! ### rules over ANY heap (no ledger) from facts about the written part K: the library's own take a ledger (News) for what they write -/
section
variable {prog : Program} {w : World} {A : Around} {E : Value → Shared → Prop} {s : Shared} {K : Frag}





/-! the whole heap as the ledger: makes every rule that writes through a ledger a rule over any heap -/

end
end Att

namespace L2
open PySem PySem.Spec PyProof.Rows

theorem vals_ints : ∀ {vs : List Value} {ns : List Int}, IntsAre vs ns → Vals (ns.map V.int) vs
  | _, _, .nil => .nil
  | _, _, .cons n t h => .cons ⟨t, rfl⟩ (vals_ints h)

/-- nothing is tracked but the script, known to the object (or it is an object of the module) -/
def Only (H : Hp) : Prop := ∀ b, H b = none ∨ ∃ o xs, H b = some (.frz o (.lst xs))

/-- THE HEAD: the law's promise, at the heap behind the top. F, the promise of the law's def, may use that base is part of the heap (so K.In base, base.Ns mainGlobals mg stand in Mod) -/
theorem law_call {P : Program} {w : World} {K : PySem.W.Frag} {mg mb : Str → Option Value} {CX : CXT} {k : Nat} {fa a : Addr} {fd : FuncData} {x : Str} {sp : Sp} {s₁ : Shared} {vs : List Value} {ns : List Int}
    (KX : K.In s₁.heap) (hns : s₁.heap.Ns mainGlobals mg) (hb : s₁.heap.Ns builtinsNs mb) (hbb : ∀ x : Str, x ≠ "__name__" → mb x = bootBuiltins x) (hlim : s₁.heap.NoLimit) (hg : s₁.gens = #[])
    (ha : s₁.heap.get? a = some { cls := .type "list", data := .seq vs.toArray }) (hi : IntsAre vs ns) (hl : ns.length ≤ sizeLine) (hr : Room k callerA)
    (F : ∀ base : Heap, K.In base → base.Ns mainGlobals mg → FnOk P w K mg base CX k fa fd [x] sp) (hbind : ∀ (s : Shared) (u : Value), BindsTo s fd ⟨[u], []⟩ [(x, u)])
    (hsp : ∀ H : Hp, Only H → SqL K H a (ns.map V.int) → sp [.ref a] H (fun v _ => v = .bl true) fun _ _ _ => False)
    (hCX : ∀ H e s', CX [] H s₁ (fun _ _ _ => False) e s' → False) :
    codeAny (model P w) callerA (.call (.ref fa) ⟨[.ref a], []⟩) (fun r s' => r = .ok (.ret (.bool true)) ∧ OldK s₁.heap s'.heap ∧ s'.os = s₁.os ∧ AllBare s'.gens) s₁ := by
  have rv := vals_ints hi
  have lenV := hi.length
  -- from an abstract heap in which nothing but the script may be tracked
  have core : ∀ H : Hp, Only H → SqL K H a (ns.map V.int) → HOk P w H s₁.heap → (∀ b, H b ≠ none → b = a) → (H a ≠ none → K.lookup a = none) →
      codeAny (model P w) callerA (.call (.ref fa) ⟨[.ref a], []⟩) (fun r s' => r = .ok (.ret (.bool true)) ∧ OldK s₁.heap s'.heap ∧ s'.os = s₁.os ∧ AllBare s'.gens) s₁ := by
    intro H hO hS hok hA hK
    have base_of : ∀ {b : Addr} {o : Obj}, s₁.heap.get? b = some o → H b = none → (hidT s₁.heap H).get? b = some o := fun e n => hidT_get e n
    have noA : ∀ {b : Addr} {o : Obj} {es : Array DictEntry} {ep : Nat}, s₁.heap.get? b = some o → o.data = .dict es ep → H b = none := fun {b o es ep} e d => by
      cases q : H b with
      | none => rfl
      | some u =>
        have e' : b = a := hA b (by rw [q]; simp)
        subst e'
        rw [ha] at e; cases e
        have d' : Data.seq vs.toArray _ = Data.dict es ep := d
        cases d'
    have nsK : ∀ {b : Addr} {m : Str → Option Value}, s₁.heap.Ns b m → (hidT s₁.heap H).Ns b m := fun {b m} ⟨o, es, ep, e, d, r⟩ => ⟨o, es, ep, base_of e (noA e d), d, r⟩
    have hKb : K.In (hidT s₁.heap H) := fun b o e => base_of (KX b o e) (by
      cases q : H b with
      | none => rfl
      | some u =>
        have e' : b = a := hA b (by rw [q]; simp)
        subst e'
        rw [hK (by rw [q]; simp)] at e; cases e)
    have hM : Mod K mg (hidT s₁.heap H) := ⟨hKb, nsK hns, ⟨mb, nsK hb, hbb⟩, let ⟨mc, h1, h2⟩ := hlim; ⟨mc, nsK h1, h2⟩⟩
    have e0 : Env0 P w K mg (hidT s₁.heap H) callerA [] s₁ H := ⟨rfl, hM, fun b o e => of_hidT e, Nat.le_of_eq (hidT_size _ _), trivial, fun b hb => absurd (show b ∈ ([] : List Addr) from hb) (by simp), hok, .of_eq hg⟩
    refine codeAny_mono ((F _ hKb (nsK hns)).run callerA [] s₁ H ⟨[.ref a], []⟩ [.ref a] [.ref a] _ _ hr e0 (hbind s₁ (.ref a)) (.cons rfl .nil) (hsp H hO hS)) fun r s' h => ?_
    cases r with
    | error e => exact (hCX H e s' h).elim
    | ok fl =>
      cases fl with
      | next => exact False.elim h
      | brk => exact False.elim h
      | cont => exact False.elim h
      | ret u =>
        obtain ⟨v, H', os, bare, un, hok', r', q⟩ := h
        have q' : v = .bl true := q
        subst q'
        obtain rfl : u = Value.bool true := r'
        refine ⟨rfl, OldK.of_keep fun b o e => ?_, os, bare⟩
        cases q : H b with
        | none => exact un.keep b o e q (by intro z; exact absurd (show b ∈ ([] : List Addr) from z) (by simp)) (by simp)
        | some u =>
          rcases hO b with z | ⟨ob, xs, z⟩
          · rw [q] at z; cases z
          · have z2 := un.frzs b ob _ z
            obtain ⟨e1, _⟩ := hok b _ z
            obtain ⟨e2, _⟩ := hok' b _ z2
            rw [e] at e1; cases e1
            exact e2
  cases hk : K.lookup a with
  | some o =>
    -- the script is one of the module's own objects
    have e := KX a o hk
    rw [ha] at e
    cases e
    refine core (fun _ => none) (fun _ => .inl rfl) (.inr ⟨_, vs.toArray, _, hk, rfl, rfl, rfl, by rw [List.size_toArray, lenV]; exact hl, by simpa using rv⟩) (fun b u z => by have z' : (none : Option HO) = some u := z; cases z') (fun b z => absurd rfl z) fun z => absurd rfl z
  | none =>
    refine core (fun b => if b = a then some (.frz { cls := .type "list", data := .seq vs.toArray } (.lst (ns.map V.int))) else none) (fun b => ?_) (.inl (.inr ⟨{ cls := .type "list", data := .seq vs.toArray }, if_pos rfl⟩)) (fun b u z => ?_) (fun b z => ?_) fun _ => hk
    · by_cases hb : b = a
      · exact .inr ⟨_, _, if_pos hb⟩
      · exact .inl (if_neg hb)
    · by_cases hb : b = a
      · have z' := (if_pos hb).symm.trans z
        cases z'
        subst hb
        exact ⟨ha, by rw [List.length_map]; exact hl, vs, _, rv, ha⟩
      · have z' := (if_neg hb).symm.trans z
        cases z'
    · by_cases hb : b = a
      · exact hb
      · exact absurd (if_neg hb) z
end L2

namespace L2
open PySem PySem.Spec PyProof.Rows


/-- the goal that k_head leaves (case hc), from the law's promise. F gives the function object fd (K's own) once, then the promise over every base -/
theorem walk_of {l : PySem.W.OpenLaw} {n k : Nat} {q : Program} {loose : List Str} {XP : (Str → Option Value) → Heap → Prop} {YP : World → Heap → Prop} {d : DefRec} {K : Params → PySem.W.Frag} {CX : World → CXT} {sp : World → Sp} {x : Str}
    (hn : l.most = some n) (hn2 : n ≤ sizeLine) (hdf : d.params.defaults = []) (hr : Room k callerA)
    (hY : ∀ (w : World) (h : Heap), YP w h → (K w.params).In h)
    (F : ∀ (w : World) (mg : Str → Option Value) (fa : Addr) (h : Heap), (K w.params).In h → h.Ns mainGlobals mg → mg d.name = some (.ref fa) →
      ∃ fd : FuncData, (∀ (s : Shared) (u : Value), BindsTo s fd ⟨[u], []⟩ [(x, u)]) ∧
        ∀ base : Heap, (K w.params).In base → base.Ns mainGlobals mg → FnOk l.prog w (K w.params) mg base (CX w) k fa fd [x] (sp w))
    (hsp : ∀ (w : World) (H : Hp) (a : Addr) (ns : List Int), ns.length ≤ n → Only H → SqL (K w.params) H a (ns.map V.int) → sp w [.ref a] H (fun v _ => v = .bl true) fun _ _ _ => False)
    (hCX : ∀ (w : World) (H : Hp) (s : Shared) (e : Value) (s' : Shared), CX w [] H s (fun _ _ _ => False) e s' → False) :
    PySem.W.WalkO q loose XP YP l.row.toRowW d [] (fun f vs => PySem.call f vs) := by
  refine Att.attach_call hn hdf fun w s₀ s₁ mg mb fa o pm cd doc a vs ns G Y ho hd hcd hmg hobj hints hlen hg => ?_
  have KX := hY w _ Y
  obtain ⟨fd, hb, hF⟩ := F w mg fa _ KX G.T.g hmg
  exact law_call KX G.T.g G.T.b G.T.builtins G.T.nolimit hg hobj hints (Nat.le_trans hlen hn2) hr hF hb (fun H hO hS => hsp w H a ns hlen hO hS) fun H e s' => hCX w H s₁ e s'
end L2

/- THE LAST THEOREM (shape; LID, My.* are yours):
   My.Adr: a structure of the addresses that your layer names (classes, functions); My.Txt K t: a structure (Prop) of the equations over K;
   My.txt_mk : {K} {implicit addresses ..} (e1 : nsIn K mainGlobals "law" = some (some (.ref f))) (e2 : K.lookup f = some ⟨oc, od, .func (fnOf "law" "law" params body scope dV kV doc pm an cdv ct), sl⟩) (e3 : codeIn K cdv "law" = true) .. : ∃ t, My.Txt K t

set_option maxRecDepth 100000 in
set_option maxHeartbeats 0 in
theorem PySem.Challenge.cw_LID_holds : PySem.Challenge.rw_LID.Holds := by
  w_on; o_law; k_head; (case hw => w_witness2)
  k_fill
  refine L2.walk_of (l := PySem.Challenge.rw_LID) (n := 63) (k := 40) (x := "script") (CX := fun w => ..) (sp := fun _ => My.sp_law) rfl (by decide) rfl ⟨rfl, by decide, by decide⟩ (fun w h Y => PySem.W.kIn_of Y) ?F ?S ?C
  case F =>
    intro w mg fa h KX G hmg
    have T : ∃ t, My.Txt (L2.KOf KX) t := by
      dsimp only [L2.KOf]                          -- K must stand as «<heap const> w.params» for k_is
      refine' My.txt_mk ?e1 ?e2 ?e3 ..
      (case e1 => PySem.W.k_is)                    -- in the order: a name -> its address -> its object -> its parts
      (case e2 => PySem.W.k_is)
      ..
    obtain ⟨t, T⟩ := T
    have e0 := hmg.symm.trans (PySem.W.mg_of KX G T.law)
    cases e0                                       -- fa is the law's own address
    exact ⟨_, fun s u => .of_eq rfl, fun base kb nb => My.law_fn T kb nb⟩     -- if «.of_eq rfl» comes too early: refine' ⟨_, ?b, fun base kb nb => My.law_fn T kb nb⟩; exact fun s u => .of_eq rfl
  case S => exact fun w H a ns hl hO hS => ..
  case C => exact ..
(the tactic k_is has no namespace: write k_is) -/

/-! SHORT WORDS over the layer: a def of the text, its body, what a loop and a test want. -/
namespace L2
open PySem PySem.Spec PyProof.Rows

/-! ### the text by places -/
/-- the j-th statement of a class's body -/
def inClass (s : Stmt) (j : Nat) : Stmt := match s with
  | .ClassDef _ _ _ body _ _ _ _ _ _ _ => body.getD j (.Pass ⟨0, 0, 0, 0⟩)
  | _ => .Pass ⟨0, 0, 0, 0⟩
def defArgs (s : Stmt) : Arguments := match s with
  | .FunctionDef _ a _ _ _ _ _ _ _ _ => a
  | _ => { posonlyargs := [], args := [], vararg := none, kwonlyargs := [], kw_defaults := [], kwarg := none, defaults := [] }
def defBody (s : Stmt) : List Stmt := match s with
  | .FunctionDef _ _ b _ _ _ _ _ _ _ => b
  | _ => []
def defScope (s : Stmt) : Scope := match s with
  | .FunctionDef _ _ _ _ _ _ sc _ _ _ => sc
  | _ => { kind := .function, names := [], isGenerator := false, isCoroutine := false }

/-! ### no exception leaves a def -/

/-! ### a def (or method) of the text as it stands behind the top -/
structure Fun (K : PySem.W.Frag) (x qual : Str) (st : Stmt) (f : Addr) (fd : FuncData) : Prop where
  ex : ∃ (oc : Value) (od : Option Addr) (kV doc pm : Value) (an : Option Addr) (cdv ct : Value) (osl : Array (Option Value)),
    fd = PySem.W.fnOf x qual (defArgs st) (defBody st) (defScope st) .none kV doc pm an cdv ct ∧ K.lookup f = some ⟨oc, od, .func fd, osl⟩ ∧ PySem.W.codeIn K cdv qual = true
  kp : PySem.W.keepIn K (.ref f) = true
section
variable {P : Program} {w : World} {K : PySem.W.Frag} {mg : Str → Option Value} {base : Heap}
/-- how its arguments bind (no defaults): h is «fun _ _ _ _ _ _ us hl => match us, hl with | [_, _], _ => rfl», one _ a parameter -/
theorem Fun.binds {x qual : Str} {st : Stmt} {f : Addr} {fd : FuncData} {ps : List Str} (F : Fun K x qual st f fd)
    (h : ∀ (kV doc pm : Value) (an : Option Addr) (cdv ct : Value) (us : List Value), us.length = ps.length → bindArgs (PySem.W.fnOf x qual (defArgs st) (defBody st) (defScope st) .none kV doc pm an cdv ct) ⟨us, []⟩ = pure (ps.zip us)) : Binds K fd ps [] := by
  obtain ⟨oc, od, kV, doc, pm, an, cdv, ct, osl, rfl, lk, hcd⟩ := F.ex
  exact .all (h kV doc pm an cdv ct)
theorem fun_mk {x qual : Str} {st : Stmt} {f : Addr} {oc : Value} {od an : Option Addr} {osl : Array (Option Value)} {kV doc pm cdv ct : Value} (l : K.lookup f = some ⟨oc, od, .func (PySem.W.fnOf x qual (defArgs st) (defBody st) (defScope st) .none kV doc pm an cdv ct), osl⟩)
    (c : PySem.W.codeIn K cdv qual = true) (k : PySem.W.keepIn K (.ref f) = true) : Fun K x qual st f (PySem.W.fnOf x qual (defArgs st) (defBody st) (defScope st) .none kV doc pm an cdv ct) := ⟨⟨oc, od, kV, doc, pm, an, cdv, ct, osl, rfl, l, c⟩, k⟩
end

/-! ### expressions in short: the name that stands in the i-th slot -/
section
variable {X : Cx}
theorem pv (i : Nat) {x : Str} {pos : Pos} (hN : X.N[i]? = some x := by rfl) (hv : Vis X.env.scope x := by first | exact Or.inl rfl | exact Or.inr (Or.inl rfl) | exact Or.inr (Or.inr rfl)) (hd : (x == ("__debug__" : Str)) = false := by decide)
    (hcd : (x == ("__classdict__" : Str)) = false := by decide) : PE X (.Name x pos) (tVar i) := pe_var hN hv hd hcd
end

/-! ### tests -/
theorem iteF {A B : Prop} (h : B) : if false = true then A else B := by
  rw [if_neg Bool.false_ne_true]
  exact h
theorem iteT {A B : Prop} (h : A) : if true = true then A else B := by
  rw [if_pos rfl]
  exact h
theorem ite2 {c A B : Prop} [Decidable c] (h1 : c → A) (h2 : ¬ c → B) : if c then A else B := by
  by_cases h : c
  · rw [if_pos h]
    exact h1 h
  · rw [if_neg h]
    exact h2 h
theorem iteNS {c A B : Prop} [Decidable c] (hc : c) (h : B) : if (!decide c) = true then A else B := by
  rw [decide_eq_true hc]
  exact iteF h

/-! ### heaps -/
/-- all that was tracked is as it was -/
def Same (H H' : Hp) : Prop := ∀ b o, H b = some o → H' b = some o
theorem Same.refl (H : Hp) : Same H H := fun _ _ h => h
theorem Same.trans {H H1 H2 : Hp} (a : Same H H1) (b : Same H1 H2) : Same H H2 := fun c o h => b c o (a c o h)
theorem Same.free {H H' : Hp} (e : Same H H') {l : Addr} (h : H' l = Option.none) : H l = Option.none := by
  cases q : H l with
  | none => rfl
  | some o =>
    rw [e l o q] at h
    cases h
theorem Same.seq {K : PySem.W.Frag} {H H' : Hp} {a : Addr} {xs : List V} (e : Same H H') (h : SqL K H a xs) : SqL K H' a xs := by
  rcases h with (h | ⟨o, h⟩) | h
  · exact .inl (.inl (e _ _ h))
  · exact .inl (.inr ⟨o, e _ _ h⟩)
  · exact .inr h

end L2

set_option Elab.async false
set_option linter.all false
set_option maxRecDepth 100000
set_option maxHeartbeats 4000000
/-! EXCEPTIONS over the hand layer: an own exception raised in a def, passing through defs, caught by a try of a caller. -/
namespace L2
open PySem PySem.Spec PyProof.Rows

section
variable {P : Program} {w : World} {H : Hp} {h : Heap} {a : Addr} {o : HO}
theorem ObjOk.obj (x : ObjOk P w H h a o) : ∃ ob, h.get? a = some ob := by
  cases o with
  | lst xs => obtain ⟨_, _, _, _, e⟩ := x; exact ⟨_, e⟩
  | tup xs => obtain ⟨_, _, _, ob, e, _⟩ := x; exact ⟨ob, e⟩
  | dK kvs => obtain ⟨_, _, _, _, ob, _, _, e, _⟩ := x; exact ⟨ob, e⟩
  | dT kvs => obtain ⟨_, _, _, _, ob, _, _, e, _⟩ := x; exact ⟨ob, e⟩
  | set S n => obtain ⟨ob, _, _, _, e, _⟩ := x; exact ⟨ob, e⟩
  | ins C dx fs => obtain ⟨_, _, _, e, _⟩ := x; exact ⟨_, e⟩
  | own y => obtain ⟨ob, e⟩ := x; exact ⟨ob, e⟩
  | xd fs => obtain ⟨_, ⟨ob, _, _, e, _⟩, _⟩ := x; exact ⟨ob, e⟩
  | rng lo hi => obtain ⟨_, _, _, e⟩ := x; exact ⟨_, e⟩
  | frz ob u => obtain ⟨e, _⟩ := x; exact ⟨ob, e⟩
  | tbl ps => exact ⟨_, (show h.get? a = some _ from x)⟩
  | met f y => exact ⟨_, (show h.get? a = some _ from x)⟩
  | ext φ => obtain ⟨_, ⟨ob, e⟩, _⟩ := x; exact ⟨ob, e⟩
/-- what is tracked stands in B: then B's heirs hold it too -/
theorem HOk.heir {B h1 h2 : Heap} {H' : Hp} (ok : HOk P w H' h1) (k3 : ∀ b o, H' b = some o → ∃ ob, B.get? b = some ob) (s1 : B.StaysIn h1) (s2 : B.StaysIn h2) : HOk P w H' h2 := fun b o e =>
  (ok b o e).stay (fun c u hc q => by
    have hk : ∃ ob, B.get? c = some ob := by
      rcases hc with z | z
      · subst z; exact k3 _ _ e
      · exact k3 _ _ z
    obtain ⟨ob, eo⟩ := hk
    have z1 := s1 _ _ eo
    rw [q] at z1; cases z1
    exact s2 _ _ eo) (fun _ q => q) fun _ _ q => q
end

/-- how an own exception lies behind a call: it flies towards the callers; the callers' objects stand in a heap B that is kept whatever is noted in its trace -/
def CXs (P : Program) (w : World) : CXT := fun outer H s E e s' =>
  ∃ (a : Addr) (cls a0 : Value) (H' : Hp) (B : Heap), e = .ref a ∧ s'.os = s.os ∧ AllBare s'.gens ∧ Un (frs outer) [] H H' s.heap s'.heap ∧ HOk P w H' s'.heap ∧
    Heap.FlyingW B outer a cls a0 s'.heap ∧ (∀ b o, s.heap.get? b = some o → H b = none → b ∉ frs outer → B.get? b = some o) ∧
    (∀ b o, s.heap.get? b = some o → b ∉ frs outer → ∃ o', B.get? b = some o') ∧ (∀ b o, H' b = some o → ∃ ob, B.get? b = some ob) ∧ E cls none H'

theorem mem_frs {env : Env} {outer : List Env} {L b : Addr} (hf : env.frame = some L) (hb : b ∈ frs (env :: outer)) : b = L ∨ b ∈ frs outer := by
  unfold frs at hb
  rw [List.filterMap_cons, hf] at hb
  exact List.mem_cons.mp hb

/-- from the entry of a def to the state in which the exception flies: what B keeps -/
theorem un_fly {outer : List Env} {H0 H' : Hp} {h0 h1 B h2 : Heap} (u : Un (frs outer) [] H0 H' h0 h1) (up : ∀ b ∈ frs outer, ∀ o, h1.get? b = some o → ∃ sl, h2.get? b = some { o with slots := sl })
    (k1 : ∀ b o, h0.get? b = some o → H0 b = none → b ∉ frs outer → B.get? b = some o) (k2 : ∀ b o, h0.get? b = some o → b ∉ frs outer → ∃ o', B.get? b = some o') (s2 : B.StaysIn h2) : Un (frs outer) [] H0 H' h0 h2 where
  keep := fun b o e n hb _ => s2 _ _ (k1 b o e n hb)
  slot := fun b o e n hb hx => by
    obtain ⟨sl, e1⟩ := u.slot b o e n hb hx
    obtain ⟨sl2, e2⟩ := up b hb _ e1
    exact ⟨sl2, e2⟩
  free := u.free
  there := fun b o e hx => by
    by_cases hb : b ∈ frs outer
    · obtain ⟨o', e1⟩ := u.there b o e hx
      obtain ⟨sl, e2⟩ := up b hb _ e1
      exact ⟨_, e2⟩
    · obtain ⟨o', e1⟩ := k2 b o e hb
      exact ⟨o', s2 _ _ e1⟩
  tups := u.tups
  frzs := u.frzs
  tbls := u.tbls

section
variable {P : Program} {w : World} {K : PySem.W.Frag} {mg : Str → Option Value} {base : Heap} {N : List Str} {qual : Str} {scope : Scope} {f : Addr} {cd : Value} {A : Around} {outer : List Env} {s0 : Shared} {H0 : Hp} {E : XK}

/-- a callee's exception passes through a def -/
theorem pass_on : Passes (CXs P w) (cxOf (CXs P w) P w K mg base N qual scope f cd A outer s0 H0 E) E := by
  intro pins σ H s e s' I h
  obtain ⟨a, cls, a0, H', B, rfl, ho, hb, hu, hok, hfl, k1, k2, k3, hE⟩ := h
  have hfr : (A.deeper (envOfC qual scope s0.heap.objs.size f cd)).frames = some (envOfC qual scope s0.heap.objs.size f cd :: outer) := I.ok.frames
  have I0 : Un (frs outer) [] H0 H s0.heap s.heap := I.base
  have abv : s0.heap.objs.size ≤ s0.heap.objs.size := Nat.le_refl _
  have nL : ∀ {b o}, s0.heap.get? b = some o → b ∉ frs outer → b ∉ frs (envOfC qual scope s0.heap.objs.size f cd :: outer) := fun {b o} e hb hm => by
    rcases mem_frs (L := s0.heap.objs.size) rfl hm with z | z
    · rw [z] at e; exact absurd (Heap.lt_size e) (Nat.lt_irrefl _)
    · exact hb z
  show wpAny (model P w) (A.deeper (envOfC qual scope s0.heap.objs.size f cd)) (leaving (envOfC qual scope s0.heap.objs.size f cd) (.ref a)) _ _ s'
  refine wpAny_leaves_onW hfr rfl hfl fun h' hfl' hsm => ?_
  have K1 : ∀ b o, s0.heap.get? b = some o → H0 b = none → b ∉ frs outer → B.get? b = some o := fun b o e n hb => k1 b o (I0.keep b o e n hb (by simp)) (I0.free b o e n (by simp)) (nL e hb)
  have K2 : ∀ b o, s0.heap.get? b = some o → b ∉ frs outer → ∃ o', B.get? b = some o' := fun b o e hb => by
    obtain ⟨o', e1⟩ := I0.there b o e (by simp)
    exact k2 b o' e1 (nL e hb)
  have sub : ∀ b ∈ frs outer, b ∈ frs (envOfC qual scope s0.heap.objs.size f cd :: outer) := fun b hb => by
    unfold frs at hb ⊢
    rw [List.filterMap_cons]
    exact List.mem_cons_of_mem _ hb
  have U : Un (frs (envOfC qual scope s0.heap.objs.size f cd :: outer)) [] H0 H' s0.heap s'.heap := (I0.mono sub (fun _ z => z)).trans hu
  have up : ∀ b ∈ frs outer, ∀ o, s'.heap.get? b = some o → ∃ sl, h'.get? b = some { o with slots := sl } := fun b hb o e => by
    obtain ⟨_, o', e', hd⟩ := hfl.2.2.1.mem (sub b hb)
    rw [e] at e'; cases e'
    exact hsm b o e hd
  have U' : Un (frs outer) [] H0 H' s0.heap h' := by
    refine ⟨fun b o e n hb _ => hfl'.1 _ _ (K1 b o e n hb), fun b o e n hb hx => ?_, U.free, fun b o e hx => ?_, U.tups, U.frzs, U.tbls⟩
    · obtain ⟨sl, e1⟩ := U.slot b o e n (sub b hb) hx
      obtain ⟨sl2, e2⟩ := up b hb _ e1
      exact ⟨sl2, e2⟩
    · by_cases hb : b ∈ frs outer
      · obtain ⟨o', e1⟩ := U.there b o e hx
        obtain ⟨sl, e2⟩ := up b hb _ e1
        exact ⟨_, e2⟩
      · obtain ⟨o', e1⟩ := K2 b o e hb
        exact ⟨o', hfl'.1 _ _ e1⟩
  exact ⟨a, cls, a0, H', B, rfl, ho.trans I.os, hb, U', hok.heir k3 hfl.1 hfl'.1, hfl', K1, K2, k3, hE⟩

/-- an exception of an own class, just made in a body, reaches what the body wants of exceptions -/
def RaisesTo (X : Cx) (E : XK) : Prop := ∀ (pins : List (Addr × Obj)) (σ : St) (H : Hp) (s : Shared) (e C : Addr) (h' : Heap) (vs : List Value), Inv X pins σ H s → Heap.MadeExcOf s.heap h' e (.ref C) vs → E (.ref C) none H → X.xe (.ref e) { s with heap := h' }

theorem raise_here : RaisesTo (cxOf (CXs P w) P w K mg base N qual scope f cd A outer s0 H0 E) E := by
  intro pins σ H s e C h' vs I hx hE
  have hfr : (A.deeper (envOfC qual scope s0.heap.objs.size f cd)).frames = some (envOfC qual scope s0.heap.objs.size f cd :: outer) := I.ok.frames
  have I0 : Un (frs outer) [] H0 H s0.heap s.heap := I.base
  have hst : s.heap.FunFrames base (envOfC qual scope s0.heap.objs.size f cd :: outer) := I.stack
  have hfree : ∀ b ∈ frs (envOfC qual scope s0.heap.objs.size f cd :: outer), H b = none := I.stkFree
  have hin : ∀ env ∈ (envOfC qual scope s0.heap.objs.size f cd :: outer), ∀ b, env.frame = some b → b ∈ frs (envOfC qual scope s0.heap.objs.size f cd :: outer) := fun env he b hb => List.mem_filterMap.mpr ⟨env, he, hb⟩
  have nL : ∀ {b o}, s0.heap.get? b = some o → b ∉ frs outer → b ∉ frs (envOfC qual scope s0.heap.objs.size f cd :: outer) := fun {b o} e hb hm => by
    rcases mem_frs (L := s0.heap.objs.size) rfl hm with z | z
    · rw [z] at e; exact absurd (Heap.lt_size e) (Nat.lt_irrefl _)
    · exact hb z
  have sub : ∀ b ∈ frs outer, b ∈ frs (envOfC qual scope s0.heap.objs.size f cd :: outer) := fun b hb => by
    unfold frs at hb ⊢
    rw [List.filterMap_cons]
    exact List.mem_cons_of_mem _ hb
  show wpAny (model P w) (A.deeper (envOfC qual scope s0.heap.objs.size f cd)) (leaving (envOfC qual scope s0.heap.objs.size f cd) (.ref e)) _ _ { s with heap := h' }
  refine wpAny_leaves_madeW (base := PySem.W.hideAll s.heap (frs (envOfC qual scope s0.heap.objs.size f cd :: outer))) (h := s.heap) hfr rfl (fun b o q => PySem.W.of_hideAll _ q) (PySem.W.funFrames_hide hst hin) hx fun h2 t x1 x2 x3 x4 => ?_
  have K1 : ∀ b o, s0.heap.get? b = some o → H0 b = none → b ∉ frs outer → (PySem.W.hideAll s.heap (frs (envOfC qual scope s0.heap.objs.size f cd :: outer))).get? b = some o := fun b o e n hb => PySem.W.hideAll_get _ (I0.keep b o e n hb (by simp)) (nL e hb)
  have K2 : ∀ b o, s0.heap.get? b = some o → b ∉ frs outer → ∃ o', (PySem.W.hideAll s.heap (frs (envOfC qual scope s0.heap.objs.size f cd :: outer))).get? b = some o' := fun b o e hb => by
    obtain ⟨o', e1⟩ := I0.there b o e (by simp)
    exact ⟨o', PySem.W.hideAll_get _ e1 (nL e hb)⟩
  have K3 : ∀ b o, H b = some o → ∃ ob, (PySem.W.hideAll s.heap (frs (envOfC qual scope s0.heap.objs.size f cd :: outer))).get? b = some ob := fun b o e => by
    obtain ⟨ob, eo⟩ := (I.hok b o e).obj
    exact ⟨ob, PySem.W.hideAll_get _ eo fun hm => by rw [hfree b hm] at e; cases e⟩
  have up : ∀ b ∈ frs outer, ∀ o, s.heap.get? b = some o → ∃ sl, h2.get? b = some { o with slots := sl } := fun b hb o eo => by
    obtain ⟨_, o', e', hd⟩ := hst.mem (sub b hb)
    rw [eo] at e'; cases e'
    exact x4 b o (hx.keeps _ _ eo) hd
  refine ⟨e, .ref C, .ref t, H, _, rfl, I.os, I.bare, un_fly I0 up K1 K2 x1.1, I.hok.heir K3 (fun b o q => PySem.W.of_hideAll _ q) x1.1, x1, K1, K2, K3, hE⟩
end
end L2

set_option Elab.async false
set_option linter.all false
set_option maxRecDepth 100000
set_option maxHeartbeats 4000000
namespace L2
open PySem PySem.Spec PyProof.Rows

/-! ### raise C(e, ..) of an own class -/
theorem own_cls {K : PySem.W.Frag} {h : Heap} {mg : Str → Option Value} {x : Str} {C : Addr} {bmB : List Value} {newId : String} (X : K.In h) (hm : mg x = some (.ref C)) (q : PySem.W.excIn K C bmB newId = true) : OwnCls x C bmB newId mg h := by
  refine ⟨hm, ?_⟩
  unfold PySem.W.excIn at q
  split at q
  · rename_i d1 c1 s1 hobj
    split at q
    · rename_i C1 tl j0 j1 j2 j3 nid j5 hmro hslots
      simp only [Bool.and_eq_true, beq_iff_eq, Bool.not_eq_true'] at q
      obtain ⟨⟨⟨⟨⟨e1, e2⟩, e3⟩, e4⟩, e5⟩, e6⟩ := q
      obtain ⟨c_nm, c_bs, c_mro, c_ns, c_qn, c_hd, c_sn, c_sub, c_ab, c_col, c_del⟩ := c1
      dsimp only at hmro e3 e5 e6
      subst e1 e2
      subst hmro
      subst e3
      have hs : s1 = #[j0, j1, j2, j3, some (.builtin nid), j5] := by
        obtain ⟨l⟩ := s1
        simp only at hslots
        rw [hslots]
      subst hs
      exact ⟨tl, c_ns, c_nm, c_qn, c_bs, c_hd, c_sn, c_sub, c_ab, c_col, d1, j0, j1, j2, j3, j5, _, X _ _ hobj, .of_isNs (PySem.W.isNs_of_in X e5), PySem.W.nsMap_none_of_in X e5 e6, PySem.W.tail_of_in X e4⟩
    · cases q
  · cases q

def tRaise (E : XK) (C : Addr) (ta : TA) : TS := fun _ σ H => ta σ H fun vs H1 => vs.length ≤ sizeLine ∧ E (.ref C) none H1
section
variable {X : Cx} {x : Str} {np cpos pos : Pos} {e : Expr} {es : List Expr} {ta : TA} {E : XK} {C : Addr} {bmB : List Value} {B newId initId : String}
theorem ps_raise (hE : RaisesTo X E) (FB : ExcBaseFacts B newId initId bmB) (q : PySem.W.excIn X.K C bmB newId = true) (hc : X.calm = true) (hg : Gl X x) (hm : X.mg x = some (.ref C)) (ha : PA X (e :: es) ta)
    (he : starEach (e :: es) X.env = (false, eval e X.env) :: starEach es X.env := by rfl) (hpl : (backTo cpos (starEach es X.env)).any (·.1) = false := by rfl) (hdb : (x == ("__debug__" : Str)) = false := by decide) :
    PS X (.Raise (some (.Call (.Name x np) (e :: es) [] cpos)) none pos) (tRaise E C ta) := by
  intro pins s σ H D I h
  obtain ⟨tl, NN, nm, qn, bs, hdct, sn, sub, ab, col, dd, k0, k1, k2, k3, k5, mN, hC, hN, hni, T⟩ := (own_cls I.mod.kin hm q).obj
  have kb : ∀ {s2 : Shared} {σ2 : St} {H2 : Hp}, Inv X pins σ2 H2 s2 → ∀ b o, X.base.get? b = some o → s2.heap.get? b = some o := fun J => J.bk
  refine wpAny_Raise_call_subT (C := C) (nm := nm) (q := qn) (N := NN) (bs := bs) (bm := tl) (hdct := hdct) (sn := sn) (sub := sub) (ab := ab) (col := col) (dd := dd) (k0 := k0) (k1 := k1) (k2 := k2) (k3 := k3) (k5 := k5)
    FB (mN := mN) (T.hasType FB.hasBase) (I.ok.hd hc) (by rw [he]; show (false || (backTo cpos (starEach es X.env)).any (·.1)) = false; rw [hpl]; rfl) hni (ld_glob I hg hm ⟨rfl, ?_⟩ hdb)
  have hA := ha cpos pins s σ H _ I h
  rw [he] at hA ⊢
  exact Calls.evalArgs_plain (thn hA fun us s2 ⟨vs, H2, I2, r2, q2⟩ => ⟨rfl, by rw [← r2.length]; exact q2.1, kb I2 _ _ hC, hN.keeps (kb I2), T.keeps (kb I2), fun h' e' hx => hE pins σ H2 s2 e' C h' us I2 hx q2.2⟩)
end

/-! ### f'..{n}..' of an int of few figures -/
def tFmt (te : TE) : TE := fun σ H Q => te σ H fun v H1 => ∃ i : Int, v = .int i ∧ i.natAbs.log2 < 1920 ∧ Q (.str (toString i)) H1
abbrev TJ := Str → St → Hp → (Str → Hp → Prop) → Prop
def PJ (X : Cx) (es : List Expr) (t : TJ) : Prop :=
  ∀ (acc : Str) (pins : List (Addr × Obj)) (s : Shared) (σ : St) (H : Hp) (Q : Str → Hp → Prop), Inv X pins σ H s → t acc σ H Q →
    Joins (model X.prog X.w) X.A X.xe (evalEach es X.env) acc (fun out s1 => ∃ H', Inv X pins σ H' s1 ∧ Q out H') s
theorem joins_mono {M : Model} {A : Around} {E : Value → Shared → Prop} : ∀ {l : List (Sem Value)} {acc : Str} {Q Q' : Str → Shared → Prop} {s : Shared}, Joins M A E l acc Q s → (∀ o s, Q o s → Q' o s) → Joins M A E l acc Q' s
  | [], _, _, _, _, h, k => k _ _ h
  | _ :: _, _, _, _, _, h, k => wpAny_mono h (fun _ _ ⟨y, t, e, z, r⟩ => ⟨y, t, e, z, joins_mono r k⟩) fun _ _ x => x
section
variable {X : Cx} {e : Expr} {es : List Expr} {te : TE} {t : TJ} {pos : Pos}
theorem pe_fmt (he : PE X e te) : PE X (.FormattedValue e (-1) none pos) (tFmt te) := by
  intro pins s σ H Q I h
  refine wpAny_FormattedValue_plain (thn (he pins s σ H _ I h) fun v s1 ⟨x, H1, I1, r1, i, e1, hl, q⟩ => ?_)
  subst e1
  obtain ⟨tk, rfl⟩ := r1
  exact wpAny_formatField_int hl ⟨.str (toString i), H1, I1.tok _, ⟨_, rfl⟩, q⟩
theorem pj_nil : PJ X [] (fun acc _ H Q => Q acc H) := fun acc pins s σ H Q I h => ⟨H, I, h⟩
theorem pj_cons (he : PE X e te) (hr : PJ X es t) : PJ X (e :: es) (fun acc σ H Q => te σ H fun v H1 => ∃ y, v = .str y ∧ (acc ++ y).length ≤ sizeLine ∧ t (acc ++ y) σ H1 Q) := by
  intro acc pins s σ H Q I h
  refine wpAny_mono (he pins s σ H _ I h) (fun v s1 ⟨x, H1, I1, r1, y, e1, hl, q⟩ => ?_) fun _ _ z => z
  subst e1
  obtain ⟨tk, rfl⟩ := r1
  exact ⟨y, tk, rfl, hl, hr _ pins s1 σ H1 Q I1 q⟩
theorem pe_joined {v1 v2 : Expr} (h : PJ X (v1 :: v2 :: es) t) : PE X (.JoinedStr (v1 :: v2 :: es) pos) (fun σ H Q => t Str.empty σ H fun out H1 => out.length ≤ sizeLine ∧ Q (.str out) H1) := by
  intro pins s σ H Q I hq
  refine wpAny_JoinedStr (joins_mono (h _ pins s σ H _ I hq) fun o s1 ⟨H1, I1, hl, q⟩ => ⟨hl, .str o, H1, I1.tok _, ⟨_, rfl⟩, q⟩)
end

/-! ### try: .. except C: .. -/

section
variable {X : Cx} {pins pins' : List (Addr × Obj)} {σ : St} {H : Hp} {s : Shared} {D : Ends} {hs : List ExceptHandler} {a : Addr}
end


/-! ### a call whose exception's wish hangs on the state at the call -/
section
variable {X : Cx} {CX : CXT} {k : Nat} {f : Addr} {fd : FuncData} {ps : List Str} {sp : Sp} {dvs : List V} {ds : List Value} {E : St → XK} {x : Str} {p pos : Pos} {e : Expr} {es : List Expr} {t : TA}
end

section
variable {X : Cx} {pins : List (Addr × Obj)} {σ : St} {H H' : Hp} {s s' : Shared} {a : Addr} {cls a0 : Value} {B h6 : Heap}
end

end L2

set_option Elab.async false
set_option linter.all false
set_option maxRecDepth 100000
set_option maxHeartbeats 4000000
namespace L2
open PySem PySem.Spec PyProof.Rows PySem.W

/-! ### isinstance(e, C) of an exception of an own class -/
section
variable {prog : Program} {w : World} {A : Around} {E : Value → Shared → Prop} {h : Heap} {g : Array GenState} {d : Drawn} {t : Nat} {os : OsState} {a C : Addr} {o : Obj} {K : Frag}





end



/-- isinstance(x, c), c one class -/
def clsV : V → Option Value
  | .ty n => some (.type n)
  | .ref C => some (.ref C)
  | _ => none
theorem clsV_rel {c : V} {v cv : Value} (r : RelV c v) (e : clsV c = some cv) : v = cv := by
  cases c <;> first | (cases e; done) | skip
  · have r' : v = Value.ref _ := r
    cases e; exact r'
  · have r' : v = Value.type _ := r
    cases e; exact r'
def rIsi (K : Frag) : List V → Hp → VK → Prop := fun vs H Q => ∃ x c cv t b, vs = [x, c] ∧ clsV c = some cv ∧ TyOf K H x t ∧ kitOne K t cv = some b ∧ Q (.bl b) H
theorem call_isi {X : Cx} : CallR X (.builtin "isinstance") (rIsi X.K) := by
  intro pins s σ H xs us Q I r h
  obtain ⟨x, c, cv, t, b, rfl, rc, ty, e, q⟩ := h
  obtain ⟨u, v, rfl, r1, r2⟩ := r.two
  obtain rfl := clsV_rel r2 rc
  exact isinst_ok I r1 ty e fun tk => ⟨.bl b, H, I.tok _, rfl, q⟩

/-! ### except C as n: .. -/
section
variable {X : Cx} {pins : List (Addr × Obj)} {σ : St} {H : Hp} {s : Shared} {M : Model} {A : Around} {E : Value → Shared → Prop}
end


end L2

set_option Elab.async false
set_option linter.all false
set_option maxRecDepth 100000
set_option maxHeartbeats 4000000
namespace L2
open PySem PySem.Spec PyProof.Rows

/-! ### xs.insert(i, y) within the list -/

/-! ### for i, x in enumerate(a list) -/
def Ite (K : PySem.W.Frag) (a : Addr) : It :=
  ⟨fun i H => ∃ xs x, SqL K H a xs ∧ xs[i]? = some x, fun i H x H' => ∃ p y, x = .ref p ∧ H p = none ∧ H' = upd H p (.tup [.int (i : Nat), y]) ∧ ∀ xs, SqL K H a xs → xs[i]? = some y, fun i H => ∃ xs, SqL K H a xs ∧ xs.length ≤ i⟩

theorem turn_enum {P : Program} {w : World} {K : PySem.W.Frag} {elts : List Expr} {x1 : Nat} {pos : Pos} (a e it : Addr) (hne : e ≠ it) :
    Turn P w K (.Tuple elts x1 pos) (Ite K a) [e, it] e (fun i h => (∃ old, IsEnum h e it ((i : Nat) : Int) old) ∧ h.IsListIter it a i) where
  mem := by simp
  obj := fun i h st b hb => by
    obtain ⟨⟨old, he⟩, o, ho, c, d⟩ := st
    rcases List.mem_cons.mp hb with z | z
    · subst z
      exact ⟨_, he, fun v z => by
        have z' : Data.fields _ = Data.cell v := z
        cases z'⟩
    · have z' : b = it := by simpa using z
      subst z'
      exact ⟨o, ho, fun v z => by rw [d] at z; cases z⟩
  keep := fun i h h' st k => by
    obtain ⟨⟨old, he⟩, hit⟩ := st
    exact ⟨⟨old, k e (by simp) _ he⟩, hit.at fun o q => k it (by simp) o q⟩
  item := by
    intro X hP hw hK hc i pins s σ H E I hf st hg
    subst hP hw hK
    obtain ⟨xs, x, hq, hx⟩ := hg
    obtain ⟨its, rv, p, hz⟩ := I.list hq
    obtain ⟨u, hu, ru⟩ := rv.get hx
    obtain ⟨⟨old, he⟩, hit⟩ := st
    obtain ⟨e0, e1, e2, e3, e4, e5⟩ := hf e (by simp)
    obtain ⟨i0, i1, i2, i3, i4, i5⟩ := hf it (by simp)
    refine wpAny_pyNext_enum_item he hit p.isList (x := u) (by simpa using hu) hne fun h1 heo hit1 ht1 hz1 hk1 => ?_
    refine ⟨.ref s.heap.objs.size, rfl, ?_⟩
    refine wpAny_letOwnedTupleGo_enum heo fun h2 he2 hs2 => ?_
    have hs2 : Heap.SameBut e h1 h2 := hs2
    have fresh : H s.heap.objs.size = none := I.hok.fresh (Nat.le_refl _)
    have lt : ∀ {b o}, s.heap.get? b = some o → b ≠ s.heap.objs.size := fun q => Nat.ne_of_lt (Heap.lt_size q)
    have kp : ∀ b o, b ≠ e → b ≠ it → s.heap.get? b = some o → h2.get? b = some o := fun b o n1 n2 q => (hs2.2 b n1).trans (hk1 b o n1 n2 q)
    have hel : e ≠ s.heap.objs.size := lt he
    have ht2 : h2.get? s.heap.objs.size = some { cls := .type "tuple", data := .seq #[.int i s.toks, u] } := (hs2.2 _ hel.symm).trans ht1
    have nch : ∀ {b : Addr}, b ∉ [e, it] → b ≠ e ∧ b ≠ it := fun hb => ⟨fun z => hb (by simp [z]), fun z => hb (by simp [z])⟩
    have I2 : Inv X pins σ (upd H s.heap.objs.size (.tup [.int (i : Nat), x])) { s with heap := h2, toks := s.toks + 1 } := by
      refine I.step (g' := s.gens) (d' := s.drawn) (t' := s.toks + 1) (ch := [e, it]) (fun b hb => ?_) (fun b o _ _ hb q _ => kp b o (nch hb).1 (nch hb).2 q) (fun b o _ _ hb q _ => ⟨o.slots, kp b o (nch hb).1 (nch hb).2 q⟩) (fun b o _ q n => ?_)
        (fun b o hb q => ⟨o, kp b o (nch hb).1 (nch hb).2 q⟩) (fun b ys q => ?_) (fun b o v q => ?_) (fun b ps q => ?_) (fun m hm => ?_) (fun b o q => ?_) I.bare
      · rcases List.mem_cons.mp hb with z | z
        · subst z; exact ⟨e3, e1, e4, e5⟩
        · have z' : b = it := by simpa using z
          subst z'; exact ⟨i3, i1, i4, i5⟩
      · rw [upd_ne (lt q)]; exact n
      · rw [upd_ne (ne_of_none q fresh)]; exact q
      · rw [upd_ne (ne_of_none q fresh)]; exact q
      · exact ⟨#[], by rw [upd_ne (ne_of_none q fresh), q]; simp⟩
      · obtain ⟨o, es, ep, ho, r⟩ := hm
        exact ⟨o, es, ep, kp _ o (Ne.symm e1) (Ne.symm i1) ho, r⟩
      · by_cases hb : b = s.heap.objs.size
        · subst hb
          rw [upd_same] at q; cases q
          exact ⟨by show 2 ≤ sizeLine; decide, [.int i s.toks, u], .cons ⟨_, rfl⟩ (.cons ru .nil), _, ht2, rfl, _, rfl⟩
        · rw [upd_ne hb] at q
          have tr : ∀ {c : Addr} {v : HO}, H c = some v → c ≠ e ∧ c ≠ it := fun z => ⟨fun y => (by rw [y, e0] at z; cases z), fun y => (by rw [y, i0] at z; cases z)⟩
          refine (I.hok b o q).stay (fun c v hcc z => ?_) (fun c z => ?_) fun c ys z => ?_
          · rcases hcc with y | y
            · subst y; exact kp _ v (tr q).1 (tr q).2 z
            · exact kp _ v (tr y).1 (tr y).2 z
          · rw [upd_ne (ne_of_none z fresh)]; exact z
          · rw [upd_ne (ne_of_none z fresh)]; exact z
    have ec : (((i + 1 : Nat) : Nat) : Int) = (i : Int) + 1 := by push_cast; rfl
    refine ⟨.ref s.heap.objs.size, _, I2, rfl, ⟨_, x, rfl, fresh, rfl, fun ys hy => by rw [I.list_inj hy hq]; exact hx⟩, ⟨⟨u, by rw [ec]; exact he2⟩, ?_⟩, fun b hb => ?_⟩
    · exact hit1.extBut hs2.extBut (Ne.symm hne)
    · have hb0 := (hf b hb).1
      have hbl : b ≠ s.heap.objs.size := by
        rcases List.mem_cons.mp hb with z | z
        · subst z; exact hel
        · have z' : b = it := by simpa using z
          subst z'
          obtain ⟨o, ho, _⟩ := id hit
          exact lt ho
      rw [upd_ne hbl]; exact hb0
  done := by
    intro X hP hw hK hc i pins s σ H E I hf st hg
    subst hP hw hK
    obtain ⟨xs, hq, hx⟩ := hg
    obtain ⟨its, rv, p, hz⟩ := I.list hq
    obtain ⟨⟨old, he⟩, hit⟩ := st
    obtain ⟨i0, i1, i2, i3, i4, i5⟩ := hf it (by simp)
    have hl := rv.length
    exact wpAny_pyNext_enum_end (I.ok.hd hc) he hit p.isList (by simp; omega) fun h' eb => ⟨rfl, I.turned (t' := s.toks) (fun b o hb q => eb b o hb q) i0 i1 i3 i4 i5⟩
  self := fun _ _ _ _ _ st h => wpAny_pyIter_enum st.1.choose_spec h

def iEnum (K : PySem.W.Frag) (ta : TA) : TI := fun σ H R => ta σ H fun vs H1 => ∃ a xs, vs = [.ref a] ∧ H1 a = some (.lst xs) ∧ R (Ite K a) H1
section
variable {X : Cx} {elts : List Expr} {x1 : Nat} {tpos : Pos}
theorem pi_enum {a : Expr} {ta : TA} {p pos : Pos} (hg : Gl X "enumerate") (hm : X.mg "enumerate" = none) (ha : PA X [a] ta) (hs : starEach [a] X.env = [(false, eval a X.env)] := by rfl) :
    PI X (.Tuple elts x1 tpos) (.Call (.Name "enumerate" p) [a] [] pos) (iEnum X.K ta) := by
  intro pins s σ H R I h
  refine Call_ (ld_blt I hg hm boot_enumerate (PyProof.Rows.callWith_type1 (thn (ha pos pins s σ H _ I h) fun us s1 ⟨vs, H1, I1, r1, q1⟩ => ?_) hs rfl))
  obtain ⟨l, xs, rfl, hl, q⟩ := q1
  obtain ⟨u, rfl, ru⟩ := r1.one
  cases ru
  obtain ⟨z, its, n, r, hll, e⟩ := I1.lstM hl
  refine call_enumerate_1 e fun h' hen hit hsz kp => ?_
  refine wpAny_pyIter_enum hen ?_
  have I2 : Inv X pins σ H1 { s1 with heap := h' } := I1.kept (t' := s1.toks) kp
  refine ⟨s1.heap.objs.size + 1, [s1.heap.objs.size + 1, s1.heap.objs.size], _, _, H1, rfl, I2, turn_enum l _ _ (Nat.succ_ne_self _), ⟨⟨_, hen⟩, hit⟩, fun b hb => ?_, q⟩
  rcases List.mem_cons.mp hb with z | z
  · subst z; exact I1.fpOk (Nat.le_succ _) (I1.hok.fresh (Nat.le_succ _))
  · have z' : b = s1.heap.objs.size := by simpa using z
    subst z'; exact I1.fpOk (Nat.le_refl _) (I1.hok.fresh (Nat.le_refl _))
end
/-- over a list that the body leaves as it is; each turn hands out a new pair -/
theorem for_enum {K : PySem.W.Frag} {a : Addr} {xs : List V} {g : TG} {tb : TS} {D : Ends} {σ : St} {H : Hp} (Pv : Nat → St → Hp → Prop) (h0 : Pv 0 σ H) (hl : ∀ i σ H, i ≤ xs.length → Pv i σ H → SqL K H a xs)
    (hs : ∀ i x σ H p, xs[i]? = some x → Pv i σ H → H p = none → g (.ref p) σ (upd H p (.tup [.int (i : Nat), x])) fun σ2 H2 => tb { D with nx := Pv (i + 1), ct := Pv (i + 1), bk := D.nx } σ2 H2) (hd : ∀ σ H, Pv xs.length σ H → D.nx σ H) :
    ∃ W : Nat → Nat → St → Hp → Prop, (∃ m, W 0 m σ H) ∧ ∀ i m σ H, W i m σ H →
      ((Ite K a).stop i H ∧ D.nx σ H) ∨ ((Ite K a).go i H ∧ ∃ N : St → Hp → Prop, (∀ σ' H', N σ' H' → ∃ m', m' < m ∧ W (i + 1) m' σ' H') ∧ ∀ x H', (Ite K a).yld i H x H' → g x σ H' fun σ2 H2 => tb { D with nx := N, ct := N, bk := D.nx } σ2 H2) := by
  refine ⟨fun i m σ H => Pv i σ H ∧ i ≤ xs.length ∧ m = xs.length - i, ⟨_, h0, Nat.zero_le _, rfl⟩, fun i m σ H ⟨hp, hi, hm⟩ => ?_⟩
  have hq := hl i σ H hi hp
  by_cases hc : i < xs.length
  · refine .inr ⟨⟨xs, xs[i], hq, List.getElem?_eq_getElem hc⟩, Pv (i + 1), fun σ' H' hp' => ⟨xs.length - (i + 1), by omega, hp', hc, rfl⟩, fun x H' hy => ?_⟩
    obtain ⟨p, y, rfl, hpn, rfl, hyy⟩ := hy
    exact hs i y σ H p (hyy xs hq) hp hpn
  · have e : i = xs.length := by omega
    subst e
    exact .inl ⟨⟨xs, hq, Nat.le_refl _⟩, hd σ H hp⟩

/-! ### a def of the text that may raise -/
section
variable {P : Program} {w : World} {K : PySem.W.Frag} {mg : Str → Option Value} {base : Heap}
theorem Fun.okX {x qual : Str} {st : Stmt} {f : Addr} {fd : FuncData} {N ps : List Str} {k : Nat} {sp : Sp} (F : Fun K x qual st f fd) (S : FnScope N ps (defScope st)) (len : ∀ vs H Q E, sp vs H Q E → vs.length = ps.length)
    (hbody : ∀ (cdv : Value) (A : Around) (outer : List Env) (s : Shared) (H : Hp) (vs : List V) (Q : VK) (E : XK), Room k (A.deeper (envOfC qual (defScope st) s.heap.objs.size f cdv)) → sp vs H Q E →
      ∃ t, PSs (cxOf (CXs P w) P w K mg base N qual (defScope st) f cdv A outer s H E) (defBody st) t ∧ t { nx := fun _ H' => Q .non H', rt := Q } (start N vs) H) : FnOk P w K mg base (CXs P w) (k + 1) f fd ps sp := by
  obtain ⟨oc, od, kV, doc, pm, an, cdv, ct, osl, rfl, lk, hcd⟩ := F.ex
  exact fn_of lk hcd S len fun A outer s H vs Q E hr hsp => hbody cdv A outer s H vs Q E hr hsp
end
end L2

set_option Elab.async false
set_option linter.all false
set_option maxRecDepth 100000
set_option maxHeartbeats 4000000
namespace L2
open PySem PySem.Spec PyProof.Rows PySem.W

/-! ### lists compared -/
theorem units_in1 {A : Around} : A.in1.units = A.units + 1 := rfl
theorem all_eq_ints {xs ys : List Int} (h : xs.length = ys.length) : ((List.range xs.length).all fun j => xs.getD j 0 == ys.getD j 0) = decide (xs = ys) := by
  by_cases e : xs = ys
  · subst e
    rw [decide_eq_true rfl, List.all_eq_true]
    intro j _
    exact beq_self_eq_true _
  · rw [decide_eq_false e, Bool.eq_false_iff]
    intro q
    refine e (List.ext_getElem h fun i h1 h2 => ?_)
    have z := List.all_eq_true.mp q i (List.mem_range.mpr h1)
    have z' := beq_iff_eq.mp z
    rw [List.getD_eq_getElem?_getD, List.getD_eq_getElem?_getD, List.getElem?_eq_getElem h1, List.getElem?_eq_getElem h2] at z'
    exact z'
section
variable {X : Cx}
/-- xs == [] -/
def rEqN (K : Frag) : R2 := fun x y H Q => ∃ a b xs, x = .ref a ∧ y = .ref b ∧ SqL K H a xs ∧ SqL K H b [] ∧ Q (.bl xs.isEmpty) H
theorem op_eqN (hu : X.A.units < cLine) : OpR X (compareOp .Eq) (rEqN X.K) := by
  intro pins s σ H x y v u Q I rx ry h
  obtain ⟨a, b, xs, rfl, rfl, ha, hb, q⟩ := h
  cases rx; cases ry
  obtain ⟨i1, r1, p1, z1⟩ := I.list ha
  obtain ⟨i2, r2, p2, z2⟩ := I.list hb
  cases r2
  cases xs with
  | nil =>
    cases r1
    exact SeqAt.eq_listAt (e := fun _ => true) p1.isList p2.isList rfl hu (fun j h1 _ => absurd h1 (Nat.not_lt_zero _)) ⟨.bl true, H, I, rfl, q⟩
  | cons x r =>
    cases r1 with
    | cons r0 rt => exact SeqAt.eq_list_lengthsAt p1.isList p2.isList (by simp) hu ⟨.bl false, H, I, rfl, q⟩
def rNeN (K : Frag) : R2 := fun x y H Q => ∃ a b xs, x = .ref a ∧ y = .ref b ∧ SqL K H a xs ∧ SqL K H b [] ∧ Q (.bl (!xs.isEmpty)) H
theorem op_neN (hu : X.A.units < cLine) : OpR X (compareOp .NotEq) (rNeN X.K) := by
  intro pins s σ H x y v u Q I rx ry h
  obtain ⟨a, b, xs, rfl, rfl, ha, hb, q⟩ := h
  cases rx; cases ry
  obtain ⟨i1, r1, p1, z1⟩ := I.list ha
  obtain ⟨i2, r2, p2, z2⟩ := I.list hb
  cases r2
  cases xs with
  | nil =>
    cases r1
    exact SeqAt.RcNeAt.lists (e := fun _ => true) p1.isList p2.isList rfl hu (fun j h1 _ => absurd h1 (Nat.not_lt_zero _)) _ _ _ _ ⟨.bl false, H, I, rfl, q⟩
  | cons x r =>
    cases r1 with
    | cons r0 rt => exact SeqAt.RcNeAt.lists_lengths p1.isList p2.isList (by simp) hu _ _ _ _ ⟨.bl true, H, I, rfl, q⟩
end

/-! ### isinstance(x, (T1, T2, ..)) -/
def clsVs : List V → Option (List Value)
  | [] => some []
  | c :: r => match clsV c, clsVs r with
    | some v, some vs => some (v :: vs)
    | _, _ => none
theorem clsVs_rel : ∀ {cs : List V} {us cvs : List Value}, Vals cs us → clsVs cs = some cvs → us = cvs
  | [], _, _, .nil, e => by cases e; rfl
  | c :: r, _, _, .cons r1 rt, e => by
    unfold clsVs at e
    split at e
    · rename_i v vs h1 h2
      cases e
      rw [clsV_rel r1 h1, clsVs_rel rt h2]
    · cases e
def rIsT (K : Frag) : List V → Hp → VK → Prop := fun vs H Q => ∃ x tp cs cvs t b, vs = [x, .ref tp] ∧ H tp = some (.tup cs) ∧ clsVs cs = some cvs ∧ TyOf K H x t ∧ kitAny K t cvs = some b ∧ Q (.bl b) H
theorem call_isT {X : Cx} : CallR X (.builtin "isinstance") (rIsT X.K) := by
  intro pins s σ H xs us Q I r h
  obtain ⟨x, tp, cs, cvs, t, b, rfl, htp, hc, ty, e, q⟩ := h
  obtain ⟨u, v, rfl, r1, r2⟩ := r.two
  cases r2
  obtain ⟨its, rv, p, _⟩ := I.tuple (SqT.of htp)
  obtain rfl := clsVs_rel rv hc
  obtain ⟨⟨oc, od, oda, osl⟩, ho, hcl, n, hd⟩ := p
  dsimp only at hcl hd
  subst hcl hd
  have fin : ∀ tk, EP X pins σ Q (.bool b) { s with toks := tk } := fun tk => ⟨.bl b, H, I.tok _, rfl, q⟩
  cases ty with
  | non => cases (show u = Value.none from r1); exact kia_tup kitx_none I.kIn True.intro ho e (fun z => nomatch z) fin
  | bl y => cases (show u = Value.bool y from r1); exact kia_tup kitx_bool I.kIn True.intro ho e (fun z => nomatch z) fin
  | int i => obtain ⟨t, q⟩ := (show ∃ t, u = Value.int i t from r1); cases q; exact kia_tup kitx_int I.kIn True.intro ho e (fun z => nomatch z) fin
  | str y => obtain ⟨t, q⟩ := (show ∃ t, u = Value.str y t from r1); cases q; exact kia_tup kitx_str I.kIn True.intro ho e (fun z => nomatch z) fin
  | flt y => obtain ⟨t, q⟩ := (show ∃ t, u = Value.float y t from r1); cases q; exact kia_tup kitx_float I.kIn True.intro ho e (fun z => nomatch z) fin
  | @lst a xs ea =>
    cases (show u = Value.ref a from r1)
    obtain ⟨_, _, n, _, h1⟩ := (show ObjOk X.prog X.w H s.heap a (.lst xs) from I.hok a _ ea)
    exact kia_tup kitx_list I.kIn ⟨_, h1, rfl⟩ ho e (fun z => nomatch z) fin
  | @frz a ob xs ea =>
    cases (show u = Value.ref a from r1)
    obtain ⟨_, _, _, n, _, h1⟩ := (show ObjOk X.prog X.w H s.heap a (.frz ob (.lst xs)) from I.hok a _ ea)
    exact kia_tup kitx_list I.kIn ⟨_, h1, rfl⟩ ho e (fun z => nomatch z) fin
  | @tup a xs ea =>
    cases (show u = Value.ref a from r1)
    obtain ⟨_, _, _, p⟩ := (show ObjOk X.prog X.w H s.heap a (.tup xs) from I.hok a _ ea)
    obtain ⟨o, h1, h2, _⟩ := p
    exact kia_tup kitx_tuple I.kIn ⟨o, h1, h2⟩ ho e (fun z => nomatch z) fin
  | @dK a kvs ea =>
    cases (show u = Value.ref a from r1)
    obtain ⟨_, _, vs, _, p⟩ := (show ObjOk X.prog X.w H s.heap a (.dK kvs) from I.hok a _ ea)
    obtain ⟨o, es, ep, h1, h2, _⟩ := p
    exact kia_tup kitx_dict I.kIn ⟨o, h1, h2.1⟩ ho e (fun z => nomatch z) fin
  | @dT a kvs ea =>
    cases (show u = Value.ref a from r1)
    obtain ⟨_, _, xs, _, o, es, ep, h1, h2, _⟩ := (show ObjOk X.prog X.w H s.heap a (.dT kvs) from I.hok a _ ea)
    exact kia_tup kitx_dict I.kIn ⟨o, h1, h2.1⟩ ho e (fun z => nomatch z) fin
  | @ins a C dx fs ea cl ha hn htk hm =>
    cases (show u = Value.ref a from r1)
    obtain ⟨mA, O, _⟩ := ins_get I.hok ea
    obtain ⟨od, J, _⟩ := O.look
    exact kia_tup (kitx_own (cl.get _) cl.hd ha hn htk hm) I.kIn J ho e (fun z => nomatch z) fin

/-! ### data: what a value and all that it holds looks like -/
inductive D where
  | int (i : Int) | str (x : Str) | bl (b : Bool) | non | lst (xs : List D) | tup (xs : List D)
mutual
def D.size : D → Nat
  | .lst xs => D.sizes xs + 1
  | .tup xs => D.sizes xs + 1
  | _ => 1
def D.sizes : List D → Nat
  | [] => 0
  | d :: r => D.size d + D.sizes r
end
inductive Rep (H : Hp) : V → D → Prop where
  | int (i : Int) : Rep H (.int i) (.int i)
  | str (x : Str) : Rep H (.str x) (.str x)
  | bl (b : Bool) : Rep H (.bl b) (.bl b)
  | non : Rep H .non .non
  | lst {a : Addr} {vs : List V} {ds : List D} (h : H a = some (.lst vs)) (hl : vs.length = ds.length) (hs : ∀ (i : Nat) v d, vs[i]? = some v → ds[i]? = some d → Rep H v d) : Rep H (.ref a) (.lst ds)
  | tup {a : Addr} {vs : List V} {ds : List D} (h : H a = some (.tup vs)) (hl : vs.length = ds.length) (hs : ∀ (i : Nat) v d, vs[i]? = some v → ds[i]? = some d → Rep H v d) : Rep H (.ref a) (.tup ds)
theorem Rep.mono {H H' : Hp} {v : V} {d : D} (s : Same H H') (r : Rep H v d) : Rep H' v d := by
  induction r with
  | int i => exact .int i
  | str x => exact .str x
  | bl b => exact .bl b
  | non => exact .non
  | lst h hl _ ih => exact .lst (s _ _ h) hl fun i v d h1 h2 => ih i v d h1 h2
  | tup h hl _ ih => exact .tup (s _ _ h) hl fun i v d h1 h2 => ih i v d h1 h2
theorem D.size_pos : ∀ d : D, 1 ≤ d.size
  | .int _ => Nat.le_refl _ | .str _ => Nat.le_refl _ | .bl _ => Nat.le_refl _ | .non => Nat.le_refl _
  | .lst xs => Nat.succ_le_succ (Nat.zero_le _)
  | .tup xs => Nat.succ_le_succ (Nat.zero_le _)
theorem D.sizes_len : ∀ ds : List D, ds.length ≤ D.sizes ds
  | [] => Nat.le_refl _
  | d :: r => by
    have h1 := D.size_pos d
    have h2 := D.sizes_len r
    show r.length + 1 ≤ D.size d + D.sizes r
    omega
theorem D.sizes_append : ∀ xs ys : List D, D.sizes (xs ++ ys) = D.sizes xs + D.sizes ys
  | [], ys => by show D.sizes ys = 0 + D.sizes ys; omega
  | d :: r, ys => by
    show D.size d + D.sizes (r ++ ys) = D.size d + D.sizes r + D.sizes ys
    rw [D.sizes_append r ys]; omega
end L2

set_option Elab.async false
set_option linter.all false
set_option maxRecDepth 100000
set_option maxHeartbeats 4000000
namespace L2
open PySem PySem.Spec PyProof.Rows PySem.W
section
variable {X : Cx}
/-- xs != ys, both of ints -/
def rNeI (K : Frag) : R2 := fun x y H Q => ∃ (a b : Addr) (xs ys : List Int), x = .ref a ∧ y = .ref b ∧ SqL K H a (xs.map V.int) ∧ SqL K H b (ys.map V.int) ∧ Q (.bl (!decide (xs = ys))) H
theorem op_neI (hu : X.A.units < cLine) : OpR X (compareOp .NotEq) (rNeI X.K) := by
  intro pins s σ H x y v u Q I rx ry h
  obtain ⟨a, b, xs, ys, rfl, rfl, ha, hb, q⟩ := h
  cases rx; cases ry
  obtain ⟨i1, r1, p1, z1⟩ := I.list ha
  obtain ⟨i2, r2, p2, z2⟩ := I.list hb
  have l1 : i1.length = xs.length := by rw [← r1.length, List.length_map]
  have l2 : i2.length = ys.length := by rw [← r2.length, List.length_map]
  have get : ∀ {l : List Value} {ns : List Int} {j : Nat} (hv : Vals (ns.map V.int) l) (hj : j < l.length), ∃ t, l[j] = Value.int (ns.getD j 0) t := fun {l ns j} hv hj => by
    have hj' : j < ns.length := by have := hv.length; rw [List.length_map] at this; omega
    obtain ⟨w, hw, r⟩ := hv.get (i := j) (x := V.int ns[j]) (by rw [List.getElem?_map, List.getElem?_eq_getElem hj']; rfl)
    rw [List.getElem?_eq_getElem hj] at hw
    cases hw
    obtain ⟨t, e⟩ := r
    refine ⟨t, e.trans ?_⟩
    rw [List.getD_eq_getElem?_getD, List.getElem?_eq_getElem hj']; rfl
  by_cases hl : xs.length = ys.length
  · refine SeqAt.RcNeAt.lists (e := fun j => xs.getD j 0 == ys.getD j 0) p1.isList p2.isList (by rw [List.size_toArray, List.size_toArray, l1, l2, hl]) hu (fun j h1 h2 => ?_) _ _ _ _ ⟨.bl (!decide (xs = ys)), H, I, ?_, q⟩
    · rw [List.size_toArray] at h1 h2
      obtain ⟨t, et⟩ := get r1 h1
      obtain ⟨t', et'⟩ := get r2 h2
      rw [List.getElem_toArray, List.getElem_toArray, et, et']
      exact SeqAt.EqAt.int_int _ _ _ _
    · show Value.bool _ = Value.bool _
      rw [List.size_toArray, l1, all_eq_ints hl]
  · refine SeqAt.RcNeAt.lists_lengths p1.isList p2.isList (by rw [List.size_toArray, List.size_toArray, l1, l2]; simpa using hl) hu _ _ _ _ ⟨.bl (!decide (xs = ys)), H, I, ?_, q⟩
    show Value.bool _ = Value.bool _
    rw [decide_eq_false (fun z => hl (by rw [z]))]; rfl
end
end L2

set_option Elab.async false
set_option linter.all false
set_option maxRecDepth 100000
set_option maxHeartbeats 4000000
/-! == of two values of the same data: True. -/
namespace L2
open PySem PySem.Spec PyProof.Rows PySem.W
mutual
def D.depth : D → Nat
  | .lst xs => D.depths xs + 1
  | .tup xs => D.depths xs + 1
  | _ => 0
def D.depths : List D → Nat
  | [] => 0
  | d :: r => max (D.depth d) (D.depths r)
end
theorem D.depth_mem : ∀ {ds : List D} {i : Nat} {d : D}, ds[i]? = some d → d.depth ≤ D.depths ds
  | [], _, _, h => by cases h
  | e :: r, 0, d, h => by cases h; exact Nat.le_max_left _ _
  | e :: r, i + 1, d, h => Nat.le_trans (D.depth_mem (ds := r) (i := i) h) (Nat.le_max_right _ _)
theorem all_true (n : Nat) : (List.range n).all (fun _ => true) = true := List.all_eq_true.mpr fun _ _ => rfl
section
variable {X : Cx} {pins : List (Addr × Obj)} {σ : St} {H : Hp} {s : Shared}
theorem vals_items {vs : List V} {its : List Value} (r : Vals vs its) {j : Nat} (hj : j < its.length) : ∃ v, vs[j]? = some v ∧ RelV v its[j] := by
  have hl := r.length
  have hv : vs[j]? = some (vs[j]'(by omega)) := List.getElem?_eq_getElem (by omega)
  obtain ⟨u, hu, ru⟩ := r.get hv
  rw [List.getElem?_eq_getElem hj] at hu
  cases hu
  exact ⟨_, hv, ru⟩
theorem eqAt_rep (I : Inv X pins σ H s) {x : V} {d : D} (r : Rep H x d) : ∀ {y : V} {u v : Value} {A : Around}, Rep H y d → RelV x u → RelV y v → A.units + d.depth < cLine → SeqAt.EqAt A s u v true := by
  induction r with
  | int i =>
    intro y u v A ry hu hv _
    cases ry
    obtain ⟨t, rfl⟩ := hu
    obtain ⟨t', rfl⟩ := hv
    have := SeqAt.EqAt.int_int (A := A) (s := s) i t i t'
    rw [beq_self_eq_true] at this
    exact this
  | str c =>
    intro y u v A ry hu hv _
    cases ry
    obtain ⟨t, rfl⟩ := hu
    obtain ⟨t', rfl⟩ := hv
    have := SeqAt.EqAt.str_str (A := A) (s := s) c t c t'
    rw [beq_self_eq_true] at this
    exact this
  | bl b =>
    intro y u v A ry hu hv _
    cases ry; cases hu; cases hv
    exact SeqAt.EqAt.same _
  | non =>
    intro y u v A ry hu hv _
    cases ry; cases hu; cases hv
    exact SeqAt.EqAt.same _
  | @lst a vs ds h hl hs ih =>
    intro y u v A ry hu hv hd
    cases ry with
    | @lst b ws _ hb hlb hsb =>
    cases hu; cases hv
    by_cases hab : a = b
    · subst hab; exact SeqAt.EqAt.same _
    obtain ⟨i1, r1, p1, _⟩ := I.list (SqL.of h)
    obtain ⟨i2, r2, p2, _⟩ := I.list (SqL.of hb)
    have l1 := r1.length
    have l2 := r2.length
    have hdd : A.units + (D.depths ds + 1) < cLine := hd
    have q := SeqAt.RcAt.lists (A := A) (e := fun _ => true) p1.isList p2.isList (by rw [List.size_toArray, List.size_toArray]; omega) (by omega) (fun j h1 h2 => by
      rw [List.size_toArray] at h1 h2
      obtain ⟨z1, e1, q1⟩ := vals_items r1 h1
      obtain ⟨z2, e2, q2⟩ := vals_items r2 h2
      have hj : j < ds.length := by omega
      rw [List.getElem_toArray, List.getElem_toArray]
      refine ih j z1 ds[j] e1 (List.getElem?_eq_getElem hj) (hsb j z2 ds[j] e2 (List.getElem?_eq_getElem hj)) q1 q2 ?_
      have := D.depth_mem (List.getElem?_eq_getElem hj)
      rw [units_in1]; omega)
    rw [all_true] at q
    exact SeqAt.EqAt.of_refs hab q
  | @tup a vs ds h hl hs ih =>
    intro y u v A ry hu hv hd
    cases ry with
    | @tup b ws _ hb hlb hsb =>
    cases hu; cases hv
    by_cases hab : a = b
    · subst hab; exact SeqAt.EqAt.same _
    obtain ⟨i1, r1, p1, _⟩ := I.tuple (SqT.of h)
    obtain ⟨i2, r2, p2, _⟩ := I.tuple (SqT.of hb)
    have l1 := r1.length
    have l2 := r2.length
    have hdd : A.units + (D.depths ds + 1) < cLine := hd
    have q := SeqAt.RcAt.tuples (A := A) (e := fun _ => true) (show s.heap.IsTuple a i1.toArray from p1) (show s.heap.IsTuple b i2.toArray from p2) (by omega) (fun j h1 h2 => by
      rw [List.size_toArray] at h1 h2
      obtain ⟨z1, e1, q1⟩ := vals_items r1 h1
      obtain ⟨z2, e2, q2⟩ := vals_items r2 h2
      have hj : j < ds.length := by omega
      rw [List.getElem_toArray, List.getElem_toArray]
      refine ih j z1 ds[j] e1 (List.getElem?_eq_getElem hj) (hsb j z2 ds[j] e2 (List.getElem?_eq_getElem hj)) q1 q2 ?_
      have := D.depth_mem (List.getElem?_eq_getElem hj)
      rw [units_in1]; omega)
    have hsz : (i1.toArray.size == i2.toArray.size) = true := by rw [List.size_toArray, List.size_toArray]; simp; omega
    rw [all_true, hsz, Bool.true_and] at q
    exact SeqAt.EqAt.of_refs hab q
end
/-- == of two lists or two tuples of the same data -/
def rEqD : R2 := fun x y H Q => ∃ d ds, (d = .lst ds ∨ d = .tup ds) ∧ Rep H x d ∧ Rep H y d ∧ d.depth ≤ 50 ∧ Q (.bl true) H
theorem op_eqD {X : Cx} (hu : X.A.units + 64 < cLine) : OpR X (compareOp .Eq) rEqD := by
  intro pins s σ H x y v u Q I rx ry h
  obtain ⟨d, ds, hd, hx, hy, hdep, q⟩ := h
  rcases hd with hd | hd
  · subst hd
    have hdd : D.depths ds + 1 ≤ 50 := hdep
    cases hx with
    | @lst a vs _ h hl hs =>
    cases hy with
    | @lst b ws _ hb hlb hsb =>
    cases rx; cases ry
    obtain ⟨i1, r1, p1, _⟩ := I.list (SqL.of h)
    obtain ⟨i2, r2, p2, _⟩ := I.list (SqL.of hb)
    have l1 := r1.length
    have l2 := r2.length
    refine SeqAt.eq_listAt (e := fun _ => true) p1.isList p2.isList (by rw [List.size_toArray, List.size_toArray]; omega) (by omega) (fun j h1 h2 => ?_) ⟨.bl true, H, I, by rw [all_true]; rfl, q⟩
    rw [List.size_toArray] at h1 h2
    obtain ⟨z1, e1, q1⟩ := vals_items r1 h1
    obtain ⟨z2, e2, q2⟩ := vals_items r2 h2
    have hj : j < ds.length := by omega
    rw [List.getElem_toArray, List.getElem_toArray]
    refine eqAt_rep I (hs j z1 ds[j] e1 (List.getElem?_eq_getElem hj)) (hsb j z2 ds[j] e2 (List.getElem?_eq_getElem hj)) q1 q2 ?_
    have := D.depth_mem (List.getElem?_eq_getElem hj)
    rw [units_in1]; omega
  · subst hd
    have hdd : D.depths ds + 1 ≤ 50 := hdep
    cases hx with
    | @tup a vs _ h hl hs =>
    cases hy with
    | @tup b ws _ hb hlb hsb =>
    cases rx; cases ry
    obtain ⟨i1, r1, p1, _⟩ := I.tuple (SqT.of h)
    obtain ⟨i2, r2, p2, _⟩ := I.tuple (SqT.of hb)
    have l1 := r1.length
    have l2 := r2.length
    have hsz : (i1.toArray.size == i2.toArray.size) = true := by rw [List.size_toArray, List.size_toArray]; simp; omega
    refine SeqAt.eq_tupleAt (e := fun _ => true) (show s.heap.IsTuple a i1.toArray from p1) (show s.heap.IsTuple b i2.toArray from p2) (by omega) (fun j h1 h2 => ?_) ⟨.bl true, H, I, by rw [all_true, hsz]; rfl, q⟩
    rw [List.size_toArray] at h1 h2
    obtain ⟨z1, e1, q1⟩ := vals_items r1 h1
    obtain ⟨z2, e2, q2⟩ := vals_items r2 h2
    have hj : j < ds.length := by omega
    rw [List.getElem_toArray, List.getElem_toArray]
    refine eqAt_rep I (hs j z1 ds[j] e1 (List.getElem?_eq_getElem hj)) (hsb j z2 ds[j] e2 (List.getElem?_eq_getElem hj)) q1 q2 ?_
    have := D.depth_mem (List.getElem?_eq_getElem hj)
    rw [units_in1]; omega
end L2

set_option Elab.async false
set_option linter.all false
set_option maxRecDepth 100000
set_option maxHeartbeats 4000000
/-! LIST COMPREHENSIONS over the hand layer: [e for x in it], [e for x in it if c]; the element may name the def's variables. -/
namespace L2
open PySem PySem.Spec PyProof.Rows PySem.W

/-! ### the cells that a comprehension is handed -/
def clOf (cells : List (Str × Addr)) : List (Str × NameKind) → List (Str × Addr) → List (Str × Addr)
  | [], acc => acc
  | (n, k) :: r, acc => clOf cells r (if k == .free then (n, (cells.lookup n).getD 0) :: acc else acc)
theorem closure_go {env : Env} : ∀ (names : List (Str × NameKind)) (acc : List (Str × Addr)), (∀ n, (n, NameKind.free) ∈ names → ∃ c, env.cells.lookup n = some c) →
    (forIn (m := Sem) names acc fun x cs => if (x.2 == NameKind.free) = true then do let a ← cellOf env x.1; pure (ForInStep.yield ((x.1, a) :: cs)) else pure (ForInStep.yield cs)) = pure (clOf env.cells names acc)
  | [], acc, _ => rfl
  | (n, k) :: r, acc, h => by
    have ih := fun acc => closure_go r acc fun m hm => h m (List.mem_cons_of_mem _ hm)
    rw [List.forIn_cons]
    unfold clOf
    cases hk : (k == NameKind.free) with
    | true =>
      have e : k = .free := by simpa using hk
      subst e
      obtain ⟨c, hc⟩ := h n (List.Mem.head _)
      have : cellOf env n = pure c := by unfold cellOf; rw [hc]
      simp only [this, hc, hk, if_true, pure_bind, Option.getD_some]
      exact ih _
    | false =>
      simp only [hk, Bool.false_eq_true, if_false, pure_bind]
      exact ih _
theorem closureFor_eq {scope : Scope} {env : Env} (h : ∀ n, (n, NameKind.free) ∈ scope.names → ∃ c, env.cells.lookup n = some c) : closureFor scope env = pure (clOf env.cells scope.names []) := by
  have e := closure_go (env := env) scope.names [] h
  unfold closureFor
  first
    | (rw [show (forIn (m := Sem) scope.names ([] : List (Str × Addr)) fun x r => _) = _ from e]; rfl)
    | (simp only [] at e ⊢; rw [e]; rfl)
    | (erw [e]; rfl)
theorem clOf_sub {cells : List (Str × Addr)} : ∀ (names : List (Str × NameKind)) (acc : List (Str × Addr)) (x : Str) (c : Addr), (∀ n, (n, NameKind.free) ∈ names → ∃ c, cells.lookup n = some c) → (∀ y d, acc.lookup y = some d → cells.lookup y = some d) → (clOf cells names acc).lookup x = some c → cells.lookup x = some c
  | [], acc, x, c, _, ha, h => ha x c h
  | (n, k) :: r, acc, x, c, hn, ha, h => by
    unfold clOf at h
    refine clOf_sub r _ x c (fun m hm => hn m (List.mem_cons_of_mem _ hm)) (fun y d hy => ?_) h
    split at hy
    · rename_i hk
      have e : k = .free := by simpa using hk
      subst e
      obtain ⟨c', hc'⟩ := hn n (List.Mem.head _)
      rw [List.lookup_cons] at hy
      split at hy
      · rename_i hb
        have e' : y = n := by simpa using hb
        subst e'
        rw [hc'] at hy ⊢
        exact hy
      · exact ha y d hy
    · exact ha y d hy
theorem clOf_acc {cells : List (Str × Addr)} : ∀ (names : List (Str × NameKind)) (acc : List (Str × Addr)) (x : Str), (∃ c, acc.lookup x = some c) → ∃ c, (clOf cells names acc).lookup x = some c
  | [], acc, x, h => h
  | (n, k) :: r, acc, x, h => by
    unfold clOf
    refine clOf_acc r _ x ?_
    split
    · obtain ⟨c, hc⟩ := h
      rw [List.lookup_cons]
      split
      · exact ⟨_, rfl⟩
      · exact ⟨c, hc⟩
    · exact h
theorem clOf_has {cells : List (Str × Addr)} : ∀ (names : List (Str × NameKind)) (acc : List (Str × Addr)) (x : Str), (x, NameKind.free) ∈ names → ∃ c, (clOf cells names acc).lookup x = some c
  | [], _, _, h => nomatch h
  | (n, k) :: r, acc, x, h => by
    unfold clOf
    rcases List.mem_cons.mp h with z | z
    · cases z
      refine clOf_acc r _ _ ⟨(cells.lookup n).getD 0, ?_⟩
      rw [if_pos (by decide), List.lookup_cons]
      simp
    · exact clOf_has r _ x z
def rl (env : Env) : Str × NameKind → Str × NameKind := fun (n, k) => if (k == NameKind.free && env.scope.kind == .function && env.kindOf n == some .cell) then (n, NameKind.cell) else (n, k)
theorem rl_pos {env : Env} {n : Str} {k : NameKind} (h : (k == NameKind.free && env.scope.kind == .function && env.kindOf n == some .cell) = true) : rl env (n, k) = (n, NameKind.cell) := if_pos h
theorem rl_neg {env : Env} {n : Str} {k : NameKind} (h : ¬ (k == NameKind.free && env.scope.kind == .function && env.kindOf n == some .cell) = true) : rl env (n, k) = (n, k) := if_neg h
theorem relabel_back {env : Env} : ∀ (names : List (Str × NameKind)) (x : Str), (∀ y ∈ names, y.2 ≠ .cell) →
    ((names.map (rl env)).lookup x = some .cell ∨ (names.map (rl env)).lookup x = some .free) → names.lookup x = some .free
  | [], x, _, h => by rcases h with h | h <;> cases h
  | (n, k) :: r, x, hc, h => by
    have ih := relabel_back (env := env) r x fun y hy => hc y (List.mem_cons_of_mem _ hy)
    have hk : k ≠ .cell := hc (n, k) (List.Mem.head _)
    rw [List.map_cons] at h
    by_cases hb : (k == NameKind.free && env.scope.kind == .function && env.kindOf n == some .cell) = true
    · have e : k = .free := by
        simp only [Bool.and_eq_true, beq_iff_eq] at hb
        exact hb.1.1
      subst e
      rw [rl_pos hb] at h
      simp only [List.lookup_cons] at h ⊢
      cases hx : (x == n) with
      | true => rfl
      | false => simp only [hx] at h; exact ih h
    · rw [rl_neg hb] at h
      simp only [List.lookup_cons] at h ⊢
      cases hx : (x == n) with
      | true =>
        simp only [hx] at h
        rcases h with h | h
        · exact absurd (Option.some.inj h) hk
        · exact h
      | false => simp only [hx] at h; exact ih h
theorem relabel_free {env : Env} : ∀ (names : List (Str × NameKind)) (x : Str), names.lookup x = some .free →
    ((names.map (rl env)).lookup x = some .cell ∨ (names.map (rl env)).lookup x = some .free)
  | [], x, h => nomatch h
  | (n, k) :: r, x, h => by
    have ih := relabel_free (env := env) r x
    rw [List.map_cons]
    by_cases hb : (k == NameKind.free && env.scope.kind == .function && env.kindOf n == some .cell) = true
    · rw [rl_pos hb]
      simp only [List.lookup_cons] at h ⊢
      cases hx : (x == n) with
      | true => exact .inl rfl
      | false => simp only [hx] at h; exact ih h
    · rw [rl_neg hb]
      simp only [List.lookup_cons] at h ⊢
      cases hx : (x == n) with
      | true => simp only [hx] at h; exact .inr h
      | false => simp only [hx] at h; exact ih h

section
variable {prog : Program} {w : World} {A : Around} {R : Result → Shared → Prop} {s : Shared}
theorem codeAny_compLoop_go {elt target iter : Expr} {ifs : List Expr} {scope : Scope} {pos : Pos} {it acc : Value} {env : Env} (I : Nat → Shared → Prop)
    (turn : ∀ n s, I n s → wpAny (model prog w) A (pyNext it) (fun r s₁ => match r with
      | none => R (.ok .next) s₁
      | some v => wpAny (model prog w) A (letOwnedTupleGo target it v) (fun _ s₁' => wpAny (model prog w) A (assign target env v) (fun _ s₂ =>
          wpAny (model prog w) A (forIn ifs true fun c r => if r = true then do let ok ← isTrue c env (eval c env); pure (ForInStep.yield ok) else pure (ForInStep.yield r)) (fun ok s₃ =>
            if ok = true then wpAny (model prog w) A (eval elt env) (fun x s₄ =>
              wpAny (model prog w) A (call (.builtin "list.append") [acc, x]) (fun _ s₅ => ∃ m, m < n ∧ I m s₅) (fun _ _ => False) s₄) (fun _ _ => False) s₃
            else ∃ m, m < n ∧ I m s₃) (fun _ _ => False) s₂) (fun _ _ => False) s₁') (fun _ _ => False) s₁) (fun _ _ => False) s)
    (n : Nat) (h : I n s) :
    codeAny (model prog w) A (.compLoop (.ListComp elt [⟨target, iter, ifs, 0⟩] scope pos) 0 it acc env) R s := by
  refine codeAny_loop rfl I (fun n s hI => ?_) n h
  show wpAny _ A ((compTurn (.ListComp elt [⟨target, iter, ifs, 0⟩] scope pos) 0 it acc env).onRaise (fun x => do noteFrame x env; theTreesLotGoes x)) _ _ s
  refine wpAny_noted ?_
  rw [compTurn_list]
  refine wpAny_bind (wpAny_standAt (wpAny_bind (wpAny_mono (turn n s hI) (fun r s₁ h₁ => ?_) fun _ _ h' => h'.elim)))
  cases r with
  | none => exact wpAny_pure h₁
  | some v =>
    refine wpAny_bind (wpAny_mono h₁ (fun _ s₁' h₁' => ?_) fun _ _ h' => h'.elim)
    refine wpAny_bind (wpAny_mono h₁' (fun _ s₂ h₂ => wpAny_bind (wpAny_mono h₂ (fun ok s₃ h₃ => ?_) fun _ _ h' => h'.elim)) fun _ _ h' => h'.elim)
    cases ok with
    | false => exact wpAny_pure ⟨rfl, h₃⟩
    | true =>
      exact wpAny_bind (wpAny_bind (wpAny_mono h₃ (fun x s₄ h₄ => wpAny_bind (wpAny_mono h₄ (fun _ s₅ h₅ => wpAny_pure (wpAny_pure ⟨rfl, h₅⟩)) fun _ _ h' => h'.elim)) fun _ _ h' => h'.elim))
end

/-- the context of a comprehension's block -/
def compCx (X : Cx) (N : List Str) (scope : Scope) (cl : List (Str × Addr)) (C : Addr) (ex : List Addr) (s₀ : Shared) (H₀ : Hp) : Cx where
  prog := X.prog
  w := X.w
  K := X.K
  mg := X.mg
  base := X.base
  A := X.A
  N := N
  s₀ := s₀
  H₀ := H₀
  env := compEnvC scope cl C X.env
  outer := X.stack
  stack := X.stack
  ex := ex
  fn := fun _ => false
  calm := X.calm
  pn := []
  xe := fun _ _ => False

structure LcScope (X : Cx) (scope : Scope) (x : Str) (fr : List Str) (is : List Nat) : Prop where
  kind : scope.kind = .function
  nocell : ∀ y ∈ scope.names, y.2 ≠ .cell
  names : ∀ y ∈ scope.names, y.2 = .local → scope.names.lookup y.1 = some .local
  xl : scope.names.lookup x = some .local
  nd : (x :: fr).Nodup
  frees : ∀ y ∈ scope.names, y.2 = .free → X.env.kindOf y.1 = some .cell
  src : is.map (fun i => X.N[i]?) = fr.map some
  vis : ∀ n ∈ fr, scope.names.lookup n = some .free
/-- the tests of a comprehension -/
def PF (Y : Cx) (ifs : List Expr) (tc : TT) : Prop :=
  ∀ (pins : List (Addr × Obj)) (s : Shared) (σ : St) (H : Hp) (Q : Bool → Hp → Prop), Inv Y pins σ H s → tc σ H Q →
    wpAny (model Y.prog Y.w) Y.A (forIn ifs true fun c r => if r = true then do let ok ← isTrue c Y.env (eval c Y.env); pure (ForInStep.yield ok) else pure (ForInStep.yield r)) (TP Y pins σ Q) Y.xe s
def tNoTest : TT := fun _ H Q => Q true H
theorem pf_nil {Y : Cx} : PF Y [] tNoTest := fun _ _ _ H _ I h => wpAny_tests_nil ⟨H, I, h⟩
theorem pf_one {Y : Cx} {c : Expr} {tc : TT} (h : PT Y c tc) : PF Y [c] tc := fun pins s σ H Q I q => wpAny_tests_one (h pins s σ H Q I q)

/-- a comprehension's walk: D the list that is made -/
def Lc (J : It) (tc : TT) (te : TE) (D : Addr) (Qd : Hp → Prop) (σ0 : St) (H0 : Hp) : Prop :=
  ∃ W : Nat → Nat → St → Hp → Prop, (∃ m, W 0 m σ0 H0) ∧ ∀ i m σ H, W i m σ H →
    (J.stop i H ∧ Qd H) ∨ (J.go i H ∧ ∃ N : St → Hp → Prop, (∀ σ' H', N σ' H' → ∃ m', m' < m ∧ W (i + 1) m' σ' H') ∧
      ∀ x H1, J.yld i H x H1 → tc (σ.set 0 (some x)) H1 fun b H2 => if b = true then te (σ.set 0 (some x)) H2 fun v H3 => ∃ ys, H3 D = some (.lst ys) ∧ ys.length < sizeLine ∧ N (σ.set 0 (some x)) (upd H3 D (.lst (ys ++ [v]))) else N (σ.set 0 (some x)) H2)
def lcSt (is : List Nat) (σ : St) : St := none :: is.map fun i => (σ[i]?).join

theorem lc_core {X : Cx} {scope : Scope} {x : Str} {fr : List Str} {is : List Nat} {px pos : Pos} {elt iter : Expr} {ifs : List Expr} {tc : TT} {te : TE} (S : LcScope X scope x fr is) (hc : X.calm = true)
    (helt : ∀ cl C ex s₀ H₀, PE (compCx X (x :: fr) scope cl C ex s₀ H₀) elt te) (hifs : ∀ cl C ex s₀ H₀, PF (compCx X (x :: fr) scope cl C ex s₀ H₀) ifs tc)
    {pins : List (Addr × Obj)} {σ : St} {H : Hp} {s : Shared} {it : Addr} {fp : List Addr} {tn : Nat → Heap → Prop} {J : It}
    (I : Inv X pins σ H s) (T : Turn X.prog X.w X.K (.Name x px) J fp it tn) (st : tn 0 s.heap) (f : ∀ b ∈ fp, FpOk X pins H b)
    {Qd : Addr → Hp → Prop} (q : ∀ D, H D = none → Lc J tc te D (Qd D) (lcSt is σ) (upd H D (.lst []))) {RR : Value → Addr → Result → Shared → Prop}
    (fin : ∀ D C s' H', Inv X pins σ H' s' → (∃ m, s'.heap.Ns C m) → FpOk X pins H' C → Qd D H' → RR (.ref D) C (.ok .next) s') {E : Value → Shared → Prop} :
    wpAny (model X.prog X.w) X.A (newList []) (fun acc s₃ => wpAny (model X.prog X.w) X.A (newFunctionEnv scope X.env.globals (clOf X.env.cells scope.names []) [] X.env.qual none .none (some X.env)) (fun cenv s₄ =>
      codeAny (model X.prog X.w) X.A (.compStart (.ListComp elt [⟨.Name x px, iter, ifs, 0⟩] scope pos) 0 (.ref it) acc { cenv with scope := relabel scope X.env }) (RR acc cenv.locals) s₄) E s₃) E s := by
  refine wpAny_newObj_type (wpAny_newFunctionEnv S.nocell (by intro y hy; simp at hy) (fun h₁ hns₁ hsb₁ => ?_) S.kind)
  dsimp only at hns₁ hsb₁ ⊢
  have nD : H s.heap.objs.size = none := I.hok.fresh (Nat.le_refl _)
  generalize hp3 : s.heap.push { cls := .type "list", dict := none, data := .seq ([] : List Value).toArray } = hh at hns₁ hsb₁ ⊢
  have I3 : Inv X pins σ (upd H s.heap.objs.size (.lst [])) { s with heap := hh } := by
    rw [← hp3]
    exact I.laid (t' := s.toks) (fun b u e => Heap.get?_push_of_some _ e) (Nat.le_refl _) ⟨Nat.zero_le _, [], 0, .nil, Heap.get?_push_size _ rfl⟩
  have k3 : ∀ b u, s.heap.get? b = some u → hh.get? b = some u := fun b u e => by rw [← hp3]; exact Heap.get?_push_of_some _ e
  have hW := q s.heap.objs.size nD
  generalize hDD : s.heap.objs.size = D at *
  generalize hHH : upd H D (.lst []) = H3 at *
  have hcells : ∀ n, (n, NameKind.free) ∈ scope.names → ∃ c, X.env.cells.lookup n = some c := fun n hn => I.ok.has n (.inl (S.frees (n, .free) hn rfl))
  have hcl : ∀ y c, (clOf X.env.cells scope.names []).lookup y = some c → X.env.cells.lookup y = some c := fun y c h => clOf_sub scope.names [] y c hcells (fun _ _ z => by cases z) h
  have f3 : ∀ b ∈ fp, FpOk X pins H3 b := fun b hb => by
    refine ⟨?_, (f b hb).2⟩
    obtain ⟨o, ho, _⟩ := T.obj 0 _ st b hb
    have : b ≠ D := by rw [← hDD]; exact Nat.ne_of_lt (Heap.lt_size ho)
    rw [← hHH, upd_ne this]; exact (f b hb).1
  have st3 : tn 0 hh := T.keep _ _ _ st fun b _ o e => k3 b o e
  have fC : ∀ {H' : Hp}, H' hh.objs.size = none → FpOk X pins H' hh.objs.size := fun hn => I3.fpOk (Nat.le_refl _) hn
  have k4 : ∀ b u, hh.get? b = some u → h₁.get? b = some u := fun b u e => hsb₁.extBut b u (Nat.ne_of_lt (Heap.lt_size e)) (Heap.get?_push_of_some _ e)
  -- the block's own context
  let YY : Cx := compCx X (x :: fr) scope (clOf X.env.cells scope.names []) hh.objs.size fp { s with heap := hh } H3
  have YOk : (YY).Ok := by
    refine ⟨I.ok.mod, S.kind, I.ok.glob, I.ok.blt, Nat.le_refl _, fun y z c h1 h2 => I.ok.inj y z c (hcl y c h1) (hcl z c h2), fun y hy => ?_, fun y c hf => absurd hf Bool.false_ne_true, I.ok.hd, I.ok.frames, .inl rfl, fun b hb => ⟨?_, fun y c e => (f3 b hb).2.2.2.2.1 y c (hcl y c e)⟩, fun b o e => I3.bs b o e, ?_, fun b o e hb => ?_, fun b hb hz => ?_, I3.stack, I3.stkFree⟩
    · exact clOf_has scope.names [] y (PySem.mem_of_lookup (relabel_back scope.names y S.nocell hy))
    · obtain ⟨o, ho, _⟩ := T.obj 0 _ st3 b hb
      exact Nat.ne_of_lt (Heap.lt_size ho)
    · exact Nat.le_trans I.ok.bsz I3.sz
    · rcases (f3 b hb).2.2.2.1 with z | z
      · exact I.ok.noex b o e z
      · exact absurd (Nat.lt_of_lt_of_le (Heap.lt_size (I.ok.bs b o e).1) z) (Nat.lt_irrefl _)
    · rcases List.mem_cons.mp (I3.stkSub b hz) with y | y
      · exact (f3 b hb).2.1 y
      · exact (f3 b hb).2.2.1 y
  have I4 : Inv (YY) [] (lcSt is σ) H3 { s with heap := h₁, toks := s.toks + ([] : List (Str × Value)).length } := by
    refine ⟨YOk, rfl, I3.bare, Un.kept k4, ⟨_, hns₁, fun i y v e1 e2 e3 => ?_⟩, fun y c e => ?_, I3.hok.fresh (Nat.le_refl _), fun y c e => I3.freeC y c (hcl y c e), fun p hp => absurd (show p ∈ ([] : List (Addr × Obj)) from hp) (by simp), I3.hok.kept k4, ?_⟩
    · cases i with
      | zero => cases e2
      | succ j =>
        have e1' : fr[j]? = some y := e1
        have e2' : (is.map fun i => (σ[i]?).join)[j]? = some (some v) := e2
        rw [List.getElem?_map] at e2'
        cases hj : is[j]? with
        | none => rw [hj] at e2'; cases e2'
        | some k =>
          rw [hj] at e2'
          have e4 : (σ[k]?).join = some v := Option.some.inj e2'
          have e5 : σ[k]? = some (some v) := by
            cases hk : σ[k]? with
            | none => rw [hk] at e4; cases e4
            | some o => rw [hk] at e4; exact congrArg some e4
          have e6 : X.N[k]? = some y := by
            have z := congrArg (fun l => l[j]?) S.src
            simp only [List.getElem?_map, hj, e1', Option.map_some] at z
            exact Option.some.inj z
          have hyf : y ∈ fr := List.mem_of_getElem? e1'
          have hfr := S.vis y hyf
          have hkc := S.frees (y, .free) (PySem.mem_of_lookup hfr) rfl
          obtain ⟨m, hn, hl⟩ := I3.loc
          obtain ⟨u, r, l⟩ := hl k y v e6 e5 (.inr (.inl hkc))
          refine ⟨u, r, .inr ?_⟩
          rcases l with ⟨z, _⟩ | ⟨_, c, hc', hcell⟩
          · rw [hkc] at z; cases z
          · obtain ⟨c2, hc2⟩ := clOf_has (cells := X.env.cells) scope.names [] y (PySem.mem_of_lookup hfr)
            have e7 := hcl y c2 hc2
            rw [hc'] at e7; cases e7
            exact ⟨relabel_free scope.names y hfr, c, hc2, hcell.keeps k4⟩
    · obtain ⟨v, hv⟩ := I3.cell y c (hcl y c e)
      exact ⟨v, hv.keeps k4⟩
    · show (lcSt is σ).length = (x :: fr).length
      have z := congrArg List.length S.src
      rw [List.length_map, List.length_map] at z
      show (is.map _).length + 1 = fr.length + 1
      rw [List.length_map, z]
  have st4 : tn 0 h₁ := T.keep _ _ _ st3 fun b _ o e => k4 b o e
  obtain ⟨W, ⟨m0, w0⟩, turn⟩ := hW
  have statY : ∀ {H' : Hp}, (∀ b ∈ fp, H' b = none) → ∀ b ∈ fp, FpOk (YY) [] H' b := fun hn b hb =>
    ⟨hn b hb, (YOk.exf b hb).1, YOk.exfs b hb, .inl hb, (YOk.exf b hb).2, fun p hp => absurd (show p ∈ ([] : List (Addr × Obj)) from hp) (by simp)⟩
  have loop : ∀ s₄ : Shared, s₄ = { s with heap := h₁, toks := s.toks + ([] : List (Str × Value)).length } →
      codeAny (model X.prog X.w) X.A (.compLoop (.ListComp elt [⟨.Name x px, iter, ifs, 0⟩] scope pos) 0 (.ref it) (.ref D) (compEnvC scope (clOf X.env.cells scope.names []) hh.objs.size X.env)) (RR (.ref D) hh.objs.size) s₄ := by
    rintro s₄ rfl
    refine codeAny_compLoop_go (fun n s' => ∃ i σ' H', Inv (YY) [] σ' H' s' ∧ tn i s'.heap ∧ (∀ b ∈ fp, H' b = none) ∧ W i n σ' H') ?_ m0 ⟨0, _, _, I4, st4, fun b hb => (f3 b hb).1, w0⟩
    rintro n s5 ⟨i, σ5, H5, I5, st5, fr5, w5⟩
    rcases turn i n σ5 H5 w5 with ⟨stop, qn⟩ | ⟨go, N, hN, step⟩
    · refine thn (T.done (YY) rfl rfl rfl hc i [] s5 σ5 H5 (fun _ _ => False) I5 (statY fr5) st5 stop) fun r s6 ⟨hr, I6⟩ => ?_
      subst hr
      obtain ⟨m6, hn6, _⟩ := I6.loc
      refine fin D hh.objs.size s6 H5 (I3.call' I6.os I6.base I6.hok I6.bare fun b hb => ⟨(f3 b hb).2.2.2.1, (f3 b hb).2.1, (f3 b hb).2.2.2.2.1, (f3 b hb).2.2.2.2.2⟩) ⟨m6, hn6⟩ (fC I6.free) qn
    · refine thn (T.item (YY) rfl rfl rfl hc i [] s5 σ5 H5 (fun _ _ => False) I5 (statY fr5) st5 go) fun r s6 ⟨u, hr, h6⟩ => ?_
      subst hr
      refine thn h6 fun _ s7 ⟨v, H7, I7, r7, y7, st7, fr7⟩ => ?_
      have I7' := I7.pinned (statY fr7) (T.obj _ _ st7)
      refine thn (pg_name (X := YY) (i := 0) (x := x) (pos := px) S.nd rfl (.inl (lookup_relabel_local S.xl)) (.inr (lookup_relabel_local S.xl)) _ s7 σ5 H7 v u (fun σ' H' => σ' = σ5.set 0 (some v) ∧ tc σ' H' fun b H2 => if b = true then te σ' H2 fun v H3 => ∃ ys, H3 D = some (.lst ys) ∧ ys.length < sizeLine ∧ N σ' (upd H3 D (.lst (ys ++ [v]))) else N σ' H2) I7' r7 ⟨rfl, step v H7 y7⟩) fun _ s8 ⟨σ8, H8, I8, e8, q8⟩ => ?_
      refine thn (hifs _ _ _ _ _ _ s8 σ8 H8 _ I8 q8) fun ok s9 ⟨H9, I9, q9⟩ => ?_
      have again : ∀ {σ' : St} {H' : Hp} {s' : Shared}, Inv (YY) ([] ++ pinsAt fp s7.heap) σ' H' s' → N σ' H' → ∃ m, m < n ∧ ∃ i σ' H', Inv (YY) [] σ' H' s' ∧ tn i s'.heap ∧ (∀ b ∈ fp, H' b = none) ∧ W i m σ' H' := fun {σ' H' s'} I' n' => by
        obtain ⟨m', hm, w'⟩ := hN σ' H' n'
        refine ⟨m', hm, i + 1, σ', H', I'.unpinned, T.keep _ _ _ st7 fun b hb o e => (I'.pin (b, o) (List.mem_append_right _ (List.mem_append_right _ (mem_pinsAt hb e)))).1, fun b hb => ?_, w'⟩
        obtain ⟨o, e, d⟩ := T.obj _ _ st7 b hb
        exact (I'.pin (b, o) (List.mem_append_right _ (List.mem_append_right _ (mem_pinsAt hb e)))).2.1
      cases ok with
      | false =>
        rw [if_neg Bool.false_ne_true] at q9 ⊢
        exact again I9 q9
      | true =>
        rw [if_pos rfl] at q9 ⊢
        refine thn (helt _ _ _ _ _ _ s9 σ8 H9 _ I9 q9) fun z s10 ⟨y, H10, I10, r10, ys, hys, hlen, n10⟩ => ?_
        refine thn (mt_append (X := YY) _ s10 σ8 H10 (.ref D) [y] (.ref D) [z] (fun _ H' => N σ8 H') I10 rfl (.cons r10 .nil) ⟨D, ys, y, rfl, rfl, hys, hlen, n10⟩) fun _ s11 ⟨_, H11, I11, _, q11⟩ => ?_
        exact again I11 q11
  exact codeAny_compStart_list (loop _ rfl) (T.self _ 0 _ _ _ st4 (loop _ rfl))

section
variable {X : Cx} {scope : Scope} {x : Str} {fr : List Str} {is : List Nat} {px pos : Pos} {elt iter : Expr} {ifs : List Expr} {tc : TT} {te : TE} {wi : TI}
def tLc (wi : TI) (is : List Nat) (tc : TT) (te : TE) : TE := fun σ H Q => wi σ H fun J H1 => ∀ D, H1 D = none → Lc J tc te D (fun H' => Q (.ref D) H') (lcSt is σ) (upd H1 D (.lst []))
theorem pe_lc (fr : List Str) (is : List Nat) (S : LcScope X scope x fr is) (hc : X.calm = true) (hi : PI X (.Name x px) iter wi) (hifs : ∀ cl C ex s₀ H₀, PF (compCx X (x :: fr) scope cl C ex s₀ H₀) ifs tc) (helt : ∀ cl C ex s₀ H₀, PE (compCx X (x :: fr) scope cl C ex s₀ H₀) elt te)
    (hs : ∀ x, foldedSetIterable iter X.env x = pure x := by intro _; rfl) : PE X (.ListComp elt [⟨.Name x px, iter, ifs, 0⟩] scope pos) (tLc wi is tc te) := by
  intro pins s σ H Q I h
  have hcells : ∀ n, (n, NameKind.free) ∈ scope.names → ∃ c, X.env.cells.lookup n = some c := fun n hn => I.ok.has n (.inl (S.frees (n, .free) hn rfl))
  rw [eval_ListComp]
  refine wpAny_comprehension_free (use := none) rfl hs (closureFor_eq hcells) S.kind S.names (thn (hi pins s σ H _ I h) fun v s1 h1 => thn h1 fun itv s2 h2 => ?_)
  obtain ⟨it, fp, tn, J, H2, e, I2, T, st2, f2, q⟩ := h2
  subst e
  refine lc_core (RR := fun acc C => compPost (model X.prog X.w) X.A X.xe none (EP X pins σ Q) acc C) S hc helt hifs I2 T st2 f2 (Qd := fun D H' => Q (.ref D) H') q fun D C s' H' I' hn fc q' => ?_
  obtain ⟨m, hn⟩ := hn
  exact ⟨m, hn, fun h' sb => ⟨.ref D, H', I'.turned (t' := s'.toks) (fun b o hb e => (sb.2 b hb).trans e) fc.1 fc.2.1 fc.2.2.2.1 fc.2.2.2.2.1 fc.2.2.2.2.2, rfl, q'⟩⟩
/-- y = [..], y a plain local of the def -/
def tSetLc (i : Nat) (wi : TI) (is : List Nat) (tc : TT) (te : TE) : TS := fun D σ H => tLc wi is tc te σ H fun v H' => D.nx (σ.set i (some v)) H'
theorem ps_setLc {i : Nat} {y : Str} {py spos : Pos} (fr : List Str) (is : List Nat) (S : LcScope X scope x fr is) (hc : X.calm = true) (hN : X.N.Nodup) (hiy : X.N[i]? = some y) (hy : X.env.scope.names.lookup y = some .local) (hi : PI X (.Name x px) iter wi)
    (hifs : ∀ cl C ex s₀ H₀, PF (compCx X (x :: fr) scope cl C ex s₀ H₀) ifs tc) (helt : ∀ cl C ex s₀ H₀, PE (compCx X (x :: fr) scope cl C ex s₀ H₀) elt te)
    (hsw : swapsWith (.ListComp elt [⟨.Name x px, iter, ifs, 0⟩] scope pos) (some (.Name y py)) spos.line X.env = pure true := by rfl)
    (hs : ∀ x, foldedSetIterable iter X.env x = pure x := by intro _; rfl) : PS X (.Assign [.Name y py] (.ListComp elt [⟨.Name x px, iter, ifs, 0⟩] scope pos) spos) (tSetLc i wi is tc te) := by
  intro pins s σ H D0 I h
  have hcells : ∀ n, (n, NameKind.free) ∈ scope.names → ∃ c, X.env.cells.lookup n = some c := fun n hn => I.ok.has n (.inl (S.frees (n, .free) hn rfl))
  rw [exec_Assign_Name_used _ _ _ _ hsw]
  refine wpAny_bind (wpAny_standAt (wpAny_bind ?_))
  show wpAny _ X.A (do let _ ← comprehension (.ListComp elt [⟨.Name x px, iter, ifs, 0⟩] scope pos) scope X.env _ (newList []) false (eval iter X.env) (some (assign (.Name y py) X.env))) _ _ s
  refine wpAny_bind (wpAny_mono (wpAny_comprehension_free (use := some (assign (.Name y py) X.env)) (Q := fun _ s' => SP X pins D0 .next s') rfl hs (closureFor_eq hcells) S.kind S.names
    (thn (hi pins s σ H _ I h) fun v s1 h1 => thn h1 fun itv s2 h2 => ?_)) (fun _ s' hq => wpAny_pure (wpAny_pure hq)) fun _ _ e => e)
  obtain ⟨it, fp, tn, J, H2, e, I2, T, st2, f2, q⟩ := h2
  subst e
  refine lc_core (RR := fun acc C => compPost (model X.prog X.w) X.A X.xe (some (assign (.Name y py) X.env)) (fun _ s' => SP X pins D0 .next s') acc C) S hc helt hifs I2 T st2 f2 (Qd := fun D H' => D0.nx (σ.set i (some (.ref D))) H') q fun D C s' H' I' hn fc q' => ?_
  obtain ⟨m, hn⟩ := hn
  show wpAny _ X.A (assign (.Name y py) X.env (.ref D)) _ _ _
  refine wpAny_assign_Name (store_ok2 I' hN hiy (.inl hy) (v := .ref D) rfl (fun s'' I'' hsb => ?_) (.inr hy))
  obtain ⟨a, sb, ha⟩ := hsb
  have hCa : C ≠ a := by
    rcases ha with z | z
    · rw [z]; exact fc.2.1
    · exact fun e => fc.2.2.2.2.1 y a z e.symm
  exact ⟨m, hn.sameBut sb hCa, fun h' sb' => ⟨_, H', I''.turned (t' := s''.toks) (fun b o hb e => (sb'.2 b hb).trans e) fc.1 fc.2.1 fc.2.2.2.1 fc.2.2.2.2.1 fc.2.2.2.2.2, q'⟩⟩

/-- over a list that is left as it is -/
theorem lc_list {K : PySem.W.Frag} {a : Addr} {xs : List V} {D : Addr} {Qd : Hp → Prop} {σ : St} {H : Hp} (Pv : Nat → St → Hp → Prop) (h0 : Pv 0 σ H) (hl : ∀ i σ H, i ≤ xs.length → Pv i σ H → SqL K H a xs)
    (hs : ∀ i x σ H, xs[i]? = some x → Pv i σ H → tc (σ.set 0 (some x)) H fun b H2 => if b = true then te (σ.set 0 (some x)) H2 fun v H3 => ∃ ys, H3 D = some (.lst ys) ∧ ys.length < sizeLine ∧ Pv (i + 1) (σ.set 0 (some x)) (upd H3 D (.lst (ys ++ [v]))) else Pv (i + 1) (σ.set 0 (some x)) H2)
    (hd : ∀ σ H, Pv xs.length σ H → Qd H) : Lc (Itl K a) tc te D Qd σ H := by
  refine ⟨fun i m σ H => m = xs.length - i ∧ i ≤ xs.length ∧ Pv i σ H, ⟨xs.length, by simp, Nat.zero_le _, h0⟩, ?_⟩
  rintro i m σ H ⟨rfl, hi, p⟩
  have q := hl i σ H hi p
  by_cases hlt : i < xs.length
  · refine .inr ⟨⟨xs, xs[i], q, by simp [hlt]⟩, Pv (i + 1), fun σ' H' p' => ⟨xs.length - (i + 1), by omega, rfl, hlt, p'⟩, fun x H' y => ?_⟩
    obtain ⟨e, y⟩ := y
    subst e
    exact hs i x σ _ (y xs q) p
  · have e : i = xs.length := by omega
    subst e
    exact .inl ⟨⟨xs, q, Nat.le_refl _⟩, hd σ H p⟩
end
/-! ### within a comprehension: the fragment by its own name -/
theorem frees_of {X : Cx} {names : List (Str × NameKind)} {sc : Scope} (e : X.env.scope = sc) (h : (names.all fun y => !(y.2 == NameKind.free) || sc.names.lookup y.1 == some NameKind.cell) = true) : ∀ y ∈ names, y.2 = .free → X.env.kindOf y.1 = some .cell := fun y hy hf => by
  have q := List.all_eq_true.mp h y hy
  rw [hf] at q
  have q' : (sc.names.lookup y.1 == some NameKind.cell) = true := by simpa using q
  show X.env.scope.names.lookup y.1 = _
  rw [e]
  exact beq_iff_eq.mp q'
section
variable {X : Cx}
theorem ix_tupK (K : Frag) (h : X.K = K) : IxR X (rIxT K) := by subst h; exact ix_tup
end
end L2

/-! The mathematics of escapes and check numbers, over plain lists of ints. -/
namespace BB
def escOf (n : Int) : List Int := if n = 125 then [125, 1] else if n = 126 then [125, 2] else [n]
def esc : List Int → List Int
  | [] => []
  | n :: r => escOf n ++ esc r
theorem esc_append : ∀ xs ys : List Int, esc (xs ++ ys) = esc xs ++ esc ys
  | [], _ => rfl
  | x :: r, ys => by
    show escOf x ++ esc (r ++ ys) = (escOf x ++ esc r) ++ esc ys
    rw [esc_append r ys, List.append_assoc]
theorem esc_one (n : Int) : esc [n] = escOf n := by
  show escOf n ++ [] = escOf n
  rw [List.append_nil]
theorem escOf_len (n : Int) : (escOf n).length ≤ 2 := by
  unfold escOf
  split
  · exact Nat.le_refl _
  · split
    · exact Nat.le_refl _
    · exact Nat.le_succ _
theorem esc_len : ∀ xs : List Int, (esc xs).length ≤ 2 * xs.length
  | [] => Nat.le_refl _
  | x :: r => by
    show (escOf x ++ esc r).length ≤ 2 * (r.length + 1)
    rw [List.length_append]
    have h1 := escOf_len x
    have h2 := esc_len r
    omega
/-- the law's own way to tell an escape -/
theorem escOf_law {n : Int} (h : n = 125 ∨ n = 126) : escOf n = [125, n - 124] := by
  unfold escOf
  rcases h with h | h
  · subst h; rfl
  · subst h; rfl
theorem escOf_else {n : Int} (h1 : n ≠ 125) (h2 : n ≠ 126) : escOf n = [n] := by
  unfold escOf
  rw [if_neg h1, if_neg h2]
/-- one item more -/
theorem take_succ {α : Type} {xs : List α} {i : Nat} {x : α} (h : xs[i]? = some x) : xs.take (i + 1) = xs.take i ++ [x] := by
  rw [List.take_add_one, h]; rfl
theorem esc_step {ns : List Int} {i : Nat} {n : Int} (h : ns[i]? = some n) : esc (ns.take (i + 1)) = esc (ns.take i) ++ escOf n := by
  rw [take_succ h, esc_append, esc_one]

def sum : List Int → Int
  | [] => 0
  | n :: r => n + sum r
/-- the sum of the sums on the way -/
def two : List Int → Int
  | [] => 0
  | n :: r => ((r.length : Int) + 1) * n + two r
theorem sum_snoc : ∀ (xs : List Int) (n : Int), sum (xs ++ [n]) = sum xs + n
  | [], n => by show n + 0 = 0 + n; omega
  | x :: r, n => by
    show x + sum (r ++ [n]) = x + sum r + n
    rw [sum_snoc r n]; omega
theorem two_snoc : ∀ (xs : List Int) (n : Int), two (xs ++ [n]) = two xs + sum xs + n
  | [], n => by show ((0 : Nat) + 1 : Int) * n + 0 = 0 + 0 + n; omega
  | x :: r, n => by
    show (((r ++ [n]).length : Int) + 1) * x + two (r ++ [n]) = ((r.length : Int) + 1) * x + two r + (x + sum r) + n
    rw [two_snoc r n, List.length_append, List.length_singleton]
    have e : (((r.length + 1 : Nat) : Int) + 1) * x = ((r.length : Int) + 1) * x + x := by
      rw [Int.natCast_add, Int.add_mul ((r.length : Int) + ((1 : Nat) : Int))]
      show ((r.length : Int) + 1) * x + 1 * x = _
      omega
    rw [e]; omega
theorem sum_step {ns : List Int} {i : Nat} {n : Int} (h : ns[i]? = some n) : sum (ns.take (i + 1)) = sum (ns.take i) + n := by rw [take_succ h, sum_snoc]
theorem two_step {ns : List Int} {i : Nat} {n : Int} (h : ns[i]? = some n) : two (ns.take (i + 1)) = two (ns.take i) + sum (ns.take (i + 1)) := by
  rw [take_succ h, two_snoc, sum_snoc]; omega
/-- the law's loop: what has come and what is to come -/
theorem drop_step {ns : List Int} {i : Nat} {n : Int} (h : ns[i]? = some n) : ns.drop i = n :: ns.drop (i + 1) := by
  obtain ⟨hi, e⟩ := List.getElem?_eq_some_iff.mp h
  rw [← e]; exact List.drop_eq_getElem_cons hi
theorem law_sum {ns : List Int} {i : Nat} {n one : Int} (h : ns[i]? = some n) (e : one + sum (ns.drop i) = sum ns) : one + n + sum (ns.drop (i + 1)) = sum ns := by
  rw [drop_step h] at e
  have e' : one + (n + sum (ns.drop (i + 1))) = sum ns := e
  omega
theorem law_two {ns : List Int} {i : Nat} {n t : Int} (h : ns[i]? = some n) (e : t + two (ns.drop i) = two ns) : t + ((ns.length : Int) - (i : Int)) * n + two (ns.drop (i + 1)) = two ns := by
  have hi := (List.getElem?_eq_some_iff.mp h).1
  rw [drop_step h] at e
  have e' : t + ((((ns.drop (i + 1)).length : Int) + 1) * n + two (ns.drop (i + 1))) = two ns := e
  have el : (((ns.drop (i + 1)).length : Int) + 1) = (ns.length : Int) - (i : Int) := by
    rw [List.length_drop]; omega
  rw [el] at e'
  omega
/-- numbers that a belt has -/
def okN (n : Int) : Bool := decide (0 ≤ n) && decide (n ≤ 255)
def good (ns : List Int) : Bool := ns.all okN
theorem good_step {ns : List Int} {i : Nat} {n : Int} (h : ns[i]? = some n) : good (ns.take (i + 1)) = (good (ns.take i) && okN n) := by
  unfold good
  rw [take_succ h, List.all_append]
  show (_ && (okN n && true)) = _
  rw [Bool.and_true]
theorem good_all {ns : List Int} {i : Nat} {n : Int} (h : ns[i]? = some n) (b : okN n = false) : good ns = false := by
  unfold good
  rw [Bool.eq_false_iff]
  intro q
  have := List.all_eq_true.mp q n (List.mem_of_getElem? h)
  rw [b] at this; cases this
end BB

set_option linter.all false
/-! Reading a belt number by number, and the law's reading from one 126 to the next: plain lists. -/
namespace BB
inductive Ev where
  | box (label : Int) (ns : List Int) (start place : Int)
  | cut (p : Int) | stray (p : Int) | escape (p : Int) | great (p : Int) | check (p : Int) | fin (p : Int)

/-- what a belt is like behind some numbers: at rest; passing over; within a box (what has come of it, behind an escape or not, the place of its 126) -/
inductive Sm where
  | rest | skip | opn (raw : List Int) (esc : Bool) (start : Int)

def chk (xs : List Int) : List Int := [sum xs % 256, two xs % 256]
def lenOf (raw : List Int) : Int := 256 * raw.getD 0 0 + raw.getD 1 0
/-- a number more within a box -/
def more (most : Int) (raw : List Int) (start place : Int) : Sm × List Ev :=
  if 1 < raw.length ∧ most < lenOf raw then (.skip, [.great place])
  else if 1 < raw.length ∧ (raw.length : Int) = lenOf raw + 5 then
    (.rest, if raw.drop (raw.length - 2) = chk (raw.take (raw.length - 2)) then [.box (raw.getD 2 0) ((raw.take (raw.length - 2)).drop 3) start place] else [.check place])
  else (.opn raw false start, [])
/-- any number but 126 -/
def stepL (most : Int) (st : Sm) (place n : Int) : Sm × List Ev := match st with
  | .rest => (.skip, [.stray place])
  | .skip => (.skip, [])
  | .opn raw false start => if n = 125 then (.opn raw true start, []) else more most (raw ++ [n]) start place
  | .opn raw true start => if n = 1 ∨ n = 2 then more most (raw ++ [124 + n]) start place else (.skip, [.escape place])
def isOpn : Sm → Bool
  | .opn _ _ _ => true
  | _ => false
def step (most : Int) (st : Sm) (place n : Int) : Sm × List Ev :=
  if n = 126 then (.opn [] false place, if isOpn st then [.cut place] else []) else stepL most st place n
def run (most : Int) : Sm → Int → List Int → Sm × List Ev
  | st, _, [] => (st, [])
  | st, p, n :: r => ((run most (step most st p n).1 (p + 1) r).1, (step most st p n).2 ++ (run most (step most st p n).1 (p + 1) r).2)
def runL (most : Int) : Sm → Int → List Int → Sm × List Ev
  | st, _, [] => (st, [])
  | st, p, n :: r => ((runL most (stepL most st p n).1 (p + 1) r).1, (stepL most st p n).2 ++ (runL most (stepL most st p n).1 (p + 1) r).2)
def endOf (st : Sm) (p : Int) : List Ev := if isOpn st then [.fin p] else []
def cutOf (st : Sm) (p : Int) : List Ev := if isOpn st then [.cut p] else []
/-- all that is told of a belt -/
def told (most : Int) (ns : List Int) : List Ev := (run most .rest 0 ns).2 ++ endOf (run most .rest 0 ns).1 (ns.length : Int)

theorem run_append (most : Int) : ∀ (xs ys : List Int) (st : Sm) (p : Int), run most st p (xs ++ ys) = ((run most (run most st p xs).1 (p + xs.length) ys).1, (run most st p xs).2 ++ (run most (run most st p xs).1 (p + xs.length) ys).2)
  | [], ys, st, p => by
    show run most st p ys = ((run most st (p + ((0 : Nat) : Int)) ys).1, [] ++ (run most st (p + ((0 : Nat) : Int)) ys).2)
    have e : p + ((0 : Nat) : Int) = p := by omega
    rw [e, List.nil_append]
  | x :: r, ys, st, p => by
    have ih := run_append most r ys (step most st p x).1 (p + 1)
    have e : p + 1 + (r.length : Int) = p + (((x :: r).length : Nat) : Int) := by rw [List.length_cons]; omega
    rw [e] at ih
    show ((run most (step most st p x).1 (p + 1) (r ++ ys)).1, (step most st p x).2 ++ (run most (step most st p x).1 (p + 1) (r ++ ys)).2) = _
    rw [ih]
    show _ = ((run most (run most (step most st p x).1 (p + 1) r).1 (p + (((x :: r).length : Nat) : Int)) ys).1, ((step most st p x).2 ++ (run most (step most st p x).1 (p + 1) r).2) ++ _)
    rw [List.append_assoc]
    rfl
theorem runL_append (most : Int) : ∀ (xs ys : List Int) (st : Sm) (p : Int), runL most st p (xs ++ ys) = ((runL most (runL most st p xs).1 (p + xs.length) ys).1, (runL most st p xs).2 ++ (runL most (runL most st p xs).1 (p + xs.length) ys).2)
  | [], ys, st, p => by
    show runL most st p ys = ((runL most st (p + ((0 : Nat) : Int)) ys).1, [] ++ (runL most st (p + ((0 : Nat) : Int)) ys).2)
    have e : p + ((0 : Nat) : Int) = p := by omega
    rw [e, List.nil_append]
  | x :: r, ys, st, p => by
    have ih := runL_append most r ys (stepL most st p x).1 (p + 1)
    have e : p + 1 + (r.length : Int) = p + (((x :: r).length : Nat) : Int) := by rw [List.length_cons]; omega
    rw [e] at ih
    show ((runL most (stepL most st p x).1 (p + 1) (r ++ ys)).1, (stepL most st p x).2 ++ (runL most (stepL most st p x).1 (p + 1) (r ++ ys)).2) = _
    rw [ih]
    show _ = ((runL most (runL most (stepL most st p x).1 (p + 1) r).1 (p + (((x :: r).length : Nat) : Int)) ys).1, ((stepL most st p x).2 ++ (runL most (stepL most st p x).1 (p + 1) r).2) ++ _)
    rw [List.append_assoc]
    rfl
/-- without a 126 both are one -/
theorem run_runL (most : Int) : ∀ (xs : List Int) (st : Sm) (p : Int), (∀ x ∈ xs, x ≠ 126) → run most st p xs = runL most st p xs
  | [], _, _, _ => rfl
  | x :: r, st, p, h => by
    have e : step most st p x = stepL most st p x := by unfold step; rw [if_neg (h x (List.Mem.head _))]
    show ((run most (step most st p x).1 (p + 1) r).1, _) = _
    rw [e, run_runL most r _ _ fun y hy => h y (List.Mem.tail _ hy)]
    rfl

/-! ### the law's reading: from one 126 to the next -/
/-- behind the first i numbers -/
def upTo (most : Int) (ns : List Int) (i : Nat) : Sm × List Ev := run most .rest 0 (ns.take i)
end BB

set_option linter.all false
/-! A box that is written is read. -/
namespace BB
/-- numbers of a belt -/
def Belt (xs : List Int) : Prop := ∀ x ∈ xs, 0 ≤ x ∧ x ≤ 255
def pre (label : Int) (ns : List Int) : List Int := [(ns.length : Int) / 256, (ns.length : Int) % 256, label] ++ ns
def inside (label : Int) (ns : List Int) : List Int := pre label ns ++ chk (pre label ns)
def boxLine (b : Int × List Int) : List Int := 126 :: esc (inside b.1 b.2)
theorem pre_len (label : Int) (ns : List Int) : (pre label ns).length = ns.length + 3 := by
  unfold pre
  rw [List.length_append]
  show 3 + ns.length = _
  omega
theorem inside_len (label : Int) (ns : List Int) : (inside label ns).length = ns.length + 5 := by
  unfold inside
  rw [List.length_append, pre_len]
  rfl
theorem chk_belt (xs : List Int) : Belt (chk xs) := by
  intro x hx
  unfold chk at hx
  rcases List.mem_cons.mp hx with h | h
  · subst h; omega
  · have h' : x = two xs % 256 := by simpa using h
    subst h'; omega
theorem belt_append {xs ys : List Int} (h1 : Belt xs) (h2 : Belt ys) : Belt (xs ++ ys) := fun x hx => (List.mem_append.mp hx).elim (h1 x) (h2 x)
theorem pre_belt {label : Int} {ns : List Int} (h0 : 0 ≤ label ∧ label ≤ 255) (h1 : Belt ns) (h2 : ns.length ≤ 65535) : Belt (pre label ns) := by
  refine belt_append ?_ h1
  intro x hx
  rcases List.mem_cons.mp hx with h | h
  · subst h; omega
  rcases List.mem_cons.mp h with h | h
  · subst h; omega
  have h' : x = label := by simpa using h
  subst h'; exact h0
theorem inside_belt {label : Int} {ns : List Int} (h0 : 0 ≤ label ∧ label ≤ 255) (h1 : Belt ns) (h2 : ns.length ≤ 65535) : Belt (inside label ns) := belt_append (pre_belt h0 h1 h2) (chk_belt _)
theorem esc_no126 : ∀ (xs : List Int), ∀ x ∈ esc xs, x ≠ 126
  | [], x, h => by cases h
  | y :: r, x, h => by
    rcases List.mem_append.mp (show x ∈ escOf y ++ esc r from h) with q | q
    · unfold escOf at q
      split at q
      · rcases List.mem_cons.mp q with z | z
        · omega
        · have : x = 1 := by simpa using z
          omega
      · split at q
        · rcases List.mem_cons.mp q with z | z
          · omega
          · have : x = 2 := by simpa using z
            omega
        · rename_i n1 n2
          have : x = y := by simpa using q
          omega
    · exact esc_no126 r x q
theorem esc_belt {xs : List Int} (h : Belt xs) : Belt (esc xs) := by
  induction xs with
  | nil => intro x hx; cases hx
  | cons y r ih =>
    refine belt_append ?_ (ih fun x hx => h x (List.Mem.tail _ hx))
    have hy := h y (List.Mem.head _)
    intro x hx
    unfold escOf at hx
    split at hx
    · rcases List.mem_cons.mp hx with z | z
      · omega
      · have : x = 1 := by simpa using z
        omega
    · split at hx
      · rcases List.mem_cons.mp hx with z | z
        · omega
        · have : x = 2 := by simpa using z
          omega
      · have : x = y := by simpa using hx
        omega
/-- one number within a box, with its escape -/
theorem read_one (most : Int) (raw : List Int) (s p x : Int) : runL most (.opn raw false s) p (escOf x) = more most (raw ++ [x]) s (p + ((escOf x).length : Int) - 1) := by
  unfold escOf
  split
  · rename_i h; subst h
    show ((stepL most (stepL most (.opn raw false s) p 125).1 (p + 1) 1).1, (stepL most (.opn raw false s) p 125).2 ++ ((stepL most (stepL most (.opn raw false s) p 125).1 (p + 1) 1).2 ++ [])) = _
    have e1 : stepL most (.opn raw false s) p 125 = (.opn raw true s, []) := rfl
    rw [e1]
    have e2 : stepL most (.opn raw true s) (p + 1) 1 = more most (raw ++ [125]) s (p + 1) := rfl
    rw [List.append_nil, List.nil_append]
    show (stepL most (.opn raw true s) (p + 1) 1) = _
    rw [e2]
    have e3 : p + (([125, 1] : List Int).length : Int) - 1 = p + 1 := by show p + ((2 : Nat) : Int) - 1 = p + 1; omega
    rw [e3]
  · split
    · rename_i _ h; subst h
      show ((stepL most (stepL most (.opn raw false s) p 125).1 (p + 1) 2).1, (stepL most (.opn raw false s) p 125).2 ++ ((stepL most (stepL most (.opn raw false s) p 125).1 (p + 1) 2).2 ++ [])) = _
      have e1 : stepL most (.opn raw false s) p 125 = (.opn raw true s, []) := rfl
      rw [e1]
      have e2 : stepL most (.opn raw true s) (p + 1) 2 = more most (raw ++ [126]) s (p + 1) := rfl
      rw [List.append_nil, List.nil_append]
      show (stepL most (.opn raw true s) (p + 1) 2) = _
      rw [e2]
      have e3 : p + (([125, 2] : List Int).length : Int) - 1 = p + 1 := by show p + ((2 : Nat) : Int) - 1 = p + 1; omega
      rw [e3]
    · rename_i n1 n2
      show ((stepL most (.opn raw false s) p x).1, (stepL most (.opn raw false s) p x).2 ++ []) = _
      have e2 : stepL most (.opn raw false s) p x = more most (raw ++ [x]) s p := by
        show (if x = 125 then _ else _) = _
        rw [if_neg n1]
      rw [List.append_nil]
      show stepL most (.opn raw false s) p x = _
      rw [e2]
      have e3 : p + (([x] : List Int).length : Int) - 1 = p := by show p + ((1 : Nat) : Int) - 1 = p; omega
      rw [e3]
theorem lenOf_prefix {raw ys : List Int} (h : 2 ≤ raw.length) : lenOf (raw ++ ys) = lenOf raw := by
  unfold lenOf
  match raw, h with
  | a :: b :: r, _ => rfl
/-- the rest of a box, up to its last number: no fault on the way -/
theorem read_rest (most : Int) (s : Int) : ∀ (ys raw : List Int) (p : Int), ys ≠ [] → 2 ≤ (raw ++ ys).length → lenOf (raw ++ ys) ≤ most → ((raw ++ ys).length : Int) = lenOf (raw ++ ys) + 5 →
    runL most (.opn raw false s) p (esc ys) = more most (raw ++ ys) s (p + ((esc ys).length : Int) - 1)
  | [], _, _, h, _, _, _ => absurd rfl h
  | y :: r, raw, p, _, h2, hm, hl => by
    show runL most (.opn raw false s) p (escOf y ++ esc r) = _
    rw [runL_append, read_one]
    have e : raw ++ y :: r = (raw ++ [y]) ++ r := by rw [List.append_assoc]; rfl
    cases r with
    | nil =>
      have e2 : esc (y :: []) = escOf y := esc_one y
      rw [e2]
      show (_, _ ++ []) = _
      rw [List.append_nil]
      rfl
    | cons z r =>
      -- not the last one: the box goes on
      have hlen : (raw ++ [y]).length + (z :: r).length = (raw ++ y :: z :: r).length := by
        conv => rhs; rw [e]
        exact (List.length_append).symm
      have hz : (z :: r).length = r.length + 1 := rfl
      have go : more most (raw ++ [y]) s (p + ((escOf y).length : Int) - 1) = (.opn (raw ++ [y]) false s, []) := by
        unfold more
        by_cases h1 : 1 < (raw ++ [y]).length
        · have el : lenOf (raw ++ y :: z :: r) = lenOf (raw ++ [y]) := by rw [e]; exact lenOf_prefix h1
          rw [el] at hm hl
          rw [if_neg (by omega), if_neg (by omega)]
        · rw [if_neg (by omega), if_neg (by omega)]
      rw [go, List.nil_append]
      have ih := read_rest most s (z :: r) (raw ++ [y]) (p + ((escOf y).length : Int)) (by simp) (by rw [← e]; exact h2) (by rw [← e]; exact hm) (by rw [← e]; exact hl)
      show runL most (.opn (raw ++ [y]) false s) (p + ((escOf y).length : Int)) (esc (z :: r)) = _
      rw [ih, ← e]
      have e3 : (esc (y :: z :: r)).length = (escOf y).length + (esc (z :: r)).length := by
        show (escOf y ++ esc (z :: r)).length = _
        rw [List.length_append]
      rw [e3]
      have e4 : p + ((escOf y).length : Int) + ((esc (z :: r)).length : Int) - 1 = p + (((escOf y).length + (esc (z :: r)).length : Nat) : Int) - 1 := by omega
      rw [e4]
theorem lenOf_inside (label : Int) (ns : List Int) : lenOf (inside label ns) = (ns.length : Int) := by
  show 256 * ((ns.length : Int) / 256) + (ns.length : Int) % 256 = _
  omega
theorem take_pre (label : Int) (ns : List Int) : (inside label ns).take ((inside label ns).length - 2) = pre label ns := by
  rw [inside_len]
  unfold inside
  rw [List.take_append_of_le_length (by rw [pre_len]; omega)]
  exact List.take_of_length_le (by rw [pre_len]; omega)
theorem drop_pre (label : Int) (ns : List Int) : (inside label ns).drop ((inside label ns).length - 2) = chk (pre label ns) := by
  rw [inside_len]
  unfold inside
  rw [List.drop_append_of_le_length (by rw [pre_len]; omega), List.drop_eq_nil_of_le (by rw [pre_len]; omega), List.nil_append]
theorem more_box {most label : Int} {ns : List Int} (s p : Int) (h : (ns.length : Int) ≤ most) : more most (inside label ns) s p = (.rest, [.box label ns s p]) := by
  have hl := inside_len label ns
  unfold more
  rw [lenOf_inside, if_neg (by omega), if_pos (by omega), take_pre, drop_pre, if_pos rfl]
  rfl
/-- a box is read, whatever came ahead of it -/
theorem read_box {most : Int} {b : Int × List Int} (st : Sm) (p : Int) (h : (b.2.length : Int) ≤ most) :
    run most st p (boxLine b) = (.rest, cutOf st p ++ [.box b.1 b.2 p (p + ((esc (inside b.1 b.2)).length : Int))]) := by
  obtain ⟨label, ns⟩ := b
  have hl := inside_len label ns
  show ((run most (step most st p 126).1 (p + 1) (esc (inside label ns))).1, (step most st p 126).2 ++ (run most (step most st p 126).1 (p + 1) (esc (inside label ns))).2) = _
  have e1 : step most st p 126 = (.opn [] false p, cutOf st p) := by unfold step cutOf; rw [if_pos rfl]
  rw [e1, run_runL most _ _ _ (esc_no126 _)]
  have e2 := read_rest most p (inside label ns) [] (p + 1) (by intro z; rw [z] at hl; simp at hl) (by rw [List.nil_append]; omega) (by rw [List.nil_append, lenOf_inside]; exact h) (by rw [List.nil_append, lenOf_inside]; omega)
  rw [e2, List.nil_append, more_box p _ h]
  have e3 : p + 1 + ((esc (inside label ns)).length : Int) - 1 = p + ((esc (inside label ns)).length : Int) := by omega
  rw [e3]
end BB

set_option linter.all false
/-! Several boxes; boxes too great; a box with one change. -/
namespace BB
theorem isOpn_cut {st : Sm} (h : isOpn st = false) (p : Int) : cutOf st p = [] := by unfold cutOf; rw [h]; rfl
def isBox : Ev → Bool
  | .box _ _ _ _ => true
  | _ => false

/-! ### one change -/
/-- what is in a box, with check numbers that aren't those of what is ahead of them -/
theorem more_bad {most : Int} {I : List Int} (s p : Int) (h2 : 2 ≤ I.length) (hm : lenOf I ≤ most) (hl : (I.length : Int) = lenOf I + 5) (hc : I.drop (I.length - 2) ≠ chk (I.take (I.length - 2))) : more most I s p = (.rest, [.check p]) := by
  unfold more
  rw [if_neg (by omega), if_pos ⟨by omega, hl⟩, if_neg hc]
end BB

set_option linter.all false
/-! The law's reading from one 126 to the next gives what the reading number by number tells. -/
namespace BB
def ats (ns : List Int) (n : Nat) : List Nat := (List.range n).filter fun k => decide (ns[k]? = some 126)
def begins (ns : List Int) : List Nat := ats ns ns.length ++ [ns.length]
theorem begins_len (ns : List Int) : (begins ns).length = (ats ns ns.length).length + 1 := by unfold begins; rw [List.length_append]; rfl
def bg (ns : List Int) (i : Nat) : Nat := (begins ns).getD i 0
theorem bg_last (ns : List Int) : bg ns (ats ns ns.length).length = ns.length := by
  unfold bg begins
  rw [List.getD_eq_getElem?_getD, List.getElem?_append_right (Nat.le_refl _), Nat.sub_self]; rfl
/-- what the law has told behind i turns -/
def evAt (most : Int) (ns : List Int) (i : Nat) : List Ev :=
  (upTo most ns (bg ns i)).2 ++ (if i = (ats ns ns.length).length then endOf (upTo most ns (bg ns i)).1 (bg ns i : Int) else cutOf (upTo most ns (bg ns i)).1 (bg ns i : Int))
theorem evAt_end (most : Int) (ns : List Int) : evAt most ns (ats ns ns.length).length = told most ns := by
  unfold evAt told
  rw [if_pos rfl, bg_last]
  unfold upTo
  rw [List.take_length]
/-- at most one event by number, and one at the end -/
theorem step_le (most : Int) (st : Sm) (p n : Int) : (step most st p n).2.length ≤ 1 := by
  unfold step
  split
  · dsimp only; split <;> simp
  · unfold stepL
    split
    · simp
    · simp
    · split
      · simp
      · unfold more; split
        · simp
        · split
          · dsimp only; split <;> simp
          · simp
    · split
      · unfold more; split
        · simp
        · split
          · dsimp only; split <;> simp
          · simp
      · simp
theorem run_le (most : Int) : ∀ (ns : List Int) (st : Sm) (p : Int), (run most st p ns).2.length ≤ ns.length
  | [], _, _ => Nat.le_refl _
  | n :: r, st, p => by
    have h1 := run_le most r (step most st p n).1 (p + 1)
    have h2 := step_le most st p n
    show ((step most st p n).2 ++ (run most (step most st p n).1 (p + 1) r).2).length ≤ r.length + 1
    rw [List.length_append]; omega
theorem evAt_len {most : Int} {ns : List Int} {i : Nat} (h : i < (begins ns).length) : (evAt most ns i).length ≤ ns.length + 1 := by
  unfold evAt
  rw [List.length_append]
  have h1 := run_le most (ns.take (bg ns i)) .rest 0
  rw [List.length_take] at h1
  have h2 : (upTo most ns (bg ns i)).2.length ≤ ns.length := by unfold upTo; omega
  have h3 : (if i = (ats ns ns.length).length then endOf (upTo most ns (bg ns i)).1 (bg ns i : Int) else cutOf (upTo most ns (bg ns i)).1 (bg ns i : Int)).length ≤ 1 := by
    unfold endOf cutOf
    split <;> split <;> simp
  omega
theorem told_len (most : Int) (ns : List Int) : (told most ns).length ≤ ns.length + 1 := by
  rw [← evAt_end]
  exact evAt_len (by have := begins_len ns; omega)
end BB

set_option linter.all false
/-! How much is told of a belt. -/
namespace BB
def evW : Ev → Nat
  | .box _ ns _ _ => ns.length + 6
  | _ => 4
def evWs : List Ev → Nat
  | [] => 0
  | e :: r => evW e + evWs r
theorem evWs_append : ∀ xs ys : List Ev, evWs (xs ++ ys) = evWs xs + evWs ys
  | [], ys => by show evWs ys = 0 + evWs ys; omega
  | e :: r, ys => by
    show evW e + evWs (r ++ ys) = evW e + evWs r + evWs ys
    rw [evWs_append r ys]; omega
def hold : Sm → Nat
  | .opn raw _ _ => raw.length
  | _ => 0
theorem more_sz (most : Int) (raw : List Int) (s p : Int) : hold (more most raw s p).1 + evWs (more most raw s p).2 ≤ raw.length + 6 := by
  unfold more
  split
  · show 0 + (4 + 0) ≤ _; omega
  · split
    · dsimp only
      split
      · show 0 + (((raw.take (raw.length - 2)).drop 3).length + 6 + 0) ≤ _
        rw [List.length_drop, List.length_take]; omega
      · show 0 + (4 + 0) ≤ _; omega
    · show raw.length + 0 ≤ _; omega
theorem step_sz (most : Int) (st : Sm) (p n : Int) : hold (step most st p n).1 + evWs (step most st p n).2 ≤ hold st + 7 := by
  unfold step
  split
  · dsimp only
    split
    · show 0 + (4 + 0) ≤ _; omega
    · show 0 + 0 ≤ _; omega
  · unfold stepL
    split
    · show 0 + (4 + 0) ≤ _; omega
    · show 0 + 0 ≤ _; omega
    · split
      · show _ + 0 ≤ _; exact Nat.le_add_right _ _
      · refine Nat.le_trans (more_sz _ _ _ _) ?_
        rw [List.length_append]; show _ + 1 + 6 ≤ _; exact Nat.le_refl _
    · split
      · refine Nat.le_trans (more_sz _ _ _ _) ?_
        rw [List.length_append]; show _ + 1 + 6 ≤ _; exact Nat.le_refl _
      · show 0 + (4 + 0) ≤ _; omega
theorem run_sz (most : Int) : ∀ (ns : List Int) (st : Sm) (p : Int), evWs (run most st p ns).2 ≤ hold st + 7 * ns.length
  | [], st, p => Nat.zero_le _
  | n :: r, st, p => by
    have h1 := run_sz most r (step most st p n).1 (p + 1)
    have h2 := step_sz most st p n
    show evWs ((step most st p n).2 ++ (run most (step most st p n).1 (p + 1) r).2) ≤ hold st + 7 * (r.length + 1)
    rw [evWs_append]; omega
theorem told_sz (most : Int) (ns : List Int) : evWs (told most ns) ≤ 7 * ns.length + 4 := by
  unfold told
  rw [evWs_append]
  have h1 := run_sz most ns .rest 0
  have h2 : evWs (endOf (run most .rest 0 ns).1 (ns.length : Int)) ≤ 4 := by
    unfold endOf
    split
    · exact Nat.le_refl _
    · exact Nat.zero_le _
  have h3 : hold .rest = 0 := rfl
  omega
end BB

set_option linter.all false
/-! The boxes of a parcel. -/
namespace BB
def boxedF (sd : Int) (m : Nat) : Nat → Nat → List Int → List (Int × List Int)
  | 0, _, _ => []
  | f + 1, k, xs => if xs.drop m = [] then [(2 * sd + 1, (k : Int) :: xs.take m)] else (2 * sd, (k : Int) :: xs.take m) :: boxedF sd m f (k + 1) (xs.drop m)
/-- the boxes of a parcel: so many numbers each -/
def boxed (sd : Int) (m : Nat) (xs : List Int) : List (Int × List Int) := boxedF sd m (xs.length + 1) 0 xs
theorem boxedF_fuel (sd : Int) (m : Nat) (hm : 1 ≤ m) : ∀ (f g k : Nat) (xs : List Int), xs.length < f → xs.length < g → boxedF sd m f k xs = boxedF sd m g k xs
  | 0, _, _, xs, h, _ => absurd h (Nat.not_lt_zero _)
  | _, 0, _, xs, _, h => absurd h (Nat.not_lt_zero _)
  | f + 1, g + 1, k, xs, h1, h2 => by
    unfold boxedF
    by_cases h : xs.drop m = []
    · rw [if_pos h, if_pos h]
    · rw [if_neg h, if_neg h]
      have hl : (xs.drop m).length < xs.length := by
        have : xs.length ≠ 0 := fun z => h (by rw [List.length_eq_zero_iff.mp z, List.drop_nil])
        rw [List.length_drop]; omega
      rw [boxedF_fuel sd m hm f g (k + 1) (xs.drop m) (by omega) (by omega)]
end BB

set_option linter.all false
/-! One change within a box: its check numbers tell it. -/
namespace BB
end BB

set_option linter.all false
/-! How many boxes a parcel needs, and which. -/
namespace BB
def nb (l m : Nat) : Nat := max 1 ((l + m - 1) / m)
def boxN (sd : Int) (m n k : Nat) (xs : List Int) (c : Nat) : Int × List Int := (if c = n - 1 then 2 * sd + 1 else 2 * sd, ((k + c : Nat) : Int) :: (xs.drop (c * m)).take m)
theorem nb_small {l m : Nat} (hm : 1 ≤ m) (h : l ≤ m) : nb l m = 1 := by
  unfold nb
  have : (l + m - 1) / m < 2 := by rw [Nat.div_lt_iff_lt_mul (by omega)]; omega
  omega
theorem nb_more {l m : Nat} (hm : 1 ≤ m) (h : m < l) : nb l m = nb (l - m) m + 1 := by
  unfold nb
  have e : l + m - 1 = (l - m + m - 1) + m := by omega
  have h1 : (l + m - 1) / m = (l - m + m - 1) / m + 1 := by rw [e, Nat.add_div_right _ (by omega)]
  have h2 : 1 ≤ (l - m + m - 1) / m := by rw [Nat.le_div_iff_mul_le (by omega)]; omega
  omega
theorem nb_pos (l m : Nat) : 1 ≤ nb l m := by unfold nb; omega
theorem boxedF_eq (sd : Int) (m : Nat) (hm : 1 ≤ m) : ∀ (f k : Nat) (xs : List Int), xs.length < f → boxedF sd m f k xs = (List.range (nb xs.length m)).map (boxN sd m (nb xs.length m) k xs)
  | 0, _, xs, h => absurd h (Nat.not_lt_zero _)
  | f + 1, k, xs, h => by
    unfold boxedF
    by_cases hd : xs.drop m = []
    · have hl : xs.length ≤ m := List.drop_eq_nil_iff.mp hd
      rw [if_pos hd, nb_small hm hl]
      show _ = [boxN sd m 1 k xs 0]
      unfold boxN
      rw [if_pos rfl, Nat.zero_mul, List.drop_zero]
      rfl
    · have hl : m < xs.length := by
        have : ¬ xs.length ≤ m := fun z => hd (List.drop_eq_nil_of_le z)
        omega
      have hdl : (xs.drop m).length = xs.length - m := List.length_drop
      rw [if_neg hd, nb_more hm hl, boxedF_eq sd m hm f (k + 1) (xs.drop m) (by omega), hdl, List.range_succ_eq_map, List.map_cons, List.map_map]
      have hp := nb_pos (xs.length - m) m
      generalize nb (xs.length - m) m = n at hp ⊢
      have e0 : boxN sd m (n + 1) k xs 0 = (2 * sd, (k : Int) :: xs.take m) := by
        unfold boxN
        rw [if_neg (by omega), Nat.zero_mul, List.drop_zero]; rfl
      rw [e0]
      congr 1
      apply List.map_congr_left
      intro c _
      show boxN sd m n (k + 1) (xs.drop m) c = boxN sd m (n + 1) k xs (c + 1)
      unfold boxN
      have e1 : (if c = n - 1 then 2 * sd + 1 else 2 * sd) = (if c + 1 = n + 1 - 1 then 2 * sd + 1 else 2 * sd) := by
        by_cases hc : c = n - 1
        · rw [if_pos hc, if_pos (by omega)]
        · rw [if_neg hc, if_neg (by omega)]
      have e2 : k + 1 + c = k + (c + 1) := by omega
      have e3 : (xs.drop m).drop (c * m) = xs.drop ((c + 1) * m) := by rw [List.drop_drop, Nat.succ_mul, Nat.add_comm]
      rw [e1, e2, e3]
theorem boxed_eq (sd : Int) {m : Nat} (hm : 1 ≤ m) (xs : List Int) : boxed sd m xs = (List.range (nb xs.length m)).map (boxN sd m (nb xs.length m) 0 xs) := boxedF_eq sd m hm _ 0 xs (Nat.lt_succ_self _)
theorem boxed_each {sd : Int} {m : Nat} (hm : 1 ≤ m) {xs : List Int} {b : Int × List Int} (h : b ∈ boxed sd m xs) : b.2.length ≤ xs.length + 1 := by
  rw [boxed_eq sd hm] at h
  obtain ⟨c, _, rfl⟩ := List.mem_map.mp h
  show ((xs.drop (c * m)).take m).length + 1 ≤ xs.length + 1
  rw [List.length_take, List.length_drop]; omega
end BB

set_option Elab.async false
set_option linter.all false
set_option maxRecDepth 100000
set_option maxHeartbeats 4000000
namespace BB
open PySem L2
/-- a def of the text, as its callers need it -/
structure Def (K : PySem.W.Frag) (mg : Str → Option Value) (x : Str) (st : Stmt) (ps : List Str) (f : Addr) (fd : FuncData) : Prop where
  F : Fun K x x st f fd
  b : Binds K fd ps []
  m : mg x = some (.ref f)
/-- a name of the module that holds an int -/
def IntC (mg : Str → Option Value) (x : Str) (i : Int) : Prop := ∃ t, mg x = some (.int i t)

theorem same_new {H : Hp} {p : Addr} (h : H p = none) (o : HO) : Same H (upd H p o) := fun b u q => by rw [upd_ne (ne_of_none q h)]; exact q
/-- an object that came after H is changed -/
theorem same_upd {H H' : Hp} {p : Addr} (s : Same H H') (h : H p = none) (o : HO) : Same H (upd H' p o) := fun b u q => by rw [upd_ne (ne_of_none q h)]; exact s b u q
theorem int_at {ns : List Int} {i : Nat} {x : V} (h : (ns.map V.int)[i]? = some x) : ∃ n, ns[i]? = some n ∧ x = V.int n := by
  rw [List.getElem?_map] at h
  cases e : ns[i]? with
  | none => rw [e] at h; cases h
  | some n => rw [e] at h; exact ⟨n, rfl, (Option.some.inj h).symm⟩
theorem small {n : Nat} (h : n ≤ 1000000) : n < sizeLine := Nat.lt_of_le_of_lt h (by decide)
theorem small' {n : Nat} (h : n ≤ 1000000) : n ≤ sizeLine := Nat.le_of_lt (small h)

section
variable {P : Program} {w : World} {K : PySem.W.Frag} {mg : Str → Option Value} {base : Heap} {C0 C1 C2 C3 : Addr}
theorem pc {X : Cx} {x : Str} {i : Int} {pos : Pos} (h : IntC X.mg x i) (hg : Gl X x) (hd : (x == ("__debug__" : Str)) = false := by decide) : PE X (.Name x pos) (tC (.int i)) := by
  obtain ⟨t, e⟩ := h
  exact pe_glob hg e ⟨t, rfl⟩ hd

end
section
variable {P : Program} {w : World} {K : PySem.W.Frag} {mg : Str → Option Value} {base : Heap} {C0 C1 C2 C3 : Addr}
abbrev bmV : List Value := [.type "ValueError", .type "Exception", .type "BaseException", .type "object"]
/-- an own error class of the text, made as ValueError is -/
structure Err (K : PySem.W.Frag) (mg : Str → Option Value) (x : Str) (C : Addr) : Prop where
  m : mg x = some (.ref C)
  ex : PySem.W.excIn K C bmV "ValueError.__new__" = true

theorem passes_def {P : Program} {w : World} {K : PySem.W.Frag} {mg : Str → Option Value} {base : Heap} {N : List Str} {qual : Str} {scope : Scope} {f : Addr} {cd : Value} {A : Around} {outer : List Env} {s0 : Shared} {H0 : Hp} {E : XK} :
    PassesOwn (model (cxOf (CXs P w) P w K mg base N qual scope f cd A outer s0 H0 E).prog (cxOf (CXs P w) P w K mg base N qual scope f cd A outer s0 H0 E).w) (cxOf (CXs P w) P w K mg base N qual scope f cd A outer s0 H0 E).A
      (cxOf (CXs P w) P w K mg base N qual scope f cd A outer s0 H0 E).env (cxOf (CXs P w) P w K mg base N qual scope f cd A outer s0 H0 E).xe := PassesOwn.leaving

theorem log_small {n : Nat} (h : n ≤ 1000000) : ((n : Int)).natAbs.log2 < 1920 := by
  show n.log2 < 1920
  by_cases h0 : n = 0
  · subst h0; decide
  · have h1 : n.log2 < 20 := (Nat.log2_lt h0).mpr (Nat.lt_of_le_of_lt h (by decide))
    omega

end
/-- what is asked of the top about isinstance and the built-in names -/
structure Blt (K : PySem.W.Frag) (mg : Str → Option Value) : Prop where
  isi : mg "isinstance" = none
  int : mg "int" = none
  bool : mg "bool" = none
  list : mg "list" = none
  len : mg "len" = none
  range : mg "range" = none
  abs : mg "abs" = none
  ii : PySem.W.kitOne K (.type "int") (.type "int") = some true
  ib : PySem.W.kitOne K (.type "int") (.type "bool") = some false
  ll : PySem.W.kitOne K (.type "list") (.type "list") = some true
section
variable {P : Program} {w : World} {K : PySem.W.Frag} {mg : Str → Option Value} {base : Heap} {C0 C1 C2 C3 : Addr}
/-- isinstance(e, T) of a built-in type T -/
theorem pe_isT {X : Cx} {x : Str} {T : String} {e : Expr} {te : TE} {p1 p2 pos : Pos} (hi : X.mg "isinstance" = none) (hgi : Gl X "isinstance") (he : PE X e te) (hg : Gl X x) (hm : X.mg x = none) (hv : bootBuiltins x = some (.type T)) (hn : x ≠ "__name__" := by decide) (hd : (x == ("__debug__" : Str)) = false := by decide)
    (hs : starEach [e, .Name x p2] X.env = [(false, eval e X.env), (false, eval (.Name x p2) X.env)] := by rfl) (hs2 : starEach [.Name x p2] X.env = [(false, eval (.Name x p2) X.env)] := by rfl) :
    PE X (.Call (.Name "isinstance" p1) [e, .Name x p2] [] pos) (tCB (rIsi X.K) (tCons te (tCons (tC (.ty T)) tNil))) :=
  pe_callB call_isi hgi hi PyProof.Rows.boot_isinstance (pa_cons he (pa_cons (pe_bltn hg hm hv rfl hn hd) pa_nil (by rw [hs2]; rfl)) (by rw [hs, hs2])) (by decide) (by decide) (by rw [hs, hs2]) (by rw [hs2]; rfl)

theorem bootBool : bootBuiltins "bool" = some (.type "bool") := by decide +kernel
end
section
variable {P : Program} {w : World} {K : PySem.W.Frag} {mg : Str → Option Value} {base : Heap} {C0 C1 C2 C3 : Addr}
end
/-- a slice of ints -/
def cutI (xs : List Int) (lo hi : Option Int) : List Int := (xs.drop (HT.sIx xs.length 0 lo)).take (HT.sIx xs.length xs.length hi - HT.sIx xs.length 0 lo)
theorem cutV_ints (xs : List Int) (lo hi : Option Int) : cutV (xs.map V.int) lo hi = (cutI xs lo hi).map V.int := by
  unfold cutV cutI
  rw [List.length_map, ← List.map_drop, ← List.map_take]
theorem cutI_len (xs : List Int) (lo hi : Option Int) : (cutI xs lo hi).length ≤ xs.length := by
  unfold cutI
  rw [List.length_take, List.length_drop]; omega
theorem good_snoc {xs : List Int} {n : Int} (h : good xs = true) (k : okN n = true) : good (xs ++ [n]) = true := by
  unfold good at h ⊢
  rw [List.all_append, h]
  show (true && (okN n && true)) = true
  rw [k]; rfl
theorem seq_by {t u : TS} {D : Ends} {σ : St} {H : Hp} (J : St → Hp → Prop) (h2 : ∀ σ H, J σ H → u D σ H) (h1 : ∀ nx : St → Hp → Prop, (∀ σ H, J σ H → nx σ H) → t { D with nx := nx } σ H) : tSeq t u D σ H := h1 (u D) h2
def cell (ns : List Int) (k : Nat) : Int := (ns[k]?).getD 0
end BB

set_option Elab.async false
set_option linter.all false
set_option maxRecDepth 100000
set_option maxHeartbeats 4000000
/-! Boxes and events as data; boxes as they lie in the heap. -/
namespace BB
open PySem L2
inductive All2 {α β : Type} (R : α → β → Prop) : List α → List β → Prop where
  | nil : All2 R [] []
  | cons {a b xs ys} : R a b → All2 R xs ys → All2 R (a :: xs) (b :: ys)
theorem All2.length_eq {α β : Type} {R : α → β → Prop} : ∀ {xs : List α} {ys : List β}, All2 R xs ys → xs.length = ys.length := by
  intro xs ys h
  induction h with
  | nil => rfl
  | cons _ _ ih => exact congrArg (· + 1) ih
def intsD (ns : List Int) : D := .lst (ns.map D.int)
def boxD (b : Int × List Int) : D := .tup [.int b.1, intsD b.2]
def boxesD (bs : List (Int × List Int)) : D := .lst (bs.map boxD)
theorem rep_ints {H : Hp} {a : Addr} {ns : List Int} (h : H a = some (.lst (ns.map V.int))) : Rep H (.ref a) (intsD ns) := by
  refine .lst h (by rw [List.length_map, List.length_map]) fun i v d h1 h2 => ?_
  rw [List.getElem?_map] at h1 h2
  cases e : ns[i]? with
  | none => rw [e] at h1; cases h1
  | some n => rw [e] at h1 h2; cases h1; cases h2; exact .int n
theorem rep_list_inv {H : Hp} {v : V} {ds : List D} (r : Rep H v (.lst ds)) : ∃ a vs, v = .ref a ∧ H a = some (.lst vs) ∧ vs.length = ds.length ∧ ∀ (i : Nat) v d, vs[i]? = some v → ds[i]? = some d → Rep H v d := by
  cases r with
  | lst h hl hs => exact ⟨_, _, rfl, h, hl, hs⟩
theorem rep_tup_inv {H : Hp} {v : V} {ds : List D} (r : Rep H v (.tup ds)) : ∃ a vs, v = .ref a ∧ H a = some (.tup vs) ∧ vs.length = ds.length ∧ ∀ (i : Nat) v d, vs[i]? = some v → ds[i]? = some d → Rep H v d := by
  cases r with
  | tup h hl hs => exact ⟨_, _, rfl, h, hl, hs⟩
theorem rep_int_inv {H : Hp} {v : V} {i : Int} (r : Rep H v (.int i)) : v = .int i := by cases r; rfl
theorem rep_str_inv {H : Hp} {v : V} {x : Str} (r : Rep H v (.str x)) : v = .str x := by cases r; rfl
theorem rep_ints_inv {H : Hp} {v : V} {ns : List Int} (r : Rep H v (intsD ns)) : ∃ a, v = .ref a ∧ H a = some (.lst (ns.map V.int)) := by
  obtain ⟨a, vs, rfl, h, hl, hs⟩ := rep_list_inv r
  refine ⟨a, rfl, ?_⟩
  have e : vs = ns.map V.int := by
    rw [List.length_map] at hl
    apply List.ext_getElem?
    intro i
    by_cases hi : i < ns.length
    · have h1 : vs[i]? = some (vs[i]'(by omega)) := List.getElem?_eq_getElem (by omega)
      have h2 : (ns.map D.int)[i]? = some (D.int ns[i]) := by rw [List.getElem?_map, List.getElem?_eq_getElem hi]; rfl
      rw [h1, List.getElem?_map, List.getElem?_eq_getElem hi, rep_int_inv (hs i _ _ h1 h2)]; rfl
    · rw [List.getElem?_eq_none (by omega), List.getElem?_eq_none (by rw [List.length_map]; omega)]
  rw [h, e]
theorem rep_tup {H : Hp} {a : Addr} {vs : List V} {ds : List D} (h : H a = some (.tup vs)) (p : All2 (Rep H) vs ds) : Rep H (.ref a) (.tup ds) := by
  refine .tup h p.length_eq fun i v d h1 h2 => ?_
  clear h
  induction p generalizing i with
  | nil => cases h1
  | cons r _ ih =>
    cases i with
    | zero => cases h1; cases h2; exact r
    | succ j => exact ih j h1 h2
theorem rep_lst {H : Hp} {a : Addr} {vs : List V} {ds : List D} (h : H a = some (.lst vs)) (p : All2 (Rep H) vs ds) : Rep H (.ref a) (.lst ds) := by
  refine .lst h p.length_eq fun i v d h1 h2 => ?_
  clear h
  induction p generalizing i with
  | nil => cases h1
  | cons r _ ih =>
    cases i with
    | zero => cases h1; cases h2; exact r
    | succ j => exact ih j h1 h2
theorem rep_box {H : Hp} {t l : Addr} {b : Int × List Int} (h : H t = some (.tup [.int b.1, .ref l])) (hl : H l = some (.lst (b.2.map V.int))) : Rep H (.ref t) (boxD b) :=
  rep_tup h (.cons (.int _) (.cons (rep_ints hl) .nil))
theorem len2 {α : Type} {vs : List α} (h : vs.length = 2) : ∃ a b, vs = [a, b] := by
  cases vs with
  | nil => cases h
  | cons a r =>
    cases r with
    | nil => cases h
    | cons b s =>
      cases s with
      | nil => exact ⟨a, b, rfl⟩
      | cons c u => cases h
theorem rep_box_inv {H : Hp} {v : V} {b : Int × List Int} (r : Rep H v (boxD b)) : ∃ t l, v = .ref t ∧ H t = some (.tup [.int b.1, .ref l]) ∧ H l = some (.lst (b.2.map V.int)) := by
  obtain ⟨t, vs, rfl, h, hl, hs⟩ := rep_tup_inv r
  obtain ⟨v0, v1, rfl⟩ := len2 hl
  have e0 := rep_int_inv (hs 0 v0 _ rfl rfl)
  obtain ⟨l, e1, hl2⟩ := rep_ints_inv (hs 1 v1 _ rfl rfl)
  subst e0 e1
  exact ⟨t, l, rfl, h, hl2⟩
theorem ints_sizes : ∀ ns : List Int, D.sizes (ns.map D.int) = ns.length
  | [] => rfl
  | n :: r => by
    have ih := ints_sizes r
    show 1 + D.sizes (r.map D.int) = r.length + 1
    omega
theorem ints_size (ns : List Int) : (intsD ns).size = ns.length + 1 := by
  show D.sizes (ns.map D.int) + 1 = _
  rw [ints_sizes]
theorem box_size (b : Int × List Int) : (boxD b).size = b.2.length + 3 := by
  show (1 + ((intsD b.2).size + 0)) + 1 = _
  rw [ints_size]; omega
/-- the boxes and their numbers -/
def wt : List (Int × List Int) → Nat
  | [] => 0
  | b :: r => b.2.length + 1 + wt r
theorem wt_append : ∀ xs ys : List (Int × List Int), wt (xs ++ ys) = wt xs + wt ys
  | [], ys => by show wt ys = 0 + wt ys; omega
  | b :: r, ys => by
    show b.2.length + 1 + wt (r ++ ys) = b.2.length + 1 + wt r + wt ys
    rw [wt_append r ys]; omega
theorem boxes_sizes : ∀ bs : List (Int × List Int), D.sizes (bs.map boxD) ≤ 3 * wt bs
  | [] => Nat.le_refl _
  | b :: r => by
    have ih := boxes_sizes r
    have h := box_size b
    show (boxD b).size + D.sizes (r.map boxD) ≤ 3 * (b.2.length + 1 + wt r)
    omega
theorem boxes_size (bs : List (Int × List Int)) : (boxesD bs).size ≤ 3 * wt bs + 1 := Nat.succ_le_succ (boxes_sizes bs)
theorem wt_mem {b : Int × List Int} : ∀ {bs : List (Int × List Int)}, b ∈ bs → b.2.length < wt bs
  | c :: r, h => by
    rcases List.mem_cons.mp h with z | z
    · subst z; show b.2.length < b.2.length + 1 + wt r; omega
    · have := wt_mem z; show b.2.length < c.2.length + 1 + wt r; omega

/-! ### boxes as they lie -/
structure Bx where
  t : Addr
  l : Addr
  b : Int
  ns : List Int
abbrev Bx.p (c : Bx) : Int × List Int := (c.b, c.ns)
structure BoxesAt (H : Hp) (a : Addr) (cs : List Bx) : Prop where
  at_ : H a = some (.lst (cs.map fun c => V.ref c.t))
  each : ∀ c ∈ cs, H c.t = some (.tup [.int c.b, .ref c.l]) ∧ H c.l = some (.lst (c.ns.map V.int))
  nd : (a :: cs.map Bx.l).Nodup
def NewBx (H : Hp) (cs : List Bx) : Prop := ∀ c ∈ cs, H c.t = none ∧ H c.l = none
def okBox (b : Int × List Int) : Prop := (0 ≤ b.1 ∧ b.1 ≤ 255) ∧ Belt b.2
theorem forall2_map {α β γ : Type} {R : β → γ → Prop} {f : α → β} {g : α → γ} : ∀ {xs : List α}, (∀ x ∈ xs, R (f x) (g x)) → All2 R (xs.map f) (xs.map g)
  | [], _ => .nil
  | x :: r, h => .cons (h x (List.Mem.head _)) (forall2_map fun y hy => h y (List.mem_cons_of_mem _ hy))
theorem BoxesAt.rep {H : Hp} {a : Addr} {cs : List Bx} (h : BoxesAt H a cs) : Rep H (.ref a) (boxesD (cs.map Bx.p)) := by
  refine rep_lst h.at_ ?_
  rw [List.map_map]
  exact forall2_map fun c hc => rep_box (b := c.p) (h.each c hc).1 (h.each c hc).2
theorem BoxesAt.mono {H H' : Hp} {a : Addr} {cs : List Bx} (h : BoxesAt H a cs) (s : Same H H') : BoxesAt H' a cs :=
  ⟨s _ _ h.at_, fun c hc => ⟨s _ _ (h.each c hc).1, s _ _ (h.each c hc).2⟩, h.nd⟩
/-- another box at the end -/
theorem BoxesAt.snoc {H : Hp} {a : Addr} {cs : List Bx} {c : Bx} (h : BoxesAt H a cs) (ht : H c.t = some (.tup [.int c.b, .ref c.l])) (hl : H c.l = some (.lst (c.ns.map V.int))) (n1 : c.l ≠ a) (n2 : ∀ d ∈ cs, d.l ≠ c.l) :
    BoxesAt (upd H a (.lst ((cs.map fun c => V.ref c.t) ++ [.ref c.t]))) a (cs ++ [c]) := by
  have ne : ∀ {d : Bx}, d ∈ cs → d.l ≠ a := fun hd z => (List.nodup_cons.mp h.nd).1 (by rw [← z]; exact List.mem_map_of_mem hd)
  refine ⟨by rw [upd_same, List.map_append]; rfl, fun d hd => ?_, ?_⟩
  · rcases List.mem_append.mp hd with z | z
    · exact ⟨by rw [upd_ne (ne_of (h.each d z).1 h.at_ (by intro y; cases y))]; exact (h.each d z).1, by rw [upd_ne (ne z)]; exact (h.each d z).2⟩
    · have e : d = c := by simpa using z
      subst e
      exact ⟨by rw [upd_ne (ne_of ht h.at_ (by intro y; cases y))]; exact ht, by rw [upd_ne n1]; exact hl⟩
  · rw [List.map_append]
    show ((a :: cs.map Bx.l) ++ [c.l]).Nodup
    rw [List.nodup_append]
    refine ⟨h.nd, by simp, fun x hx y hy => ?_⟩
    have e : y = c.l := by simpa using hy
    subst e
    rcases List.mem_cons.mp hx with z | z
    · subst z; exact fun q => n1 q.symm
    · obtain ⟨d, hd, rfl⟩ := List.mem_map.mp z
      exact n2 d hd
/-- the numbers of the last box change -/
theorem BoxesAt.last {H : Hp} {a : Addr} {cs : List Bx} {c : Bx} {ms : List Int} (h : BoxesAt H a (cs ++ [c])) : BoxesAt (upd H c.l (.lst (ms.map V.int))) a (cs ++ [{ c with ns := ms }]) := by
  have hm : c ∈ cs ++ [c] := List.mem_append_right _ (List.Mem.head _)
  have nd := h.nd
  rw [List.map_append] at nd
  have nd' : ((a :: cs.map Bx.l) ++ [c.l]).Nodup := nd
  rw [List.nodup_append] at nd'
  have na : a ≠ c.l := nd'.2.2 a (List.Mem.head _) _ (List.Mem.head _)
  refine ⟨?_, fun d hd => ?_, ?_⟩
  · rw [upd_ne na, h.at_, List.map_append, List.map_append]; rfl
  · rcases List.mem_append.mp hd with z | z
    · have hz := h.each d (List.mem_append_left _ z)
      have n1 : d.l ≠ c.l := nd'.2.2 d.l (List.mem_cons_of_mem _ (List.mem_map_of_mem z)) _ (List.Mem.head _)
      exact ⟨by rw [upd_ne (ne_of hz.1 (h.each c hm).2 (by intro y; cases y))]; exact hz.1, by rw [upd_ne n1]; exact hz.2⟩
    · have e : d = { c with ns := ms } := by simpa using z
      subst e
      exact ⟨by show upd H c.l _ c.t = _; rw [upd_ne (ne_of (h.each c hm).1 (h.each c hm).2 (by intro y; cases y))]; exact (h.each c hm).1, upd_same⟩
  · rw [List.map_append]
    exact nd
/-- one of written ints -/
theorem pickI (ms : List Int) {k : Int} (h0 : 0 ≤ k) (h1 : k < (ms.length : Int)) : ∃ n, n ∈ ms ∧ atI (ms.map V.int) k = some (.int n) := by
  obtain ⟨j, rfl⟩ : ∃ j : Nat, k = (j : Int) := ⟨k.toNat, by omega⟩
  have hk : j < ms.length := by omega
  exact ⟨ms[j], List.getElem_mem hk, atI_nat (by rw [List.getElem?_map, List.getElem?_eq_getElem hk]; rfl)⟩
theorem belt_snoc {xs : List Int} {n : Int} (h : Belt xs) (k : 0 ≤ n ∧ n ≤ 255) : Belt (xs ++ [n]) := belt_append h fun x hx => by
  have e : x = n := by simpa using hx
  subst e; exact k
/-! ### what is told -/
def evD : Ev → D
  | .box l ns s p => .tup [.str "box", .int l, intsD ns, .int s, .int p]
  | .stray p => .tup [.str "fault", .str "stray", .int p]
  | .escape p => .tup [.str "fault", .str "escape", .int p]
  | .great p => .tup [.str "fault", .str "great", .int p]
  | .check p => .tup [.str "fault", .str "check", .int p]
  | .cut p => .tup [.str "fault", .str "cut", .int p]
  | .fin p => .tup [.str "fault", .str "end", .int p]
def evsD (es : List Ev) : D := .lst (es.map evD)
end BB
namespace BB
open PySem L2
/-! ### a list that is being made -/
def Off (es : List Addr) (H : Hp) : Hp := fun a => if a ∈ es then none else H a
theorem off_get {es : List Addr} {H : Hp} {a : Addr} (h : a ∉ es) : Off es H a = H a := if_neg h
theorem off_sub {es : List Addr} {H : Hp} : Same (Off es H) H := fun a o h => by
  unfold Off at h
  split at h
  · cases h
  · exact h
theorem off_same {es : List Addr} {H H' : Hp} (s : Same H H') : Same (Off es H) (Off es H') := fun a o h => by
  unfold Off at h ⊢
  split at h
  · cases h
  · rename_i hn
    rw [if_neg hn]; exact s a o h
theorem off_upd {es : List Addr} {H : Hp} {a : Addr} {o : HO} (h : a ∈ es) : Off es (upd H a o) = Off es H := by
  funext b
  unfold Off
  by_cases hb : b ∈ es
  · rw [if_pos hb, if_pos hb]
  · rw [if_neg hb, if_neg hb, upd_ne (fun z => hb (by rw [z]; exact h))]
theorem All2.snoc {α β : Type} {R : α → β → Prop} : ∀ {xs : List α} {ys : List β} {a : α} {b : β}, All2 R xs ys → R a b → All2 R (xs ++ [a]) (ys ++ [b]) := by
  intro xs ys a b h k
  induction h with
  | nil => exact .cons k .nil
  | cons r _ ih => exact .cons r ih
theorem All2.append {α β : Type} {R : α → β → Prop} : ∀ {xs : List α} {ys : List β} {xs' : List α} {ys' : List β}, All2 R xs ys → All2 R xs' ys' → All2 R (xs ++ xs') (ys ++ ys') := by
  intro xs ys xs' ys' h k
  induction h with
  | nil => exact k
  | cons r _ ih => exact .cons r ih
theorem All2.imp {α β : Type} {R R' : α → β → Prop} (hi : ∀ a b, R a b → R' a b) : ∀ {xs : List α} {ys : List β}, All2 R xs ys → All2 R' xs ys := by
  intro xs ys h
  induction h with
  | nil => exact .nil
  | cons r _ ih => exact .cons (hi _ _ r) ih
theorem reps_mono {H H' : Hp} (s : Same H H') {vs : List V} {ds : List D} (h : All2 (Rep H) vs ds) : All2 (Rep H') vs ds := h.imp fun _ _ r => r.mono s
theorem rep_list_all {H : Hp} {v : V} {ds : List D} (r : Rep H v (.lst ds)) : ∃ a vs, v = .ref a ∧ H a = some (.lst vs) ∧ All2 (Rep H) vs ds := by
  obtain ⟨a, vs, rfl, h, hl, hs⟩ := rep_list_inv r
  refine ⟨a, vs, rfl, h, ?_⟩
  clear r h
  induction vs generalizing ds with
  | nil =>
    cases ds with
    | nil => exact .nil
    | cons d r => cases hl
  | cons v vs ih =>
    cases ds with
    | nil => cases hl
    | cons d r => exact .cons (hs 0 v d rfl rfl) (ih (by simpa using hl) fun i v d h1 h2 => hs (i + 1) v d h1 h2)
/-! ### slices of ints -/
theorem sIx_neg2 {n m : Nat} (h : 2 ≤ n) : HT.sIx n m (some (-2)) = n - 2 := by
  unfold HT.sIx
  simp only []
  first
    | (split <;> omega)
    | omega
theorem cut_last2 {raw : List Int} (h : 2 ≤ raw.length) : cutI raw (some (-2)) none = raw.drop (raw.length - 2) := by
  unfold cutI
  rw [sIx_neg2 h]
  show ((raw.drop (raw.length - 2)).take (raw.length - (raw.length - 2))) = _
  rw [List.take_of_length_le (by rw [List.length_drop]; omega)]
theorem cut_but2 {raw : List Int} (h : 2 ≤ raw.length) : cutI raw none (some (-2)) = raw.take (raw.length - 2) := by
  unfold cutI
  rw [sIx_neg2 h]
  show ((raw.drop 0).take (raw.length - 2 - 0)) = _
  rw [List.drop_zero]; rfl
end BB
namespace BB
open PySem L2
theorem same_off_new {H : Hp} {e : Addr} {o : HO} (h : H e = none) : Same H (Off [e] (upd H e o)) := fun a u q => by
  have n : a ≠ e := ne_of_none q h
  rw [off_get (by simpa using n), upd_ne n]; exact q
theorem off_new1 {H : Hp} {e t : Addr} {o x : HO} (h : H e = some x) (n : H t = none) : Off [e] (upd H t o) t = some o := by
  have ne : t ≠ e := fun z => by rw [z, h] at n; cases n
  rw [off_get (by simpa using ne), upd_same]
theorem getD_at {ns : List Int} {i : Nat} {d : Int} (h : i < ns.length) : ns[i]? = some (ns.getD i d) := by
  rw [List.getElem?_eq_getElem h, List.getD_eq_getElem?_getD, List.getElem?_eq_getElem h]; rfl
theorem rep_fault {H : Hp} {t : Addr} {x y : Str} {p : Int} (h : H t = some (.tup [.str x, .str y, .int p])) : Rep H (.ref t) (.tup [.str x, .str y, .int p]) :=
  rep_tup h (.cons (.str _) (.cons (.str _) (.cons (.int _) .nil)))
theorem ifT {b : Bool} {A B : Prop} (h : b = true) (x : A) : if b = true then A else B := by rw [if_pos h]; exact x
theorem ifF {b : Bool} {A B : Prop} (h : b = false) (x : B) : if b = true then A else B := by rw [if_neg (by rw [h]; exact Bool.false_ne_true)]; exact x
/-- the events of a list that is being made -/
structure EvsAt (H : Hp) (e : Addr) (H2 : Hp) (evs : List Ev) (vs : List V) : Prop where
  s : Same H H2
  n : H e = none
  a_ : H2 e = some (.lst vs)
  v : All2 (Rep (Off [e] H2)) vs (evs.map evD)
theorem EvsAt.len {H : Hp} {e : Addr} {H2 : Hp} {evs : List Ev} {vs : List V} (h : EvsAt H e H2 evs vs) : vs.length = evs.length := by rw [h.v.length_eq, List.length_map]
end BB
namespace BB
open PySem L2
/-! ### what the program promises -/
def piecesD (ps : List (List Int)) : D := .lst (ps.map intsD)
/-- told_by(pieces, most) -/
def spToldBy (C : Addr) : Sp := fun vs H Q E => ∃ (v : V) (ps : List (List Int)) (most : Int), vs = [v, .int most] ∧ Rep H v (piecesD ps) ∧ ps.flatten.length ≤ 50000 ∧ ps.length ≤ 50000 ∧
  (good ps.flatten = true → ∀ u H', Same H H' → Rep H' u (evsD (told most ps.flatten)) → Q u H') ∧ (good ps.flatten = false → ∀ H', Same H H' → E (.ref C) none H')
theorem good_of_belt {xs : List Int} (h : Belt xs) : good xs = true := by
  unfold good
  rw [List.all_eq_true]
  intro x hx
  obtain ⟨h1, h2⟩ := h x hx
  unfold okN
  rw [decide_eq_true h1, decide_eq_true h2]; rfl
end BB
namespace BB
open PySem L2
/-- a list that is being made -/
structure LsAt (H : Hp) (e : Addr) (H2 : Hp) (ds : List D) (vs : List V) : Prop where
  s : Same H H2
  n : H e = none
  a_ : H2 e = some (.lst vs)
  v : All2 (Rep (Off [e] H2)) vs ds
theorem LsAt.mono {H : Hp} {e : Addr} {H2 H3 : Hp} {ds : List D} {vs : List V} (h : LsAt H e H2 ds vs) (s : Same H2 H3) : LsAt H e H3 ds vs := ⟨h.s.trans s, h.n, s _ _ h.a_, reps_mono (off_same s) h.v⟩
theorem LsAt.len {H : Hp} {e : Addr} {H2 : Hp} {ds : List D} {vs : List V} (h : LsAt H e H2 ds vs) : vs.length = ds.length := h.v.length_eq
theorem LsAt.push {H : Hp} {e : Addr} {H2 : Hp} {ds : List D} {vs : List V} {u : V} {d : D} (h : LsAt H e H2 ds vs) (r : Rep (Off [e] H2) u d) : LsAt H e (upd H2 e (.lst (vs ++ [u]))) (ds ++ [d]) (vs ++ [u]) :=
  ⟨same_upd h.s h.n _, h.n, upd_same, by rw [off_upd (by simp)]; exact h.v.snoc r⟩
theorem LsAt.rep {H : Hp} {e : Addr} {H2 : Hp} {ds : List D} {vs : List V} (h : LsAt H e H2 ds vs) : Rep H2 (.ref e) (.lst ds) := rep_lst h.a_ (reps_mono off_sub h.v)
theorem LsAt.new {H H1 : Hp} {e : Addr} (s : Same H H1) (h : H1 e = none) : LsAt H e (upd H1 e (.lst [])) [] [] := ⟨s.trans (same_new h _), s.free h, upd_same, .nil⟩
theorem cut_rest (xs : List Int) (f : Nat) : xs.take f ++ cutI xs (some (f : Int)) none = xs := by
  unfold cutI
  rw [HT.sIx_nat]
  show xs.take f ++ (xs.drop (min f xs.length)).take (xs.length - min f xs.length) = xs
  have e : (xs.drop (min f xs.length)).take (xs.length - min f xs.length) = xs.drop (min f xs.length) := List.take_of_length_le (by rw [List.length_drop]; exact Nat.le_refl _)
  rw [e]
  by_cases h : f ≤ xs.length
  · rw [Nat.min_eq_left h, List.take_append_drop]
  · rw [List.drop_eq_nil_of_le (by omega), List.append_nil, List.take_of_length_le (by omega)]
end BB
namespace BB
open PySem L2
end BB
namespace BB
open PySem L2
end BB

set_option Elab.async false
set_option linter.all false
set_option maxRecDepth 100000
set_option maxHeartbeats 4000000
/-! A Belt as it lies in the heap. -/
namespace BB
open PySem L2
/-- a name of the module that holds a text -/
def StrC (mg : Str → Option Value) (x : Str) (z : Str) : Prop := ∃ t, mg x = some (.str z t)
theorem pcs {X : Cx} {x z : Str} {pos : Pos} (h : StrC X.mg x z) (hg : Gl X x) (hd : (x == ("__debug__" : Str)) = false := by decide) : PE X (.Name x pos) (tC (.str z)) := by
  obtain ⟨t, e⟩ := h
  exact pe_glob hg e ⟨t, rfl⟩ hd
/-- the objects that are new to H, but for es -/
def Nw (H : Hp) (es : List Addr) (H' : Hp) : Hp := fun b => if b ∈ es ∨ (H b).isSome = true then none else H' b
theorem nw_get {H H' : Hp} {es : List Addr} {b : Addr} (h1 : b ∉ es) (h2 : H b = none) : Nw H es H' b = H' b := by
  unfold Nw
  rw [if_neg]
  rintro (z | z)
  · exact h1 z
  · rw [h2] at z; cases z
theorem nw_inv {H H' : Hp} {es : List Addr} {b : Addr} {o : HO} (h : Nw H es H' b = some o) : b ∉ es ∧ H b = none ∧ H' b = some o := by
  unfold Nw at h
  split at h
  · cases h
  · rename_i n
    refine ⟨fun z => n (.inl z), ?_, h⟩
    cases e : H b with
    | none => rfl
    | some o => exact absurd (.inr (by rw [e]; rfl)) n
theorem nw_to {H H' H0 H3 : Hp} {es es' : List Addr} (h : ∀ b o, b ∉ es → H b = none → H' b = some o → b ∉ es' ∧ H0 b = none ∧ H3 b = some o) : Same (Nw H es H') (Nw H0 es' H3) := fun b o e => by
  obtain ⟨h1, h2, h3⟩ := nw_inv e
  obtain ⟨k1, k2, k3⟩ := h b o h1 h2 h3
  rw [nw_get k1 k2]; exact k3
theorem ne_isSome {H : Hp} {a b : Addr} {o : HO} (h : H a = some o) (n : H b = none) : b ≠ a := fun z => by rw [z, h] at n; cases n
/-! ### the attributes -/
def bf (pl : Int) (ph : Str) (st : Int) (ia : Addr) : List (Str × V) := [("place", .int pl), ("phase", .str ph), ("start", .int st), ("inside", .ref ia)]
theorem n12 : ¬ (("place" : Str) = "phase") := by decide +kernel
theorem n13 : ¬ (("place" : Str) = "start") := by decide +kernel
theorem n14 : ¬ (("place" : Str) = "inside") := by decide +kernel
theorem n23 : ¬ (("phase" : Str) = "start") := by decide +kernel
theorem n24 : ¬ (("phase" : Str) = "inside") := by decide +kernel
theorem n34 : ¬ (("start" : Str) = "inside") := by decide +kernel
theorem look_ne {f g : Str} {v : V} {r : List (Str × V)} (h : ¬ g = f) : List.lookup g ((f, v) :: r) = List.lookup g r := by
  have e := lookup_putF f g v []
  rw [if_neg h] at e
  have e2 : List.lookup g ((f, v) :: r) = (match g == f with | true => some v | false => List.lookup g r) := rfl
  rw [e2]
  have e3 : List.lookup g [(f, v)] = (match g == f with | true => some v | false => none) := rfl
  have e4 : (putF f v [] : List (Str × V)) = [(f, v)] := rfl
  rw [e4, e3] at e
  cases q : g == f with
  | true => rw [q] at e; cases e
  | false => rfl
theorem look_eq {f : Str} {v : V} {r : List (Str × V)} : List.lookup f ((f, v) :: r) = some v := by
  have e := lookup_putF f f v []
  rw [if_pos rfl] at e
  have e3 : List.lookup f [(f, v)] = (match f == f with | true => some v | false => none) := rfl
  have e4 : (putF f v [] : List (Str × V)) = [(f, v)] := rfl
  rw [e4, e3] at e
  show (match f == f with | true => some v | false => List.lookup f r) = some v
  cases q : f == f with
  | true => rfl
  | false => rw [q] at e; cases e
section
variable {pl st : Int} {ph : Str} {ia : Addr}
theorem bf_place : (bf pl ph st ia).lookup ("place" : Str) = some (.int pl) := look_eq
theorem bf_phase : (bf pl ph st ia).lookup ("phase" : Str) = some (.str ph) := by unfold bf; rw [look_ne (Ne.symm n12), look_eq]
theorem bf_start : (bf pl ph st ia).lookup ("start" : Str) = some (.int st) := by unfold bf; rw [look_ne (Ne.symm n13), look_ne (Ne.symm n23), look_eq]
theorem bf_inside : (bf pl ph st ia).lookup ("inside" : Str) = some (.ref ia) := by unfold bf; rw [look_ne (Ne.symm n14), look_ne (Ne.symm n24), look_ne (Ne.symm n34), look_eq]
theorem bf_no {m : Str} (h1 : ¬ m = "place") (h2 : ¬ m = "phase") (h3 : ¬ m = "start") (h4 : ¬ m = "inside") : (bf pl ph st ia).lookup m = none := by
  unfold bf; rw [look_ne h1, look_ne h2, look_ne h3, look_ne h4]; rfl
theorem put_ne {f g : Str} {v x : V} {r : List (Str × V)} (h : ¬ g = f) : putF f v ((g, x) :: r) = (g, x) :: putF f v r := if_neg h
theorem put_eq {f : Str} {v x : V} {r : List (Str × V)} : putF f v ((f, x) :: r) = (f, v) :: r := if_pos rfl
theorem bf_set_place {q : Int} : putF "place" (.int q) (bf pl ph st ia) = bf q ph st ia := put_eq
theorem bf_set_phase {q : Str} : putF "phase" (.str q) (bf pl ph st ia) = bf pl q st ia := by unfold bf; rw [put_ne n12, put_eq]
theorem bf_set_start {q : Int} : putF "start" (.int q) (bf pl ph st ia) = bf pl ph q ia := by unfold bf; rw [put_ne n13, put_ne n23, put_eq]
theorem bf_set_inside {q : Addr} : putF "inside" (.ref q) (bf pl ph st ia) = bf pl ph st q := by unfold bf; rw [put_ne n14, put_ne n24, put_ne n34, put_eq]
theorem bf_new : putF "inside" (.ref ia) (putF "start" (.int st) (putF "phase" (.str ph) (putF "place" (.int pl) []))) = bf pl ph st ia := by
  have e1 : (putF "place" (.int pl) [] : List (Str × V)) = [(("place" : Str), V.int pl)] := rfl
  rw [e1, put_ne n12]
  have e2 : (putF "phase" (.str ph) [] : List (Str × V)) = [(("phase" : Str), V.str ph)] := rfl
  rw [e2, put_ne n13, put_ne n23]
  have e3 : (putF "start" (.int st) [] : List (Str × V)) = [(("start" : Str), V.int st)] := rfl
  rw [e3, put_ne n14, put_ne n24, put_ne n34]
  rfl
theorem bf_len : (bf pl ph st ia).length < 1000 := by show 4 < 1000; decide
end
def phOf : Sm → Str
  | .rest => "at rest"
  | .skip => "passing over"
  | .opn _ false _ => "in a box"
  | .opn _ true _ => "in a box, behind an escape"
/-- a Belt at x: its dict at dx, what has come of its box at ia -/
structure BeltAt (CB : Addr) (H : Hp) (x dx ia : Addr) (pl : Int) (m : Sm) (st : Int) (raw : List Int) (N : Nat) : Prop where
  ob : H x = some (.ins CB dx (bf pl (phOf m) st ia))
  ls : H ia = some (.lst (raw.map V.int))
  op : ∀ r e s, m = .opn r e s → raw = r ∧ st = s
  gd : good raw = true
  ln : raw.length ≤ N
theorem BeltAt.ne {CB : Addr} {H : Hp} {x dx ia : Addr} {pl : Int} {m : Sm} {st : Int} {raw : List Int} {N : Nat} (h : BeltAt CB H x dx ia pl m st raw N) : x ≠ ia := ne_of h.ob h.ls (by intro z; cases z)
theorem BeltAt.mono {CB : Addr} {H H' : Hp} {x dx ia : Addr} {pl : Int} {m : Sm} {st : Int} {raw : List Int} {N : Nat} (h : BeltAt CB H x dx ia pl m st raw N) (s : Same H H') : BeltAt CB H' x dx ia pl m st raw N := ⟨s _ _ h.ob, s _ _ h.ls, h.op, h.gd, h.ln⟩
theorem BeltAt.up {CB : Addr} {H : Hp} {x dx ia : Addr} {pl : Int} {m : Sm} {st : Int} {raw : List Int} {N M : Nat} (h : BeltAt CB H x dx ia pl m st raw N) (l : N ≤ M) : BeltAt CB H x dx ia pl m st raw M := ⟨h.ob, h.ls, h.op, h.gd, Nat.le_trans h.ln l⟩
/-- a state: a Belt of which no more is known -/
def StAt (CB : Addr) (H : Hp) (x : Addr) (pl : Int) (m : Sm) (N : Nat) : Prop := ∃ dx ia st raw, BeltAt CB H x dx ia pl m st raw N
theorem StAt.mono {CB : Addr} {H H' : Hp} {x : Addr} {pl : Int} {m : Sm} {N : Nat} (h : StAt CB H x pl m N) (s : Same H H') : StAt CB H' x pl m N := by
  obtain ⟨dx, ia, st, raw, b⟩ := h
  exact ⟨dx, ia, st, raw, b.mono s⟩
/-- all but the Belt and its list stays -/
def Keeps (x ia : Addr) (H H' : Hp) : Prop := ∀ b o, b ≠ x → b ≠ ia → H b = some o → H' b = some o
/-- a new list at l, of data in new objects -/
def Gives (H H' : Hp) (es : List Addr) (l : Addr) (ds : List D) : Prop := H l = none ∧ ∃ ws, H' l = some (.lst ws) ∧ All2 (Rep (Nw H es H')) ws ds
/-- what a method of a Belt promises -/
def MQ (CB x dx ia : Addr) (H : Hp) (pl : Int) (m' : Sm) (N' : Nat) (evs : List Ev) (Q : VK) : Prop :=
  ∀ (l : Addr) (H' : Hp) (ia' : Addr) (st' : Int) (raw' : List Int), BeltAt CB H' x dx ia' pl m' st' raw' N' → Keeps x ia H H' → (ia' = ia ∨ H ia' = none) → Gives H H' [ia'] l (evs.map evD) → Q (.ref l) H'
/-- the Belt or its list has been changed ahead -/
theorem MQ.from {CB x dx ia : Addr} {H H1 : Hp} {pl : Int} {m' : Sm} {N' : Nat} {evs : List Ev} {Q : VK} (q : MQ CB x dx ia H pl m' N' evs Q) (hx : H x ≠ none) (hi : H ia ≠ none) (hx1 : H1 x ≠ none) (hi1 : H1 ia ≠ none) (h : ∀ b, b ≠ x → b ≠ ia → H1 b = H b) : MQ CB x dx ia H1 pl m' N' evs Q := by
  have nn : ∀ b, H1 b = none → H b = none := fun b hb => by
    have n1 : b ≠ x := fun z => hx1 (z ▸ hb)
    have n2 : b ≠ ia := fun z => hi1 (z ▸ hb)
    rw [← h b n1 n2]; exact hb
  intro l H' ia' st' raw' hb kp hia g
  refine q l H' ia' st' raw' hb (fun b o n1 n2 e => kp b o n1 n2 (by rw [h b n1 n2]; exact e)) (hia.imp id (nn _)) ?_
  obtain ⟨g1, ws, g2, g3⟩ := g
  refine ⟨nn _ g1, ws, g2, reps_mono (nw_to fun b o e1 e2 e3 => ⟨e1, nn _ e2, e3⟩) g3⟩
theorem MQ.up {CB x dx ia : Addr} {H : Hp} {pl : Int} {m' : Sm} {N M : Nat} {evs : List Ev} {Q : VK} (q : MQ CB x dx ia H pl m' M evs Q) (l : N ≤ M) : MQ CB x dx ia H pl m' N evs Q := fun l' H' ia' st' raw' hb kp hia g => q l' H' ia' st' raw' (hb.up l) kp hia g
/-- a fault is told -/
theorem gives_fault {H H' : Hp} {ia t l : Addr} {wd : Str} {p : Int} {ev : Ev} (he : evD ev = .tup [.str "fault", .str wd, .int p]) (ht : H t = none) (hl : H l = none) (ni : t ≠ ia) (h1 : H' t = some (.tup [.str "fault", .str wd, .int p])) (h2 : H' l = some (.lst [.ref t])) : Gives H H' [ia] l ([ev].map evD) := by
  refine ⟨hl, _, h2, ?_⟩
  show All2 _ [V.ref t] [evD ev]
  rw [he]
  exact .cons (rep_fault (by rw [nw_get (by simpa using ni) ht]; exact h1)) .nil
theorem gives_none {H H' : Hp} {es : List Addr} {l : Addr} (hl : H l = none) (h2 : H' l = some (.lst [])) : Gives H H' es l (([] : List Ev).map evD) := ⟨hl, _, h2, .nil⟩
/-! ### the reading keeps to the greatest length -/
def Fits (most : Int) : Sm → Prop
  | .opn raw _ _ => 2 ≤ raw.length → lenOf raw ≤ most
  | _ => True
theorem mr_great {most : Int} {raw : List Int} {s p : Int} (h : 1 < raw.length) (h2 : most < lenOf raw) : more most raw s p = (.skip, [.great p]) := if_pos ⟨h, h2⟩
theorem mr_full {most : Int} {raw : List Int} {s p : Int} (h : 1 < raw.length) (h2 : ¬ (1 < raw.length ∧ most < lenOf raw)) (h3 : (raw.length : Int) = lenOf raw + 5) :
    more most raw s p = (.rest, if raw.drop (raw.length - 2) = chk (raw.take (raw.length - 2)) then [.box (raw.getD 2 0) ((raw.take (raw.length - 2)).drop 3) s p] else [.check p]) := by
  unfold more; rw [if_neg h2, if_pos ⟨h, h3⟩]
theorem mr_open {most : Int} {raw : List Int} {s p : Int} (h2 : ¬ (1 < raw.length ∧ most < lenOf raw)) (h3 : ¬ (1 < raw.length ∧ (raw.length : Int) = lenOf raw + 5)) : more most raw s p = (.opn raw false s, []) := by
  unfold more; rw [if_neg h2, if_neg h3]
theorem fits_more {most : Int} {raw : List Int} {s p : Int} : Fits most (more most raw s p).1 := by
  by_cases h2 : 1 < raw.length ∧ most < lenOf raw
  · rw [mr_great h2.1 h2.2]; exact True.intro
  · by_cases h3 : 1 < raw.length ∧ (raw.length : Int) = lenOf raw + 5
    · rw [mr_full h3.1 h2 h3.2]; exact True.intro
    · rw [mr_open h2 h3]
      intro h
      have : ¬ most < lenOf raw := fun z => h2 ⟨h, z⟩
      omega
theorem fits_step {most : Int} {m : Sm} {p n : Int} (h : Fits most m) : Fits most (step most m p n).1 := by
  unfold step
  by_cases e : n = 126
  · rw [if_pos e]; intro z; exact absurd z (by show ¬ 2 ≤ 0; decide)
  · rw [if_neg e]
    cases m with
    | rest => exact True.intro
    | skip => exact True.intro
    | opn raw b s =>
      cases b with
      | false =>
        show Fits most (if n = 125 then (Sm.opn raw true s, ([] : List Ev)) else more most (raw ++ [n]) s p).1
        by_cases e1 : n = 125
        · rw [if_pos e1]; exact h
        · rw [if_neg e1]; exact fits_more
      | true =>
        show Fits most (if n = 1 ∨ n = 2 then more most (raw ++ [124 + n]) s p else (Sm.skip, [Ev.escape p])).1
        by_cases e1 : n = 1 ∨ n = 2
        · rw [if_pos e1]; exact fits_more
        · rw [if_neg e1]; exact True.intro
theorem fits_run {most : Int} : ∀ (xs : List Int) {m : Sm} {p : Int}, Fits most m → Fits most (run most m p xs).1
  | [], _, _, h => h
  | x :: r, _, _, h => fits_run r (fits_step h)
theorem run_snoc (most : Int) (xs : List Int) (st : Sm) (p n : Int) : run most st p (xs ++ [n]) = ((step most (run most st p xs).1 (p + xs.length) n).1, (run most st p xs).2 ++ (step most (run most st p xs).1 (p + xs.length) n).2) := by
  rw [run_append]
  show ((step most _ _ n).1, _ ++ ((step most _ _ n).2 ++ [])) = _
  rw [List.append_nil]
theorem more_len (most : Int) (raw : List Int) (s p : Int) : (more most raw s p).2.length ≤ 1 := by
  unfold more
  split
  · exact Nat.le_refl _
  · split
    · dsimp only
      split <;> exact Nat.le_refl _
    · exact Nat.zero_le _
theorem step_len (most : Int) (m : Sm) (p n : Int) : (step most m p n).2.length ≤ 1 := by
  unfold step
  split
  · dsimp only
    split
    · exact Nat.le_refl _
    · exact Nat.zero_le _
  · cases m with
    | rest => exact Nat.le_refl _
    | skip => exact Nat.zero_le _
    | opn raw b s =>
      cases b with
      | false =>
        show (if n = 125 then (Sm.opn raw true s, ([] : List Ev)) else more most (raw ++ [n]) s p).2.length ≤ 1
        split
        · exact Nat.zero_le _
        · exact more_len _ _ _ _
      | true =>
        show (if n = 1 ∨ n = 2 then more most (raw ++ [124 + n]) s p else (Sm.skip, [Ev.escape p])).2.length ≤ 1
        split
        · exact more_len _ _ _ _
        · exact Nat.le_refl _
theorem run_len (most : Int) : ∀ (xs : List Int) (m : Sm) (p : Int), (run most m p xs).2.length ≤ xs.length
  | [], _, _ => Nat.le_refl _
  | x :: r, m, p => by
    show ((step most m p x).2 ++ (run most (step most m p x).1 (p + 1) r).2).length ≤ r.length + 1
    rw [List.length_append]
    have h1 := step_len most m p x
    have h2 := run_len most r (step most m p x).1 (p + 1)
    omega
theorem lenOf_snoc {raw : List Int} {n : Int} (h : 2 ≤ raw.length) : lenOf (raw ++ [n]) = lenOf raw := by
  unfold lenOf
  rw [List.getD_eq_getElem?_getD, List.getD_eq_getElem?_getD, List.getD_eq_getElem?_getD, List.getD_eq_getElem?_getD, List.getElem?_append_left (by omega), List.getElem?_append_left (by omega)]
theorem good_take {xs : List Int} {k : Nat} (h : good xs = true) : good (xs.take k) = true := by
  unfold good at h ⊢
  exact List.all_eq_true.mpr fun x hx => List.all_eq_true.mp h x (List.mem_of_mem_take hx)
theorem good_at {xs : List Int} {n : Int} {i : Nat} (h : good xs = true) (e : xs[i]? = some n) : okN n = true := by
  unfold good at h
  exact List.all_eq_true.mp h n (List.mem_of_getElem? e)
theorem okN_bd {n : Int} (h : okN n = true) : 0 ≤ n ∧ n ≤ 255 := by
  unfold okN at h
  rw [Bool.and_eq_true] at h
  exact ⟨of_decide_eq_true h.1, of_decide_eq_true h.2⟩
theorem cut_from {xs : List Int} {k : Nat} : cutI xs (some (k : Int)) none = xs.drop k := by
  have e := cut_rest xs k
  have e2 : xs.take k ++ cutI xs (some (k : Int)) none = xs.take k ++ xs.drop k := by rw [List.take_append_drop]; exact e
  exact List.append_cancel_left e2
theorem ph_rest (m : Sm) : decide (V.str (phOf m) = V.str "at rest") = (match m with | .rest => true | _ => false) := by
  cases m with
  | rest => show decide (V.str "at rest" = V.str "at rest") = true; decide +kernel
  | skip => show decide (V.str "passing over" = V.str "at rest") = false; decide +kernel
  | opn r e s =>
    cases e
    · show decide (V.str "in a box" = V.str "at rest") = false; decide +kernel
    · show decide (V.str "in a box, behind an escape" = V.str "at rest") = false; decide +kernel
theorem ph_skip (m : Sm) : decide (V.str (phOf m) = V.str "passing over") = (match m with | .skip => true | _ => false) := by
  cases m with
  | rest => show decide (V.str "at rest" = V.str "passing over") = false; decide +kernel
  | skip => show decide (V.str "passing over" = V.str "passing over") = true; decide +kernel
  | opn r e s =>
    cases e
    · show decide (V.str "in a box" = V.str "passing over") = false; decide +kernel
    · show decide (V.str "in a box, behind an escape" = V.str "passing over") = false; decide +kernel
theorem ph_in (m : Sm) : decide (V.str (phOf m) = V.str "in a box") = (match m with | .opn _ false _ => true | _ => false) := by
  cases m with
  | rest => show decide (V.str "at rest" = V.str "in a box") = false; decide +kernel
  | skip => show decide (V.str "passing over" = V.str "in a box") = false; decide +kernel
  | opn r e s =>
    cases e
    · show decide (V.str "in a box" = V.str "in a box") = true; decide +kernel
    · show decide (V.str "in a box, behind an escape" = V.str "in a box") = false; decide +kernel
theorem ph_esc (m : Sm) : decide (V.str (phOf m) = V.str "in a box, behind an escape") = (match m with | .opn _ true _ => true | _ => false) := by
  cases m with
  | rest => show decide (V.str "at rest" = V.str "in a box, behind an escape") = false; decide +kernel
  | skip => show decide (V.str "passing over" = V.str "in a box, behind an escape") = false; decide +kernel
  | opn r e s =>
    cases e
    · show decide (V.str "in a box" = V.str "in a box, behind an escape") = false; decide +kernel
    · show decide (V.str "in a box, behind an escape" = V.str "in a box, behind an escape") = true; decide +kernel
theorem few0 : ([] : List (Str × V)).length ≤ 0 := Nat.le_refl _
theorem few {fs : List (Str × V)} {f : Str} {v : V} {k : Nat} (h : fs.length ≤ k) : (putF f v fs).length ≤ k + 1 := Nat.le_trans (length_putF f v fs) (Nat.succ_le_succ h)
theorem few_lt {fs : List (Str × V)} {k : Nat} (h : fs.length ≤ k) (hk : k < 1000) : fs.length < 1000 := Nat.lt_of_le_of_lt h hk
/-! ### promises -/
def spLen2 : Sp := fun vs H Q _ => ∃ a b : Int, vs = [.int a, .int b] ∧ (0 ≤ a ∧ a ≤ 100000) ∧ Q (.int (a * 256 + b)) H
def spMean : Sp := fun vs H Q _ => ∃ n : Int, vs = [.int n] ∧ (n = 1 → Q (.int 125) H) ∧ (n = 2 → Q (.int 126) H) ∧ (n ≠ 1 → n ≠ 2 → Q .non H)
def spPlace : Sp := fun vs H Q _ => ∃ (a : Addr) (ns : List Int), vs = [.ref a] ∧ H a = some (.lst (ns.map V.int)) ∧ ns.length ≤ 100000 ∧
  (good ns = true → ∀ H', Same H H' → Q .non H') ∧ (good ns = false → ∀ (i : Nat) H', i < ns.length → Same H H' → Q (.int i) H')
def spInit (CB : Addr) : Sp := fun vs H Q _ => ∃ (x dx : Addr) (pl : Int) (ph : Str) (st : Int) (ia : Addr), vs = [.ref x, .int pl, .str ph, .int st, .ref ia] ∧ H x = some (.ins CB dx []) ∧ Q .non (upd H x (.ins CB dx (bf pl ph st ia)))
def spTwin (CB : Addr) : Sp := fun vs H Q _ => ∃ (x dx ia : Addr) (pl : Int) (m : Sm) (st : Int) (raw : List Int) (N : Nat), vs = [.ref x] ∧ BeltAt CB H x dx ia pl m st raw N ∧
  ∀ y dy ja H', Same H H' → H y = none → H ja = none → BeltAt CB H' y dy ja pl m st raw N → Q (.ref y) H'
def spUnf (CB : Addr) : Sp := fun vs H Q _ => ∃ (x dx ia : Addr) (pl : Int) (m : Sm) (st : Int), vs = [.ref x] ∧ H x = some (.ins CB dx (bf pl (phOf m) st ia)) ∧ Q (.bl (isOpn m)) H
def spFault (CB : Addr) : Sp := fun vs H Q _ => ∃ (x dx ia : Addr) (pl : Int) (ph : Str) (st : Int) (wd : Str), vs = [.ref x, .str wd] ∧ H x = some (.ins CB dx (bf pl ph st ia)) ∧
  ∀ t l, H t = none → (upd H t (.tup [.str "fault", .str wd, .int pl])) l = none → Q (.ref l) (upd (upd H t (.tup [.str "fault", .str wd, .int pl])) l (.lst [.ref t]))
def spTellUnf (CB : Addr) : Sp := fun vs H Q _ => ∃ (x dx ia : Addr) (pl : Int) (m : Sm) (st : Int) (wd : Str) (ev : Ev), vs = [.ref x, .str wd] ∧ H x = some (.ins CB dx (bf pl (phOf m) st ia)) ∧ evD ev = .tup [.str "fault", .str wd, .int pl] ∧
  ∀ l H', Same H H' → Gives H H' [] l ((if isOpn m then [ev] else []).map evD) → Q (.ref l) H'
def spPass (CB : Addr) : Sp := fun vs H Q _ => ∃ (x dx ia : Addr) (pl : Int) (m : Sm) (st : Int) (raw : List Int) (N : Nat) (wd : Str) (ev : Ev), vs = [.ref x, .str wd] ∧ BeltAt CB H x dx ia pl m st raw N ∧ evD ev = .tup [.str "fault", .str wd, .int pl] ∧ MQ CB x dx ia H pl .skip N [ev] Q
def spBegin (CB : Addr) : Sp := fun vs H Q _ => ∃ (x dx ia : Addr) (pl : Int) (m : Sm) (st : Int) (raw : List Int) (N : Nat), vs = [.ref x] ∧ BeltAt CB H x dx ia pl m st raw N ∧ MQ CB x dx ia H pl (.opn [] false pl) N (if isOpn m then [.cut pl] else []) Q
def spEnd (CB : Addr) : Sp := fun vs H Q _ => ∃ (x dx ia : Addr) (pl st : Int) (raw : List Int) (N : Nat), vs = [.ref x] ∧ BeltAt CB H x dx ia pl (.opn raw false st) st raw N ∧ N ≤ 100000 ∧ 5 ≤ raw.length ∧
  MQ CB x dx ia H pl .rest N (if raw.drop (raw.length - 2) = chk (raw.take (raw.length - 2)) then [.box (raw.getD 2 0) ((raw.take (raw.length - 2)).drop 3) st pl] else [.check pl]) Q
def spPut (CB : Addr) : Sp := fun vs H Q _ => ∃ (x dx ia : Addr) (pl st : Int) (raw : List Int) (N : Nat) (n most : Int), vs = [.ref x, .int n, .int most] ∧ BeltAt CB H x dx ia pl (.opn raw false st) st raw N ∧ okN n = true ∧ N < 100000 ∧ (2 ≤ raw.length → lenOf raw ≤ most) ∧
  MQ CB x dx ia H pl (more most (raw ++ [n]) st pl).1 (N + 1) (more most (raw ++ [n]) st pl).2 Q
def spPutE (CB : Addr) : Sp := fun vs H Q _ => ∃ (x dx ia : Addr) (pl st : Int) (raw : List Int) (N : Nat) (n most : Int), vs = [.ref x, .int n, .int most] ∧ BeltAt CB H x dx ia pl (.opn raw true st) st raw N ∧ okN n = true ∧ N < 100000 ∧ (2 ≤ raw.length → lenOf raw ≤ most) ∧
  MQ CB x dx ia H pl (stepL most (.opn raw true st) pl n).1 (N + 1) (stepL most (.opn raw true st) pl n).2 Q
def spTake (CB : Addr) : Sp := fun vs H Q _ => ∃ (x dx ia : Addr) (pl : Int) (m : Sm) (st : Int) (raw : List Int) (N : Nat) (n most : Int), vs = [.ref x, .int n, .int most] ∧ BeltAt CB H x dx ia pl m st raw N ∧ okN n = true ∧ N < 100000 ∧ Fits most m ∧
  MQ CB x dx ia H pl (step most m pl n).1 (N + 1) (step most m pl n).2 Q
def spBegun (CB : Addr) : Sp := fun vs H Q _ => vs = [] ∧ ∀ y H', Same H H' → H y = none → StAt CB (Nw H [] H') y 0 .rest 0 → Q (.ref y) H'
def spFed (CB C : Addr) : Sp := fun vs H Q E => ∃ (x a : Addr) (pl : Int) (m : Sm) (N : Nat) (ns : List Int) (most : Int), vs = [.ref x, .ref a, .int most] ∧ StAt CB H x pl m N ∧ H a = some (.lst (ns.map V.int)) ∧ N + ns.length ≤ 100000 ∧ Fits most m ∧
  (good ns = true → ∀ r y l H', Same H H' → H' r = some (.tup [.ref y, .ref l]) → StAt CB (Nw H [] H') y (pl + (ns.length : Int)) (run most m pl ns).1 (N + ns.length) → Gives H H' [] l ((run most m pl ns).2.map evD) → Q (.ref r) H') ∧
  (good ns = false → ∀ H', Same H H' → E (.ref C) none H')
def spEnded (CB : Addr) : Sp := fun vs H Q _ => ∃ (x : Addr) (pl : Int) (m : Sm) (N : Nat), vs = [.ref x] ∧ StAt CB H x pl m N ∧ ∀ l H', Same H H' → Gives H H' [] l ((endOf m pl).map evD) → Q (.ref l) H'
/-- what the top says of the class Belt -/
structure TB (K : PySem.W.Frag) (mg : Str → Option Value) (CB : Addr) : Prop where
  cl : Cls K CB
  n1 : NoAttr K CB "place"
  n2 : NoAttr K CB "phase"
  n3 : NoAttr K CB "start"
  n4 : NoAttr K CB "inside"
  m : mg "Belt" = some (.ref CB)
/-- a method of the text, as its callers need it -/
structure MDef (K : PySem.W.Frag) (C : Addr) (m qual : Str) (st : Stmt) (ps : List Str) (f : Addr) (fd : FuncData) : Prop where
  F : Fun K m qual st f fd
  b : Binds K fd ps []
  m : Meth K C m f
end BB

set_option linter.all false
/-! Boxes of which some are too great. -/
namespace BB
end BB

set_option Elab.async false
set_option linter.all false
set_option maxRecDepth 100000
set_option maxHeartbeats 4000000
namespace L2
open PySem PySem.Spec PyProof.Rows PySem.W
section
variable {X : Cx}
theorem vals_of_ints : ∀ {ns : List Int} {us : List Value}, IntsAre us ns → Vals (ns.map V.int) us := fun h => vals_ints h
end
end L2

set_option Elab.async false
set_option linter.all false
set_option maxRecDepth 100000
set_option maxHeartbeats 4000000
namespace L2
open PySem PySem.Spec PyProof.Rows
/-! ### lists of pairs as tables -/
section
variable {κ : Type} [DecidableEq κ]
def valV (kvs : List (κ × V)) (k : κ) : Option V := (kvs.find? fun kv => decide (kv.1 = k)).map (·.2)
/-- in its place, or at the end -/
def putK (kvs : List (κ × V)) (k : κ) (v : V) : List (κ × V) :=
  if (kvs.any fun kv => decide (kv.1 = k)) = true then kvs.map (fun kv => if kv.1 = k then (kv.1, v) else kv) else kvs ++ [(k, v)]
def dropK (kvs : List (κ × V)) (k : κ) : List (κ × V) := kvs.filter fun kv => decide (kv.1 ≠ k)

theorem valV_nil {k : κ} : valV ([] : List (κ × V)) k = none := rfl
theorem valV_pos {p : κ × V} {r : List (κ × V)} {k : κ} (e : p.1 = k) : valV (p :: r) k = some p.2 := by simp [valV, List.find?_cons, e]
theorem valV_neg {p : κ × V} {r : List (κ × V)} {k : κ} (e : ¬ p.1 = k) : valV (p :: r) k = valV r k := by simp [valV, List.find?_cons, e]
theorem valV_any (k : κ) : ∀ kvs : List (κ × V), (kvs.any fun kv => decide (kv.1 = k)) = (valV kvs k).isSome
  | [] => rfl
  | p :: r => by
    rw [List.any_cons]
    by_cases e : p.1 = k
    · simp only [valV_pos e, decide_eq_true e, Bool.true_or, Option.isSome_some]
    · rw [valV_neg e, decide_eq_false e, Bool.false_or]; exact valV_any k r
theorem valV_map (k j : κ) (y : V) : ∀ kvs : List (κ × V), valV (kvs.map fun kv => if kv.1 = k then (kv.1, y) else kv) j = (valV kvs j).map fun x => if j = k then y else x
  | [] => rfl
  | p :: r => by
    have ih := valV_map k j y r
    rw [List.map_cons]
    by_cases h : p.1 = k
    · rw [if_pos h]
      by_cases e : p.1 = j
      · rw [valV_pos (p := (p.1, y)) e, valV_pos e, Option.map_some, if_pos (e.symm.trans h)]
      · rw [valV_neg (p := (p.1, y)) e, valV_neg e, ih]
    · rw [if_neg h]
      by_cases e : p.1 = j
      · rw [valV_pos (p := p) e, valV_pos e, Option.map_some, if_neg (fun z => h (e.trans z))]
      · rw [valV_neg (p := p) e, valV_neg e, ih]
theorem valV_snoc (k j : κ) (y : V) : ∀ kvs : List (κ × V), valV kvs k = none → valV (kvs ++ [(k, y)]) j = if j = k then some y else valV kvs j
  | [], _ => by
    by_cases e : k = j
    · rw [if_pos e.symm]; exact valV_pos (p := (k, y)) e
    · rw [if_neg (fun z => e z.symm)]; exact valV_neg (p := (k, y)) e
  | p :: r, hn => by
    rw [List.cons_append]
    have hk : ¬ p.1 = k := fun z => by rw [valV_pos z] at hn; cases hn
    rw [valV_neg hk] at hn
    have ih := valV_snoc k j y r hn
    by_cases e : p.1 = j
    · rw [valV_pos e, valV_pos e, if_neg (fun z => hk (e.trans z))]
    · rw [valV_neg e, valV_neg e, ih]
theorem valV_put (kvs : List (κ × V)) (k j : κ) (y : V) : valV (putK kvs k y) j = if j = k then some y else valV kvs j := by
  unfold putK
  by_cases a : (kvs.any fun kv => decide (kv.1 = k)) = true
  · rw [if_pos a, valV_map]
    rw [valV_any] at a
    by_cases e : j = k
    · obtain ⟨x, hx⟩ := Option.isSome_iff_exists.mp a
      rw [if_pos e, e, hx, Option.map_some, if_pos rfl]
    · rw [if_neg e]
      cases valV kvs j with
      | none => rfl
      | some x => rw [Option.map_some, if_neg e]
  · rw [if_neg a]
    refine valV_snoc k j y kvs ?_
    rw [valV_any] at a
    cases q : valV kvs k with
    | none => rfl
    | some x => rw [q] at a; exact (a rfl).elim
theorem length_putK (kvs : List (κ × V)) (k : κ) (v : V) : (putK kvs k v).length ≤ kvs.length + 1 := by
  unfold putK
  split
  · rw [List.length_map]; omega
  · rw [List.length_append, List.length_cons, List.length_nil]; omega

theorem RelO.isSome_eq {o : Option V} {u : Option Value} (r : RelO o u) : o.isSome = u.isSome := by
  cases o with
  | none => cases u with
    | none => rfl
    | some _ => exact (show False from r).elim
  | some _ => cases u with
    | none => exact (show False from r).elim
    | some _ => rfl
theorem RelO.getD {o : Option V} {u : Option Value} {d : V} {d' : Value} (r : RelO o u) (rd : RelV d d') : RelV (o.getD d) (u.getD d') := by
  cases o with
  | none => cases u with
    | none => exact rd
    | some _ => exact (show False from r).elim
  | some _ => cases u with
    | none => exact (show False from r).elim
    | some _ => exact r

/-- raw tables of the same keys -/
theorem KV.val {kvs : List (κ × V)} {vs : List (κ × Value)} (r : KV kvs vs) (k : κ) : RelO (valV kvs k) (valueAt vs k) := by
  unfold KV at r
  induction r with
  | nil => exact True.intro
  | @cons p q ps qs h t ih =>
    obtain ⟨h1, h2⟩ := h
    by_cases e : p.1 = k
    · have e' : q.1 = k := h1.symm.trans e
      have b : valueAt (q :: qs) k = some q.2 := by simp [valueAt, List.find?_cons, e']
      rw [valV_pos e, b]; exact h2
    · have e' : ¬ q.1 = k := fun z => e (h1.trans z)
      have b : valueAt (q :: qs) k = valueAt qs k := by simp [valueAt, List.find?_cons, e']
      rw [valV_neg e, b]; exact ih
theorem KV.any {kvs : List (κ × V)} {vs : List (κ × Value)} (r : KV kvs vs) (k : κ) : (kvs.any fun kv => decide (kv.1 = k)) = vs.any fun kv => decide (kv.1 = k) := by
  unfold KV at r
  induction r with
  | nil => rfl
  | cons h t ih => rw [List.any_cons, List.any_cons, ih, h.1]
theorem KV.repl {kvs : List (κ × V)} {vs : List (κ × Value)} (r : KV kvs vs) (k : κ) {y : V} {u : Value} (ry : RelV y u) :
    KV (kvs.map fun kv => if kv.1 = k then (kv.1, y) else kv) (vs.map fun kv => if kv.1 = k then (kv.1, u) else kv) := by
  unfold KV at r ⊢
  induction r with
  | nil => exact .nil
  | @cons p q ps qs h t ih =>
    rw [List.map_cons, List.map_cons]
    refine .cons ?_ ih
    obtain ⟨h1, h2⟩ := h
    by_cases e : p.1 = k
    · rw [if_pos e, if_pos (h1.symm.trans e)]; exact ⟨h1, ry⟩
    · rw [if_neg e, if_neg (fun z => e (h1.trans z))]; exact ⟨h1, h2⟩
theorem KV.put {kvs : List (κ × V)} {vs : List (κ × Value)} (r : KV kvs vs) (k : κ) {y : V} {u : Value} (ry : RelV y u) : KV (putK kvs k y) (stored vs k u) := by
  unfold putK stored
  rw [r.any k]
  by_cases e : (vs.any fun kv => decide (kv.1 = k)) = true
  · rw [if_pos e, if_pos e]; exact r.repl k ry
  · rw [if_neg e, if_neg e]; exact Paired.snoc r ⟨rfl, ry⟩
theorem KV.drop {kvs : List (κ × V)} {vs : List (κ × Value)} (r : KV kvs vs) (k : κ) : KV (dropK kvs k) (without vs k) := by
  unfold KV at r ⊢
  unfold dropK without
  induction r with
  | nil => exact .nil
  | @cons p q ps qs h t ih =>
    obtain ⟨h1, h2⟩ := h
    rw [List.filter_cons, List.filter_cons]
    by_cases e : p.1 = k
    · have a : ¬ decide (p.1 ≠ k) = true := by simp [e]
      have b : ¬ decide (q.1 ≠ k) = true := by simp [h1.symm.trans e]
      rw [if_neg a, if_neg b]; exact ih
    · have e' : ¬ q.1 = k := fun z => e (h1.trans z)
      have a : decide (p.1 ≠ k) = true := by simp [e]
      have b : decide (q.1 ≠ k) = true := by simp [e']
      rw [if_pos a, if_pos b]; exact .cons ⟨h1, h2⟩ ih
theorem KV.keys {kvs : List (κ × V)} {vs : List (κ × Value)} (r : KV kvs vs) : kvs.map (·.1) = vs.map (·.1) := by
  unfold KV at r
  induction r with
  | nil => rfl
  | cons h t ih => rw [List.map_cons, List.map_cons, ih, h.1]
theorem KV.length {kvs : List (κ × V)} {vs : List (κ × Value)} (r : KV kvs vs) : kvs.length = vs.length := Paired.length r
theorem dropK_le (kvs : List (κ × V)) (k : κ) : (dropK kvs k).length ≤ kvs.length := List.length_filter_le _ _
end


/-! ### a tracked dict, its keys ints and texts or tuples of these -/
theorem kV_is {P : Program} {w : World} {k : Key} {u : Value} (r : RelV (kV k) u) : (mixKind P w).is k u = true := by
  cases k with
  | inl i => obtain ⟨t, e⟩ := (show ∃ t, u = Value.int i t from r); subst e; exact mixKind_int P w i t
  | inr x => obtain ⟨t, e⟩ := (show ∃ t, u = Value.str x t from r); subst e; exact mixKind_str P w x t
theorem items_are {P : Program} {w : World} : ∀ {ks : List Key} {us : List Value}, Vals (ks.map kV) us → ItemsAre (mixKind P w) ks us
  | [], _, r => by rw [List.map_nil] at r; cases r; exact .nil
  | k :: ks, _, r => by
    rw [List.map_cons] at r
    cases r with
    | cons h t => exact .cons (kV_is h) (items_are t)

/-- raw entries of a dict with tuple keys -/
abbrev KT (H : Hp) : List (List Key × V) → List (List Key × Addr × Value) → Prop := Paired fun p q => p.1 = q.1 ∧ H q.2.1 = some (.tup (p.1.map kV)) ∧ RelV p.2 q.2.2
theorem KT.val {H : Hp} {kvs : List (List Key × V)} {xs : List (List Key × Addr × Value)} (r : KT H kvs xs) (k : List Key) : RelO (valV kvs k) ((atKey xs k).map (·.2)) := by
  induction r with
  | nil => exact True.intro
  | @cons p q ps qs h t ih =>
    obtain ⟨h1, _, h2⟩ := h
    by_cases e : p.1 = k
    · have e' : q.1 = k := h1.symm.trans e
      have b : atKey (q :: qs) k = some q.2 := by simp [atKey, List.find?_cons, e']
      rw [valV_pos e, b]; exact h2
    · have e' : ¬ q.1 = k := fun z => e (h1.trans z)
      have b : atKey (q :: qs) k = atKey qs k := by simp [atKey, List.find?_cons, e']
      rw [valV_neg e, b]; exact ih
theorem KT.repl {H : Hp} {kvs : List (List Key × V)} {xs : List (List Key × Addr × Value)} (r : KT H kvs xs) (k : List Key) {y : V} {u : Value} (ry : RelV y u) :
    KT H (kvs.map fun kv => if kv.1 = k then (kv.1, y) else kv) (xs.map (putAt k u)) := by
  induction r with
  | nil => exact .nil
  | @cons p q ps qs h t ih =>
    rw [List.map_cons, List.map_cons]
    refine .cons ?_ ih
    obtain ⟨h1, h2, h3⟩ := h
    unfold putAt
    by_cases e : p.1 = k
    · rw [if_pos e, if_pos (h1.symm.trans e)]; exact ⟨h1, h2, ry⟩
    · rw [if_neg e, if_neg (fun z => e (h1.trans z))]; exact ⟨h1, h2, h3⟩
theorem KT.put {H : Hp} {kvs : List (List Key × V)} {xs : List (List Key × Addr × Value)} (r : KT H kvs xs) (k : List Key) {b : Addr} {y : V} {u : Value} (hb : H b = some (.tup (k.map kV))) (ry : RelV y u) :
    KT H (putK kvs k y) (storedH xs k b u) := by
  have e : (kvs.any fun kv => decide (kv.1 = k)) = (atKey xs k).isSome := by
    rw [valV_any, (r.val k).isSome_eq, Option.isSome_map]
  unfold putK storedH
  rw [e]
  by_cases q : (atKey xs k).isSome = true
  · rw [if_pos q, if_pos q]; exact r.repl k ry
  · rw [if_neg q, if_neg q]; exact Paired.snoc r ⟨rfl, hb, ry⟩
theorem KT.keeps {H H' : Hp} {kvs : List (List Key × V)} {xs : List (List Key × Addr × Value)} (r : KT H kvs xs) (ht : ∀ b ys, H b = some (.tup ys) → H' b = some (.tup ys)) : KT H' kvs xs :=
  Paired.mapP r fun _ _ z => ⟨z.1, ht _ _ z.2.1, z.2.2⟩

section
variable {P : Program} {w : World} {H : Hp} {h : Heap} {a : Addr}
theorem rd_of {u : HO} (ok : HOk P w H h) (e : Rd H a u) : ObjOk P w H h a u := e.ok ok
theorem dk_rd {kvs : List (Key × V)} (ok : HOk P w H h) (e : Rd H a (.dK kvs)) : kvs.length ≤ sizeLine ∧ (a == sysModules) = false ∧ ∃ vs, KV kvs vs ∧ h.DictOf (mixKind P w) a vs :=
  show ObjOk P w H h a (.dK kvs) from rd_of ok e
theorem dk_of {kvs : List (Key × V)} (ok : HOk P w H h) (e : H a = some (.dK kvs)) : kvs.length ≤ sizeLine ∧ (a == sysModules) = false ∧ ∃ vs, KV kvs vs ∧ h.DictOf (mixKind P w) a vs := dk_rd ok (.inl e)
/-- a tracked tuple of ints and texts is a key -/
theorem key_of {ks : List Key} (ok : HOk P w H h) (e : H a = some (.tup (ks.map kV))) : (tupleKind (mixKind P w)).is h ks a := by
  obtain ⟨_, its, r, o, h1, h2, n, h3⟩ := (show ObjOk P w H h a (.tup (ks.map kV)) from ok a _ e)
  exact ⟨o, its.toArray, n, h1, h2, h3, by simpa using items_are r⟩
theorem dt_rd {kvs : List (List Key × V)} (ok : HOk P w H h) (e : Rd H a (.dT kvs)) : kvs.length ≤ sizeLine ∧ (a == sysModules) = false ∧
    ∃ xs, KT H kvs xs ∧ h.DictOfH (tupleKind (mixKind P w)) a xs := by
  obtain ⟨z, y, xs, r, o, es, ep, h1, h2, h3, h4, h5⟩ := (show ObjOk P w H h a (.dT kvs) from rd_of ok e)
  refine ⟨z, y, xs, r, o, es, ep, h1, h2, h3, h4, fun x hx => ?_, h5⟩
  have all : ∀ {l : List (List Key × V)} {m : List (List Key × Addr × Value)}, KT H l m → ∀ x ∈ m, (tupleKind (mixKind P w)).is h x.1 x.2.1 := by
    intro l m q
    induction q with
    | nil => intro x hx; exact nomatch hx
    | @cons p q ps qs hq t ih =>
      intro x hx
      rcases List.mem_cons.mp hx with e | hx
      · subst e
        exact key_of ok (by rw [← hq.1]; exact hq.2.1)
      · exact ih x hx
  exact all r x hx
theorem dt_of {kvs : List (List Key × V)} (ok : HOk P w H h) (e : H a = some (.dT kvs)) : kvs.length ≤ sizeLine ∧ (a == sysModules) = false ∧
    ∃ xs, KT H kvs xs ∧ h.DictOfH (tupleKind (mixKind P w)) a xs := dt_rd ok (.inl e)
end

/-- what the dict at a holds at the key y -/
def DGet (H : Hp) (a : Addr) (y : V) (r : Option V) : Prop :=
  (∃ kvs k, Rd H a (.dK kvs) ∧ y = kV k ∧ r = valV kvs k) ∨ ∃ kvs k b, Rd H a (.dT kvs) ∧ y = .ref b ∧ H b = some (.tup (k.map kV)) ∧ r = valV kvs k
/-- the heap behind a[y] = v -/
def DPut (H : Hp) (a : Addr) (y v : V) (H' : Hp) : Prop :=
  (∃ kvs k, H a = some (.dK kvs) ∧ y = kV k ∧ kvs.length < sizeLine ∧ H' = upd H a (.dK (putK kvs k v))) ∨
  ∃ kvs k b, H a = some (.dT kvs) ∧ y = .ref b ∧ H b = some (.tup (k.map kV)) ∧ kvs.length < sizeLine ∧ H' = upd H a (.dT (putK kvs k v))
theorem DGet.k {H : Hp} {a : Addr} {kvs : List (Key × V)} {k : Key} (e : H a = some (.dK kvs)) : DGet H a (kV k) (valV kvs k) := .inl ⟨kvs, k, .inl e, rfl, rfl⟩
theorem DPut.k {H : Hp} {a : Addr} {kvs : List (Key × V)} {k : Key} {v : V} (e : H a = some (.dK kvs)) (hl : kvs.length < sizeLine) : DPut H a (kV k) v (upd H a (.dK (putK kvs k v))) := .inl ⟨kvs, k, e, rfl, hl, rfl⟩


section
variable {X : Cx} {pins : List (Addr × Obj)} {σ : St} {H : Hp} {s : Shared} {a : Addr} {y v : V} {u r : Value} {o : Option V} {A : Around} {E : Value → Shared → Prop}

theorem Inv.big (I : Inv X pins σ H s) : sysModules < s.heap.objs.size := by
  have h : mainGlobals < s.heap.objs.size := (I.mod.glob.keeps I.bk).lt
  exact Nat.lt_trans (by decide) h

/-- d[y], there -/
theorem d_getItem {Q : Value → Shared → Prop} (hu : A.units + 1 < cLine) (I : Inv X pins σ H s) (g : DGet H a y (some v)) (ry : RelV y u) (h : ∀ w' s', Inv X pins σ H s' → RelV v w' → Q w' s') :
    wpAny (model X.prog X.w) A (getItem (.ref a) u) Q E s := by
  rcases g with ⟨kvs, k, e, ey, l⟩ | ⟨kvs, k, b, e, ey, eb, l⟩
  · subst ey
    obtain ⟨z, hd, vs, rel, dd⟩ := dk_rd I.hok e
    obtain ⟨w', hw, rw'⟩ := RelO.some_of (v := v) (o := valueAt vs k) (by rw [l]; exact rel.val k)
    exact wpAny_getItem_of (kV_is ry) dd.mapOf hw (h w' _ (I.tok _) rw')
  · subst ey
    cases (show u = Value.ref b from ry)
    obtain ⟨z, hd, xs, rel, dd⟩ := dt_rd I.hok e
    obtain ⟨w', hw, rw'⟩ := RelO.some_of (v := v) (o := (atKey xs k).map (·.2)) (by rw [l]; exact rel.val k)
    obtain ⟨p, hp, hp2⟩ := Option.map_eq_some_iff.mp hw
    refine wpAny_getItem_heap (tupleKind_room_in1 hu) (key_of I.hok eb) dd hp ?_
    rw [hp2]
    exact h w' _ (I.tok _) rw'
/-- y in d -/
theorem d_in {Q : Value → Shared → Prop} (hu : A.units + 1 < cLine) (I : Inv X pins σ H s) (g : DGet H a y o) (ry : RelV y u) (h : ∀ s', Inv X pins σ H s' → Q (.bool o.isSome) s') :
    wpAny (model X.prog X.w) A (compareOp .In u (.ref a)) Q E s := by
  rcases g with ⟨kvs, k, e, ey, l⟩ | ⟨kvs, k, b, e, ey, eb, l⟩
  · subst ey
    obtain ⟨z, hd, vs, rel, dd⟩ := dk_rd I.hok e
    refine wpAny_in_of (kV_is ry) hd dd.mapOf ?_
    rw [← (rel.val k).isSome_eq, ← l]
    exact h _ (I.tok _)
  · subst ey
    cases (show u = Value.ref b from ry)
    obtain ⟨z, hd, xs, rel, dd⟩ := dt_rd I.hok e
    refine wpAny_in_heap (tupleKind_room_in1 hu) (key_of I.hok eb) hd dd ?_
    have q := (rel.val k).isSome_eq
    rw [Option.isSome_map] at q
    rw [← q, ← l]
    exact h _ (I.tok _)
/-- a dict's object is replaced -/
theorem d_write {h' : Heap} {t' : Nat} {ob : HO} (I : Inv X pins σ H s) (mu : Mut (H a)) (hs : Heap.SameBut a s.heap h') (he : ∃ q, h'.get? a = some q) (new : ObjOk X.prog X.w (upd H a ob) h' a ob) :
    Inv X pins σ (upd H a ob) { s with heap := h', toks := t' } :=
  I.write (x := a) (e := a) mu (.inl rfl) (fun b q hb z => (hs.2 b hb).trans z) he new
theorem dk_new {P : Program} {w : World} {H' : Hp} {h' : Heap} {kvs : List (Key × V)} {vs : List (Key × Value)} (z : kvs.length ≤ sizeLine) (hd : (a == sysModules) = false) (rel : KV kvs vs) (dd : h'.DictOf (mixKind P w) a vs) :
    ObjOk P w H' h' a (.dK kvs) := ⟨z, hd, vs, rel, dd⟩
/-- d[y] = v -/
theorem d_setItem {H' : Hp} {Q : Unit → Shared → Prop} (hu : A.units + 1 < cLine) (I : Inv X pins σ H s) (g : DPut H a y v H') (ry : RelV y u) (rv : RelV v r) (h : ∀ s', Inv X pins σ H' s' → Q () s') :
    wpAny (model X.prog X.w) A (setItem (.ref a) u r) Q E s := by
  rcases g with ⟨kvs, k, e, ey, l, eH⟩ | ⟨kvs, k, b, e, ey, eb, l, eH⟩
  · subst ey eH
    obtain ⟨z, hd, vs, rel, dd⟩ := dk_of I.hok e
    have hz : vs.length ≤ sizeLine := by rw [← rel.length]; exact z
    have hl : (putK kvs k v).length ≤ sizeLine := by have := length_putK kvs k v; omega
    refine wpAny_setItem_pairs (hsz := hz) (kV_is ry) dd fun h' dd' hs => h _ ?_
    have he : ∃ q, h'.get? a = some q := let ⟨q, _, _, hq, _⟩ := dd'; ⟨q, hq⟩
    exact d_write I (by rw [e]; exact True.intro) hs he (dk_new hl hd (rel.put k rv) dd')
  · subst ey eH
    cases (show u = Value.ref b from ry)
    obtain ⟨z, hd, xs, rel, dd⟩ := dt_of I.hok e
    have hz : xs.length ≤ sizeLine := by rw [← Paired.length rel]; exact z
    have hl : (putK kvs k v).length ≤ sizeLine := by have := length_putK kvs k v; omega
    refine wpAny_setItem_heap (hsz := hz) (tupleKind_room_in1 hu) (key_of I.hok eb) dd fun h' dd' hs => h _ ?_
    obtain ⟨q, es, ep, hq, h2, h3, h4, _, h5⟩ := dd'
    refine d_write I (by rw [e]; exact True.intro) hs ⟨q, hq⟩ ⟨hl, hd, _, (rel.put k eb rv).keeps fun c ys ec => ?_, q, es, ep, hq, h2, h3, h4, h5⟩
    rw [upd_ne (ne_of ec e (fun z => nomatch z))]
    exact ec
end

section
variable {X : Cx} {pins : List (Addr × Obj)} {σ : St} {H : Hp} {s : Shared} {a : Addr} {kvs : List (Key × V)} {k : Key} {u : Value} {A : Around} {E : Value → Shared → Prop}
/-- d.pop(k[, x]), there -/
theorem d_pop {v : V} {more : List Value} {Q : Value → Shared → Prop} (I : Inv X pins σ H s) (e : H a = some (.dK kvs)) (ry : RelV (kV k) u) (l : valV kvs k = some v) (hm : more = [] ∨ ∃ x, more = [x])
    (h : ∀ w' s', Inv X pins σ (upd H a (.dK (dropK kvs k))) s' → RelV v w' → Q w' s') : wpAny (model X.prog X.w) A (call (.builtin "dict.pop") (.ref a :: u :: more)) Q E s := by
  obtain ⟨z, hd, vs, rel, dd⟩ := dk_of I.hok e
  obtain ⟨w', hw, rw'⟩ := RelO.some_of (v := v) (o := valueAt vs k) (by rw [← l]; exact rel.val k)
  have hp : (keyPart u).isSome = true := by
    cases k with
    | inl i => obtain ⟨t, q⟩ := (show ∃ t, u = Value.int i t from ry); subst q; rfl
    | inr x => obtain ⟨t, q⟩ := (show ∃ t, u = Value.str x t from ry); subst q; rfl
  have ha : argsOk "dict.pop" ⟨.ref a :: u :: more, []⟩ := by
    rcases hm with q | ⟨x, q⟩
    · subst q; exact PySem.F.args_dict_pop_2 _ _
    · subst q; exact PySem.F.args_dict_pop_3 _ _ _
  refine call_meetsIn PySem.F.slot_dict_pop dd.typeIs PySem.F.entry_dict_pop ha (meets_dict_pop_there (mixKind X.prog X.w) a (kV_is ry) more hm hp)
    ⟨vs, w', dd, by rw [← rel.length]; exact z, hw, fun h' dd' hs => h w' _ ?_ rw'⟩
  have he : ∃ q, h'.get? a = some q := let ⟨q, _, _, hq, _⟩ := dd'; ⟨q, hq⟩
  exact d_write I (by rw [e]; exact True.intro) hs he (dk_new (Nat.le_trans (dropK_le kvs k) z) hd (rel.drop k) dd')
end


/-! ### readings and rules -/
/-- the element of a subscription, not a slice -/
def NoSl (i : Expr) : Prop := ∀ ov iv, subscripted i false ov iv = operate [ov, iv] (getItem ov iv)
theorem subD_of {prog : Program} {w : World} {A : Around} {E : Value → Shared → Prop} {s : Shared} {env : Env} {value slice : Expr} {pos : Pos} {T id : String} {Q : Value → Shared → Prop}
    (hl : typeLookup (.type T) "__getitem__" = pure (some (.builtin id))) (hs : NoSl slice)
    (h : wpAny (model prog w) A (eval value env) (fun o s₁ => wpAny (model prog w) A (eval slice env) (fun i s₂ => s₂.TypeIs o T ∧ wpAny (model prog w) A (getItem o i) Q E s₂) E s₁) E s) :
    wpAny (model prog w) A (eval (.Subscript value slice pos) env) Q E s := by
  refine Subscript_ (wpAny_mono h (fun o s₁ h₁ => wpAny_mono h₁ (fun i s₂ h₂ => ?_) fun _ _ x => x) fun _ _ x => x)
  obtain ⟨hT, h₂⟩ := h₂
  unfold subscriptTail
  refine wpAny_bind ?_
  rw [getitemInPython_of_ne hT.not_modules]
  refine wpAny_bind (wpAny_specialOf hT hl ?_)
  have fin : wpAny (model prog w) A (subscripted slice false o i) (fun r s₃ => wpAny (model prog w) A (letTemporaryGo value o r >>= fun _ => pure r) Q E s₃) E s₂ := by
    rw [hs o i]
    exact wpAny_operating (wpAny_mono h₂ (fun r s₃ h₃ => wpAny_bind (wpAny_letTemporaryGo (wpAny_pure h₃))) fun _ _ x => x)
  first
    | exact wpAny_pure (wpAny_bind fin)
    | exact wpAny_bind (wpAny_pure (wpAny_bind fin))
    | exact wpAny_bind fin

theorem dict_typeIs {X : Cx} {pins : List (Addr × Obj)} {σ : St} {H : Hp} {s : Shared} {a : Addr} {y : V} {o : Option V} (I : Inv X pins σ H s) (g : DGet H a y o) : s.TypeIs (.ref a) "dict" := by
  rcases g with ⟨kvs, k, e, _, _⟩ | ⟨kvs, k, b, e, _, _, _⟩
  · obtain ⟨_, _, vs, _, dd⟩ := dk_rd I.hok e
    exact dd.typeIs
  · obtain ⟨_, _, xs, _, dd⟩ := dt_rd I.hok e
    exact dd.typeIs

/-- d[y] -/
def tDGet (td ty : TE) : TE := fun σ H Q => td σ H fun x H1 => ty σ H1 fun y H2 => ∃ a v, x = .ref a ∧ DGet H2 a y (some v) ∧ Q v H2
/-- y in d, y not in d -/
def tDIn (ty td : TE) : TE := fun σ H Q => ty σ H fun y H1 => td σ H1 fun x H2 => ∃ a o, x = .ref a ∧ DGet H2 a y o ∧ Q (.bl o.isSome) H2
/-- d[y] = v -/
def sDPut (td ty tv : TE) : TS := fun D σ H => tv σ H fun v H1 => td σ H1 fun x H2 => ty σ H2 fun y H3 => ∃ a H4, x = .ref a ∧ DPut H3 a y v H4 ∧ D.nx σ H4

section
variable {X : Cx} {o i e value : Expr} {pos pos' tpos : Pos} {td ty tv : TE}
theorem pe_dget (hu : X.A.units + 1 < cLine) (ho : PE X o td) (hi : PE X i ty) (hs : NoSl i) : PE X (.Subscript o i pos) (tDGet td ty) := by
  intro pins s σ H Q I h
  refine subD_of PySem.F.slot_dict_getitem.lookup hs (thn (ho pins s σ H _ I h) fun u s1 ⟨x, H1, I1, rx, q1⟩ => thn (hi pins s1 σ H1 _ I1 q1) fun iv s2 ⟨y, H2, I2, ry, a, v, ex, g, q2⟩ => ?_)
  subst ex
  obtain rfl : u = Value.ref a := rx
  exact ⟨dict_typeIs I2 g, d_getItem hu I2 g ry fun w' s3 I3 rw' => ⟨v, H2, I3, rw', q2⟩⟩
theorem pc_din (hu : X.A.units + 1 < cLine) (hi : PE X i ty) (ho : PE X o td) : PC X .In i o (tDIn ty td) := by
  intro pins s σ H Q I h
  refine thn (hi pins s σ H _ I h) fun iv s1 ⟨y, H1, I1, ry, q1⟩ => thn (ho pins s1 σ H1 _ I1 q1) fun u s2 ⟨x, H2, I2, rx, a, ov, ex, g, q2⟩ => ?_
  subst ex
  obtain rfl : u = Value.ref a := rx
  exact d_in hu I2 g ry fun s3 I3 => ⟨.bl ov.isSome, H2, I3, rfl, q2⟩
theorem ps_dput (hu : X.A.units + 1 < cLine) (ho : PE X o td) (hi : PE X i ty) (hv : PE X value tv) (hs : swapsWith value (some (.Subscript o i pos')) pos.line X.env = pure false) :
    PS X (.Assign [.Subscript o i pos'] value pos) (sDPut td ty tv) := by
  intro pins s σ H D I h
  refine wpAny_Assign_Subscript (thn (hv pins s σ H _ I h) fun r s1 ⟨v, H1, I1, rv, q1⟩ => thn (ho pins s1 σ H1 _ I1 q1) fun u s2 ⟨x, H2, I2, rx, q2⟩ => thn (hi pins s2 σ H2 _ I2 q2) fun iv s3 ⟨y, H3, I3, ry, a, H4, ex, g, q3⟩ => ?_) hs
  subst ex
  obtain rfl : u = Value.ref a := rx
  exact d_setItem hu I3 g ry rv fun s4 I4 => ⟨σ, H4, I4, q3⟩
end


/-! ### displays -/
theorem dk_empty {P : Program} {w : World} {H : Hp} (h : Heap) (hb : sysModules < h.objs.size) : ObjOk P w H (h.push { cls := .type "dict", data := .dict #[] }) h.objs.size (.dK []) :=
  ⟨Nat.zero_le _, beq_eq_false_iff_ne.mpr (Ne.symm (Nat.ne_of_lt hb)), [], .nil, Heap.DictOf.new h⟩
/-- {}, to be a dict of the kind that is wanted -/
def tDNewK : TE := fun _ H Q => ∀ p, H p = none → Q (.ref p) (upd H p (.dK []))
section
variable {X : Cx} {pos : Pos}
theorem pe_dnewK : PE X (.Dict [] [] pos) tDNewK := fun pins s σ H Q I h =>
  wpAny_Dict_empty ⟨.ref s.heap.objs.size, _, I.laid (a := s.heap.objs.size) (o := .dK []) (t' := s.toks) (fun _ _ q => Heap.get?_push_of_some _ q) (Nat.le_refl _) (dk_empty s.heap I.big), rfl, h _ (I.hok.fresh (Nat.le_refl _))⟩
end




/-! ### methods -/
/-- a method call o.m(e) of a built-in, with one argument: what must be seen of the text -/
structure M1 (X : Cx) (o : Expr) (m : Str) (apos : Pos) (e : Expr) (cpos : Pos) : Prop where
  base : attributeBase o m X.env (eval o X.env) = eval o X.env
  few : ((backTo cpos (starEach [e] X.env)).all (fun x => !x.1) && (backToKw cpos (keywordEach [] X.env)).all (fun x => x.1.isSome)
    && decide (([e] : List Expr).length + ([] : List Keyword).length + (if ([] : List Keyword).isEmpty then 0 else 1) < 30)) = true
  line : (apos.endLine == cpos.line) = true
  trees : backTo cpos (starEach [e] X.env) = [(false, eval e X.env)]

/-- a is a dict, whatever its keys -/
def IsD (H : Hp) (a : Addr) : Prop := (∃ kvs, Rd H a (.dK kvs)) ∨ ∃ kvs, Rd H a (.dT kvs)
theorem isD_at {X : Cx} {pins : List (Addr × Obj)} {σ : St} {H : Hp} {s : Shared} {a : Addr} (I : Inv X pins σ H s) (d : IsD H a) :
    s.TypeIs (.ref a) "dict" ∧ (∀ b, Value.ref a = .ref b → ∃ ob, s.heap.get? b = some ob ∧ ob.dict = none) ∧ (a == sysModules) = false := by
  rcases d with ⟨kvs, e⟩ | ⟨kvs, e⟩
  · obtain ⟨_, hd, vs, _, dd⟩ := dk_rd I.hok e
    refine ⟨dd.typeIs, fun b q => ?_, hd⟩
    cases q
    obtain ⟨ob, _, _, h1, h2, _⟩ := dd
    exact ⟨ob, h1, h2.2.1⟩
  · obtain ⟨_, hd, xs, _, dd⟩ := dt_rd I.hok e
    refine ⟨dd.typeIs, fun b q => ?_, hd⟩
    cases q
    obtain ⟨ob, _, _, h1, h2, _⟩ := dd
    exact ⟨ob, h1, h2.2.1⟩

section
variable {X : Cx} {pins : List (Addr × Obj)} {σ : St} {H : Hp} {s : Shared} {a : Addr} {y d : V} {u r : Value} {o : Option V} {A : Around} {E : Value → Shared → Prop}
/-- d.get(y) -/
theorem d_get1 {Q : Value → Shared → Prop} (hu : A.units + 1 < cLine) (I : Inv X pins σ H s) (g : DGet H a y o) (ry : RelV y u) (h : ∀ w' s', Inv X pins σ H s' → RelV (o.getD .non) w' → Q w' s') :
    wpAny (model X.prog X.w) A (call (.builtin "dict.get") [.ref a, u]) Q E s := by
  rcases g with ⟨kvs, k, e, ey, l⟩ | ⟨kvs, k, b, e, ey, eb, l⟩
  · subst ey
    obtain ⟨z, hd, vs, rel, dd⟩ := dk_rd I.hok e
    refine call_meetsIn PySem.F.slot_dict_get dd.typeIs PySem.F.entry_dict_get (PySem.F.args_dict_get_2 _ _) (meets_dict_get (mixKind X.prog X.w) a (kV_is ry) hd) ⟨_, dd.mapOf, h _ _ (I.tok _) ?_⟩
    rw [l]
    exact (rel.val k).getD rfl
  · subst ey
    cases (show u = Value.ref b from ry)
    obtain ⟨z, hd, xs, rel, dd⟩ := dt_rd I.hok e
    refine call_meetsIn PySem.F.slot_dict_get dd.typeIs PySem.F.entry_dict_get (PySem.F.args_dict_get_2 _ _) (meetsH_dict_get (tupleKind (mixKind X.prog X.w)) a b hd) ⟨tupleKind_room_in1 hu, k, xs, key_of I.hok eb, dd, h _ _ (I.tok _) ?_⟩
    rw [l]
    exact (rel.val k).getD rfl
end

def tDGet1 (td ty : TE) : TE := fun σ H Q => td σ H fun x H1 => ∃ a, x = .ref a ∧ IsD H1 a ∧ ty σ H1 fun y H2 => ∃ o, DGet H2 a y o ∧ Q (o.getD .non) H2
/-- d.pop(k): there; d.pop(k, x): there or not -/
def tDPop1 (td ty : TE) : TE := fun σ H Q => td σ H fun x H1 => ∃ a, x = .ref a ∧ IsD H1 a ∧ ty σ H1 fun y H2 => ∃ kvs k v, H2 a = some (.dK kvs) ∧ y = kV k ∧ valV kvs k = some v ∧ Q v (upd H2 a (.dK (dropK kvs k)))
section
variable {X : Cx} {o e f : Expr} {apos cpos : Pos} {td ty tx : TE}
theorem pe_dget1 (hu : X.A.units + 1 < cLine) (ho : PE X o td) (he : PE X e ty) (m : M1 X o "get" apos e cpos) : PE X (.Call (.Attribute o "get" apos) [e] [] cpos) (tDGet1 td ty) := by
  intro pins s σ H Q I h
  refine wpAny_Call_method m.base m.few m.line PySem.F.plainAttrs_dict PySem.F.slot_dict_get PySem.F.type_dict_get (thn (ho pins s σ H _ I h) fun u s1 ⟨x, H1, I1, rx, a, ex, d, q1⟩ => ?_)
  subst ex
  obtain rfl : u = Value.ref a := rx
  obtain ⟨t1, t2, _⟩ := isD_at I1 d
  refine ⟨t1, t2, ?_⟩
  rw [m.trees]
  refine Calls.callWith_builtin rfl (Calls.evalArgs_plain (Calls.spliced_cons (thn (he pins s1 σ H1 _ I1 q1) fun iv s2 ⟨y, H2, I2, ry, ov, g, q2⟩ => Calls.spliced_nil ?_)))
  exact d_get1 hu I2 g ry fun w' s3 I3 rw' => ⟨_, H2, I3, rw', q2⟩
theorem pe_dpop1 (ho : PE X o td) (he : PE X e ty) (m : M1 X o "pop" apos e cpos) : PE X (.Call (.Attribute o "pop" apos) [e] [] cpos) (tDPop1 td ty) := by
  intro pins s σ H Q I h
  refine wpAny_Call_method m.base m.few m.line PySem.F.plainAttrs_dict PySem.F.slot_dict_pop PySem.F.type_dict_pop (thn (ho pins s σ H _ I h) fun u s1 ⟨x, H1, I1, rx, a, ex, d, q1⟩ => ?_)
  subst ex
  obtain rfl : u = Value.ref a := rx
  obtain ⟨t1, t2, _⟩ := isD_at I1 d
  refine ⟨t1, t2, ?_⟩
  rw [m.trees]
  refine Calls.callWith_builtin rfl (Calls.evalArgs_plain (Calls.spliced_cons (thn (he pins s1 σ H1 _ I1 q1) fun iv s2 ⟨y, H2, I2, ry, kvs, k, v, ea, ey, l, q2⟩ => Calls.spliced_nil ?_)))
  subst ey
  exact d_pop I2 ea ry l (.inl rfl) fun w' s3 I3 rw' => ⟨v, _, I3, rw', q2⟩
end

/-! ### dict(d): a copy -/
section
variable {X : Cx} {pins : List (Addr × Obj)} {σ : St} {H : Hp} {s : Shared} {a : Addr} {kvs : List (Key × V)} {A : Around} {E : Value → Shared → Prop}
end


section
variable {X : Cx} {pins : List (Addr × Obj)} {σ : St} {H : Hp} {s : Shared} {a : Addr} {y : V} {u : Value} {A : Around} {E : Value → Shared → Prop}
end
/-! ### a dict's pairs: keys that differ -/
section
variable {κ : Type} [DecidableEq κ]
theorem valV_not {kvs : List (κ × V)} {k : κ} (h : valV kvs k = none) : ¬ k ∈ kvs.map (·.1) := by
  intro m
  obtain ⟨p, hp, e⟩ := List.mem_map.mp m
  have q : (kvs.any fun kv => decide (kv.1 = k)) = true := List.any_eq_true.mpr ⟨p, hp, decide_eq_true e⟩
  rw [valV_any, h] at q
  exact absurd q (by simp)
theorem valV_in {kvs : List (κ × V)} {k : κ} {v : V} (h : valV kvs k = some v) : k ∈ kvs.map (·.1) := by
  have q : (kvs.any fun kv => decide (kv.1 = k)) = true := by
    rw [valV_any, h]
    all_goals rfl
  obtain ⟨p, hp, e⟩ := List.any_eq_true.mp q
  exact List.mem_map.mpr ⟨p, hp, of_decide_eq_true e⟩
theorem dropK_pos {p : κ × V} {r : List (κ × V)} {k : κ} (e : p.1 = k) : dropK (p :: r) k = dropK r k := by
  unfold dropK
  rw [List.filter_cons, if_neg (by simp [e])]
theorem dropK_neg {p : κ × V} {r : List (κ × V)} {k : κ} (e : ¬ p.1 = k) : dropK (p :: r) k = p :: dropK r k := by
  unfold dropK
  rw [List.filter_cons, if_pos (by simp [e])]
end
end L2

set_option Elab.async false
set_option linter.all false
set_option maxRecDepth 100000
set_option maxHeartbeats 4000000
namespace L2
open PySem PySem.Spec PyProof.Rows PySem.W
theorem vals_ptw : ∀ (xs : List V) (us : List Value), xs.length = us.length → (∀ (i : Nat) x u, xs[i]? = some x → us[i]? = some u → RelV x u) → Vals xs us
  | [], [], _, _ => .nil
  | x :: r, u :: q, hl, h => .cons (h 0 x u rfl rfl) (vals_ptw r q (by simpa using hl) fun i y v h1 h2 => h (i + 1) y v h1 h2)
theorem vals_keys {P : Program} {w : World} {kvs : List (Key × V)} {vs : List (Key × Value)} {ks : List Int} {acc : Array Value} (rel : KV kvs vs) (hk : kvs.map (·.1) = ks.map (Sum.inl : Int → Key))
    (hacc : ItemsOf (fun i v => ∃ k x, vs[i]? = some (k, x) ∧ (mixKind P w).is k v = true) acc vs.length) : Vals (ks.map V.int) acc.toList := by
  have hl : vs.length = ks.length := by
    have := congrArg List.length hk
    rw [List.length_map, List.length_map] at this
    rw [← rel.length, this]
  refine vals_ptw _ _ (by rw [List.length_map, ← hl, ← hacc.1]; exact (Array.length_toList (xs := acc)).symm) fun i x u h1 h2 => ?_
  obtain ⟨k, y, e, hi⟩ := hacc.2 i u (by rw [← Array.getElem?_toList]; exact h2)
  have hks : (vs.map (·.1))[i]? = some k := by rw [List.getElem?_map, e]; rfl
  rw [← rel.keys, hk, List.getElem?_map] at hks
  rw [List.getElem?_map] at h1
  cases ej : ks[i]? with
  | none => rw [ej] at h1; cases h1
  | some j =>
    rw [ej] at h1 hks
    cases h1; cases hks
    have hi' : keyIs (Sum.inl j) u = true := hi
    rcases keyIs_shape hi' with ⟨i', t, e1, e2⟩ | ⟨x', t, e1, e2⟩
    · cases e1
      exact ⟨t, e2⟩
    · cases e1
section
variable {X : Cx}
/-- sorted(d) of a dict with few keys, ints -/
theorem call_sortedD (hh : X.A.handled = none) : CallR X (.builtin "sorted") (fun xs H Q => ∃ (p : Addr) (kvs : List (Key × V)) (ks : List Int), xs = [.ref p] ∧ Rd H p (.dK kvs) ∧ kvs.map (·.1) = ks.map (Sum.inl : Int → Key) ∧ ks.length < 64 ∧
    ∀ (l : Addr) (ns' : List Int), H l = none → ns'.Perm ks → ns'.Pairwise (· ≤ ·) → Q (.ref l) (upd H l (.lst (ns'.map V.int)))) := by
  intro pins s σ H xs us Q I r h
  obtain ⟨p, kvs, ks, rfl, hq, hk, h64, q⟩ := h
  obtain ⟨u, rfl, rx⟩ := vals1 r
  cases rx
  obtain ⟨z, hd, vs, rel, dd⟩ := dk_rd I.hok hq
  obtain ⟨ep, da⟩ := dd.dictAt
  have hl : vs.length = ks.length := by
    have := congrArg List.length hk
    rw [List.length_map, List.length_map] at this
    rw [← rel.length, this]
  have h64' : vs.length < 64 := by omega
  refine Calls.call_function_entry kind_sorted plain_sorted entry_sorted (args_sorted1 _) ?_
  unfold Builtin.«sorted»
  refine wpAny_bind (m := checkCount "sorted" 1 1 _) (wpAny_pure ?_)
  refine wpAny_bind (kdu_collect (A := X.A.in1) (kdl_dict (knd := mixKind X.prog X.w) (kvs := vs) (ep := ep) hd) hh da (by rw [← rel.length]; exact z) fun h' tk acc hkeep hacc => ?_)
  have hv := vals_keys rel hk hacc
  have hal : acc.toList.length < 64 := by rw [Array.length_toList, hacc.1]; exact h64'
  have hline : (64 : Nat) ≤ sizeLine := by decide
  refine wpAny_bind (wpAny_newList ?_ (Nat.le_of_lt (Nat.lt_of_lt_of_le hal hline)))
  have hoL : (h'.push (seqObj "list" acc.toList.toArray 0)).get? h'.objs.size = some (seqObj "list" acc.toList.toArray 0) := Heap.get?_push_size _ rfl
  show wpAny _ _ _ _ _ { s with heap := h'.push (seqObj "list" acc.toList.toArray 0), toks := tk }
  refine wpAny_bind (wpAny_holding (wpAny_call_entry slot_list_sort ⟨_, hoL, rfl⟩ entry_list_sort (list_sort_tree hoL (intsAre_of hv) hal fun out ns' a1 a2 a3 => ⟨_, rfl, ?_⟩) (args_list_sort _)))
  refine wpAny_pure ⟨_, rfl, ?_⟩
  have I' := I.kept (t' := tk) hkeep
  obtain ⟨e, he⟩ := sortedHeap_at (n := 0) (vs := acc.toList) (out := out) hoL
  have hl' : ns'.length = ks.length := a2.length_eq
  refine ⟨.ref h'.objs.size, _, I'.laid (a := h'.objs.size) (o := .lst (ns'.map V.int)) (t' := tk) (fun b o hb => ?_) (Nat.le_refl _) (show ObjOk X.prog X.w _ _ _ (.lst (ns'.map V.int)) from ⟨by rw [List.length_map]; exact Nat.le_of_lt (Nat.lt_of_lt_of_le (by omega : ns'.length < 64) hline), out.toList, e, vals_of_ints a1, he⟩), rfl, q _ ns' (I'.hok.fresh (Nat.le_refl _)) a2 a3⟩
  have hlt : b < h'.objs.size := Heap.lt_size hb
  rw [sortedHeap_old (Nat.ne_of_lt hlt) (by rw [size_push']; exact Nat.lt_succ_of_lt hlt)]
  exact Heap.get?_push_of_some _ hb
end
end L2

set_option Elab.async false
set_option linter.all false
set_option maxRecDepth 100000
set_option maxHeartbeats 4000000
/-! What the hands hold of each sender, as data and as it lies in the heap. -/
namespace BB
open PySem L2
inductive Told where
  | lost (s p : Int)
  | parcel (s : Int) (ns : List Int) (p : Int)
def toldD : Told → D
  | .lost s p => .tup [.str "lost", .int s, .int p]
  | .parcel s ns p => .tup [.str "parcel", .int s, intsD ns, .int p]
structure Hs where
  ks : List Int
  f : Int → Int × List Int
  news : List Told
def Hs.nil : Hs := ⟨[], fun _ => (0, []), []⟩
def addK (ks : List Int) (k : Int) : List Int := if k ∈ ks then ks else ks ++ [k]
def delK (ks : List Int) (k : Int) : List Int := ks.filter fun j => decide (j ≠ k)
def setF (f : Int → Int × List Int) (k : Int) (v : Int × List Int) : Int → Int × List Int := fun j => if j = k then v else f j
theorem setF_eq {f : Int → Int × List Int} {k : Int} {v : Int × List Int} : setF f k v k = v := if_pos rfl
theorem setF_ne {f : Int → Int × List Int} {k j : Int} {v : Int × List Int} (h : j ≠ k) : setF f k v j = f j := if_neg h
def Hs.hold (st : Hs) (k : Int) (ns : List Int) (due : Int) : Hs := ⟨addK st.ks k, setF st.f k (due, ns), st.news⟩
def Hs.drop (st : Hs) (k : Int) : Hs := ⟨delK st.ks k, st.f, st.news⟩
def Hs.tell (st : Hs) (t : Told) : Hs := ⟨st.ks, st.f, st.news ++ [t]⟩
def Hs.lose (st : Hs) (k p : Int) : Hs := if k ∈ st.ks then (st.drop k).tell (.lost k p) else st
def Hs.keep (st : Hs) (k : Int) (ns : List Int) (start : Int) : Hs × Bool :=
  if k ∈ st.ks ∧ ns.head? = some (st.f k).1 then (st.hold k ((st.f k).2 ++ ns.tail) ((st.f k).1 + 1), true)
  else if ns.head? = some 0 then ((st.lose k start).hold k ns.tail 1, true)
  else (st.lose k start, false)
def Hs.give (st : Hs) (k place : Int) : Hs := (st.drop k).tell (.parcel k (st.f k).2 place)
def Hs.take (st : Hs) (l : Int) (ns : List Int) (start place : Int) : Hs :=
  if (st.keep (l / 2) ns start).2 = true ∧ l % 2 = 1 then (st.keep (l / 2) ns start).1.give (l / 2) place else (st.keep (l / 2) ns start).1
def Hs.ev (st : Hs) : Ev → Hs
  | .box l ns s p => st.take l ns s p
  | _ => st
def Hs.run (st : Hs) (es : List Ev) : Hs := es.foldl Hs.ev st
theorem Hs.run_snoc (st : Hs) (es : List Ev) (e : Ev) : st.run (es ++ [e]) = (st.run es).ev e := by
  unfold Hs.run
  rw [List.foldl_append]; rfl
theorem addK_len (ks : List Int) (k : Int) : (addK ks k).length ≤ ks.length + 1 := by
  unfold addK
  split
  · exact Nat.le_succ _
  · rw [List.length_append]; exact Nat.le_refl _
theorem delK_len (ks : List Int) (k : Int) : (delK ks k).length ≤ ks.length := List.length_filter_le _ _
theorem mem_addK {ks : List Int} {k j : Int} (h : j ∈ addK ks k) : j = k ∨ j ∈ ks := by
  unfold addK at h
  split at h
  · exact .inr h
  · rcases List.mem_append.mp h with z | z
    · exact .inr z
    · exact .inl (by simpa using z)
theorem self_addK {ks : List Int} {k : Int} : k ∈ addK ks k := by
  unfold addK
  split
  · assumption
  · exact List.mem_append_right _ (List.Mem.head _)
theorem mem_delK {ks : List Int} {k j : Int} (h : j ∈ delK ks k) : j ∈ ks := (List.mem_filter.mp h).1
/-- how much is held -/
structure HsOk (st : Hs) (W M : Nat) : Prop where
  a : st.ks.length ≤ W
  b : st.news.length ≤ M
  c : ∀ k ∈ st.ks, (st.f k).2.length ≤ W
  d : ∀ k ∈ st.ks, 1 ≤ (st.f k).1
  e : ∀ t ∈ st.news, (toldD t).size ≤ W + 10
theorem HsOk.nil : HsOk Hs.nil 0 0 := ⟨Nat.le_refl _, Nat.le_refl _, (fun k h => nomatch h), (fun k h => nomatch h), (fun k h => nomatch h)⟩
theorem HsOk.mono {st : Hs} {W M W' M' : Nat} (h : HsOk st W M) (hw : W ≤ W') (hm : M ≤ M') : HsOk st W' M' :=
  ⟨Nat.le_trans h.a hw, Nat.le_trans h.b hm, fun k hk => Nat.le_trans (h.c k hk) hw, h.d, fun t ht => Nat.le_trans (h.e t ht) (Nat.add_le_add_right hw _)⟩
theorem HsOk.hold {st : Hs} {W M : Nat} {k due : Int} {ns : List Int} (h : HsOk st W M) (hn : ns.length ≤ W + 1) (hd : 1 ≤ due) : HsOk (st.hold k ns due) (W + 1) M := by
  refine ⟨Nat.le_trans (addK_len _ _) (Nat.succ_le_succ h.a), h.b, fun j hj => ?_, fun j hj => ?_, fun t ht => Nat.le_trans (h.e t ht) (by omega)⟩
  · show (setF st.f k (due, ns) j).2.length ≤ _
    by_cases z : j = k
    · rw [z, setF_eq]; exact hn
    · rw [setF_ne z]
      rcases mem_addK hj with y | y
      · exact absurd y z
      · exact Nat.le_succ_of_le (h.c j y)
  · show 1 ≤ (setF st.f k (due, ns) j).1
    by_cases z : j = k
    · rw [z, setF_eq]; exact hd
    · rw [setF_ne z]
      rcases mem_addK hj with y | y
      · exact absurd y z
      · exact h.d j y
theorem HsOk.drop {st : Hs} {W M : Nat} {k : Int} (h : HsOk st W M) : HsOk (st.drop k) W M :=
  ⟨Nat.le_trans (delK_len _ _) h.a, h.b, fun j hj => h.c j (mem_delK hj), fun j hj => h.d j (mem_delK hj), h.e⟩
theorem HsOk.tell {st : Hs} {W M : Nat} {t : Told} (h : HsOk st W M) (ht : (toldD t).size ≤ W + 10) : HsOk (st.tell t) W (M + 1) :=
  ⟨h.a, by show (st.news ++ [t]).length ≤ _; rw [List.length_append]; exact Nat.succ_le_succ h.b, h.c, h.d, fun u hu => by
    rcases List.mem_append.mp hu with z | z
    · exact h.e u z
    · have e : u = t := by simpa using z
      rw [e]; exact ht⟩
theorem HsOk.lose {st : Hs} {W M : Nat} {k p : Int} (h : HsOk st W M) : HsOk (st.lose k p) W (M + 1) := by
  unfold Hs.lose
  split
  · exact h.drop.tell (by show 4 ≤ W + 10; omega)
  · exact h.mono (Nat.le_refl _) (Nat.le_succ _)
theorem parcel_size (s : Int) (ns : List Int) (p : Int) : (toldD (.parcel s ns p)).size = ns.length + 5 := by
  show (1 + (1 + ((intsD ns).size + (1 + 0)))) + 1 = _
  rw [ints_size]; omega
theorem HsOk.keep {st : Hs} {W M : Nat} {k p : Int} {ns : List Int} (h : HsOk st W M) : HsOk (st.keep k ns p).1 (W + ns.length + 1) (M + 1) := by
  unfold Hs.keep
  have ht : ns.tail.length ≤ ns.length := by rw [List.length_tail]; omega
  split
  · rename_i c
    exact ((h.mono (Nat.le_add_right W ns.length) (Nat.le_succ M)).hold (by rw [List.length_append]; have := h.c k c.1; omega) (by have := h.d k c.1; omega))
  · split
    · exact (h.lose.mono (Nat.le_add_right W ns.length) (Nat.le_refl _)).hold (by omega) (by decide)
    · exact h.lose.mono (by omega) (Nat.le_refl _)
theorem Hs.keep_mem {st : Hs} {k p : Int} {ns : List Int} (h : (st.keep k ns p).2 = true) : k ∈ (st.keep k ns p).1.ks := by
  unfold Hs.keep at h ⊢
  split
  · exact self_addK
  · split
    · exact self_addK
    · rename_i c1 c2
      rw [if_neg c1, if_neg c2] at h; cases h
theorem HsOk.take {st : Hs} {W M : Nat} {l s p : Int} {ns : List Int} (h : HsOk st W M) : HsOk (st.take l ns s p) (W + ns.length + 1) (M + 2) := by
  have hk := HsOk.keep (k := l / 2) (p := s) (ns := ns) h
  unfold Hs.take
  split
  · rename_i c
    have hm := Hs.keep_mem c.1
    refine hk.drop.tell ?_
    rw [parcel_size]
    have := hk.c _ hm
    omega
  · exact hk.mono (Nat.le_refl _) (Nat.le_succ _)
/-- what the boxes weigh -/
def bxW : Ev → Nat
  | .box _ ns _ _ => ns.length + 1
  | _ => 0
def bxWs : List Ev → Nat
  | [] => 0
  | e :: r => bxW e + bxWs r
theorem bxWs_append : ∀ xs ys : List Ev, bxWs (xs ++ ys) = bxWs xs + bxWs ys
  | [], ys => (Nat.zero_add _).symm
  | x :: r, ys => by show bxW x + bxWs (r ++ ys) = bxW x + bxWs r + bxWs ys; rw [bxWs_append r ys]; omega
theorem HsOk.ev {st : Hs} {W M : Nat} (h : HsOk st W M) (e : Ev) : HsOk (st.ev e) (W + bxW e) (M + 2) := by
  cases e with
  | box l ns s p => exact h.take
  | _ => exact h.mono (Nat.le_add_right _ _) (Nat.le_add_right _ _)
theorem HsOk.run : ∀ (es : List Ev) {st : Hs} {W M : Nat}, HsOk st W M → HsOk (st.run es) (W + bxWs es) (M + 2 * es.length)
  | [], _, _, _, h => h
  | e :: r, st, W, M, h => by
    have := HsOk.run r (h.ev e)
    refine this.mono ?_ ?_
    · show W + bxW e + bxWs r ≤ W + (bxW e + bxWs r); omega
    · show M + 2 + 2 * r.length ≤ M + 2 * (r.length + 1); omega
/-! ### dicts with int keys -/
theorem valV_drop {k j : Key} : ∀ kvs : List (Key × V), valV (dropK kvs k) j = if j = k then none else valV kvs j
  | [] => by rw [show dropK ([] : List (Key × V)) k = [] from rfl, valV_nil]; split <;> rfl
  | p :: r => by
    have ih := valV_drop (k := k) (j := j) r
    by_cases e : p.1 = k
    · rw [dropK_pos e, ih]
      by_cases z : j = k
      · rw [if_pos z, if_pos z]
      · rw [if_neg z, if_neg z, valV_neg (fun y => z (y.symm.trans e))]
    · rw [dropK_neg e]
      by_cases y : p.1 = j
      · rw [valV_pos y, valV_pos y, if_neg (fun z => e (y.trans z))]
      · rw [valV_neg y, valV_neg y, ih]
def DictI (kvs : List (Key × V)) (ks : List Int) (R : Int → V → Prop) : Prop := kvs.map (·.1) = ks.map (Sum.inl : Int → Key) ∧ ∀ k v, valV kvs (.inl k) = some v → R k v
theorem DictI.len {kvs : List (Key × V)} {ks : List Int} {R : Int → V → Prop} (h : DictI kvs ks R) : kvs.length = ks.length := by
  have := congrArg List.length h.1
  rw [List.length_map, List.length_map] at this; exact this
theorem DictI.some {kvs : List (Key × V)} {ks : List Int} {R : Int → V → Prop} (h : DictI kvs ks R) {k : Int} (hk : k ∈ ks) : ∃ v, valV kvs (.inl k) = some v ∧ R k v := by
  cases e : valV kvs (.inl k) with
  | some v => exact ⟨v, rfl, h.2 k v e⟩
  | none => exact absurd (by rw [h.1]; exact List.mem_map_of_mem hk) (valV_not e)
theorem DictI.none {kvs : List (Key × V)} {ks : List Int} {R : Int → V → Prop} (h : DictI kvs ks R) {k : Int} (hk : k ∉ ks) : valV kvs (.inl k) = none := by
  cases e : valV kvs (.inl k) with
  | none => rfl
  | some v =>
    have := valV_in e
    rw [h.1] at this
    obtain ⟨j, hj, z⟩ := List.mem_map.mp this
    cases z
    exact absurd hj hk
theorem DictI.nil {R : Int → V → Prop} : DictI [] [] R := ⟨rfl, fun k v h => by rw [valV_nil] at h; cases h⟩
theorem putK_keys {kvs : List (Key × V)} {ks : List Int} {k : Int} {v : V} (h : kvs.map (·.1) = ks.map (Sum.inl : Int → Key)) : (putK kvs (.inl k) v).map (·.1) = (addK ks k).map (Sum.inl : Int → Key) := by
  unfold putK addK
  rw [valV_any]
  by_cases hk : k ∈ ks
  · rw [if_pos hk]
    have hs : (valV kvs (.inl k : Key)).isSome = true := by
      cases e : valV kvs (.inl k : Key) with
      | some v => rfl
      | none => exact absurd (by rw [h]; exact List.mem_map_of_mem hk) (valV_not e)
    rw [if_pos hs, List.map_map, ← h]
    apply List.map_congr_left
    intro p hp
    show (if p.1 = (.inl k : Key) then (p.1, v) else p).1 = p.1
    split <;> rfl
  · rw [if_neg hk]
    have hs : ¬ (valV kvs (.inl k : Key)).isSome = true := by
      intro z
      obtain ⟨v, e⟩ := Option.isSome_iff_exists.mp z
      have := valV_in e
      rw [h] at this
      obtain ⟨j, hj, y⟩ := List.mem_map.mp this
      cases y
      exact hk hj
    rw [if_neg hs, List.map_append, List.map_append, h]; rfl
theorem DictI.put {kvs : List (Key × V)} {ks : List Int} {R R' : Int → V → Prop} {k : Int} {v : V} (h : DictI kvs ks R) (hR : ∀ j u, j ≠ k → R j u → R' j u) (hv : R' k v) : DictI (putK kvs (.inl k) v) (addK ks k) R' := by
  refine ⟨putK_keys h.1, fun j u e => ?_⟩
  rw [valV_put] at e
  by_cases z : j = k
  · subst z
    rw [if_pos rfl] at e
    cases e; exact hv
  · rw [if_neg (fun y => z (Sum.inl.inj y))] at e
    exact hR j u z (h.2 j u e)
theorem DictI.drop {kvs : List (Key × V)} {ks : List Int} {R : Int → V → Prop} {k : Int} (h : DictI kvs ks R) : DictI (dropK kvs (.inl k)) (delK ks k) R := by
  refine ⟨?_, fun j u e => ?_⟩
  · have h1 := h.1
    clear h
    unfold dropK delK
    induction kvs generalizing ks with
    | nil =>
      cases ks with
      | nil => rfl
      | cons j r => cases h1
    | cons p q ih =>
      cases ks with
      | nil => cases h1
      | cons j r =>
        have e1 : p.1 = (.inl j : Key) := (List.cons.inj h1).1
        have e2 := ih (List.cons.inj h1).2
        by_cases z : j = k
        · rw [List.filter_cons_of_neg (by simp [e1, z]), List.filter_cons_of_neg (by simp [z])]; exact e2
        · have z' : ¬ (.inl j : Key) = .inl k := fun y => z (Sum.inl.inj y)
          rw [List.filter_cons_of_pos (by simp [e1, z]), List.filter_cons_of_pos (by simp [z]), List.map_cons, List.map_cons, e2, e1]
  · rw [valV_drop] at e
    split at e
    · cases e
    · exact h.2 j u e
theorem DictI.imp {kvs : List (Key × V)} {ks : List Int} {R R' : Int → V → Prop} (h : DictI kvs ks R) (hR : ∀ j u, R j u → R' j u) : DictI kvs ks R' := ⟨h.1, fun j u e => hR j u (h.2 j u e)⟩
/-! ### the Hands -/
def hf (dd dn nl : Addr) : List (Str × V) := [("due", .ref dd), ("numbers", .ref dn), ("news", .ref nl)]
theorem h12 : ¬ (("due" : Str) = "numbers") := by decide +kernel
theorem h13 : ¬ (("due" : Str) = "news") := by decide +kernel
theorem h23 : ¬ (("numbers" : Str) = "news") := by decide +kernel
section
variable {dd dn nl : Addr}
theorem hf_due : (hf dd dn nl).lookup ("due" : Str) = some (.ref dd) := look_eq
theorem hf_num : (hf dd dn nl).lookup ("numbers" : Str) = some (.ref dn) := by unfold hf; rw [look_ne (Ne.symm h12), look_eq]
theorem hf_news : (hf dd dn nl).lookup ("news" : Str) = some (.ref nl) := by unfold hf; rw [look_ne (Ne.symm h13), look_ne (Ne.symm h23), look_eq]
theorem hf_no {m : Str} (h1 : ¬ m = "due") (h2 : ¬ m = "numbers") (h3 : ¬ m = "news") : (hf dd dn nl).lookup m = none := by
  unfold hf; rw [look_ne h1, look_ne h2, look_ne h3]; rfl
end
structure HandsAt (CH : Addr) (H : Hp) (x dx dd dn nl : Addr) (st : Hs) : Prop where
  ob : H x = some (.ins CH dx (hf dd dn nl))
  du : ∃ kvs, H dd = some (.dK kvs) ∧ DictI kvs st.ks (fun k v => v = .int (st.f k).1)
  nu : ∃ kvs, H dn = some (.dK kvs) ∧ DictI kvs st.ks (fun k v => ∃ a, v = .ref a ∧ Off [dd, dn, nl] H a = some (.lst ((st.f k).2.map V.int)))
  nw : ∃ vs, H nl = some (.lst vs) ∧ All2 (Rep (Off [dd, dn, nl] H)) vs (st.news.map toldD)
  ne : dd ≠ dn
section
variable {CH x dx dd dn nl : Addr} {H : Hp} {st : Hs}
theorem HandsAt.n1 (h : HandsAt CH H x dx dd dn nl st) : dd ≠ nl := by
  obtain ⟨k, e, _⟩ := h.du
  obtain ⟨v, e', _⟩ := h.nw
  exact ne_of e e' (by intro z; cases z)
theorem HandsAt.n2 (h : HandsAt CH H x dx dd dn nl st) : dn ≠ nl := by
  obtain ⟨k, e, _⟩ := h.nu
  obtain ⟨v, e', _⟩ := h.nw
  exact ne_of e e' (by intro z; cases z)
theorem HandsAt.n3 (h : HandsAt CH H x dx dd dn nl st) : x ≠ dd ∧ x ≠ dn ∧ x ≠ nl := by
  obtain ⟨k, e, _⟩ := h.du
  obtain ⟨k', e', _⟩ := h.nu
  obtain ⟨v, e'', _⟩ := h.nw
  exact ⟨ne_of h.ob e (by intro z; cases z), ne_of h.ob e' (by intro z; cases z), ne_of h.ob e'' (by intro z; cases z)⟩
theorem HandsAt.mono {H' : Hp} (h : HandsAt CH H x dx dd dn nl st) (s : Same H H') : HandsAt CH H' x dx dd dn nl st := by
  obtain ⟨kd, e1, d1⟩ := h.du
  obtain ⟨kn, e2, d2⟩ := h.nu
  obtain ⟨vs, e3, d3⟩ := h.nw
  exact ⟨s _ _ h.ob, ⟨kd, s _ _ e1, d1⟩, ⟨kn, s _ _ e2, d2.imp fun j u ⟨a, ea, ha⟩ => ⟨a, ea, off_same s _ _ ha⟩⟩, ⟨vs, s _ _ e3, reps_mono (off_same s) d3⟩, h.ne⟩
/-- numbers[k] = a; due[k] = d -/
theorem HandsAt.hold {kd kn : List (Key × V)} {k d : Int} {ns : List Int} {a : Addr} (h : HandsAt CH H x dx dd dn nl st) (e1 : H dd = some (.dK kd)) (d1 : DictI kd st.ks (fun k v => v = .int (st.f k).1))
    (e2 : H dn = some (.dK kn)) (d2 : DictI kn st.ks (fun k v => ∃ a, v = .ref a ∧ Off [dd, dn, nl] H a = some (.lst ((st.f k).2.map V.int)))) (ha : Off [dd, dn, nl] H a = some (.lst (ns.map V.int))) :
    HandsAt CH (upd (upd H dn (.dK (putK kn (.inl k) (.ref a)))) dd (.dK (putK kd (.inl k) (.int d)))) x dx dd dn nl (st.hold k ns d) := by
  have eo : Off [dd, dn, nl] (upd (upd H dn (.dK (putK kn (.inl k) (.ref a)))) dd (.dK (putK kd (.inl k) (.int d)))) = Off [dd, dn, nl] H := by rw [off_upd (by simp), off_upd (by simp)]
  obtain ⟨m1, m2, m3⟩ := h.n3
  have n1 := h.n1
  have n2 := h.n2
  obtain ⟨vs, e3, d3⟩ := h.nw
  refine ⟨by rw [upd_ne m1, upd_ne m2]; exact h.ob, ⟨_, upd_same, d1.put (fun j u z e => ?_) ?_⟩, ⟨_, by rw [upd_ne h.ne.symm, upd_same], d2.put (fun j u z e => ?_) ?_⟩, ⟨vs, by rw [upd_ne n1.symm, upd_ne n2.symm]; exact e3, by rw [eo]; exact d3⟩, h.ne⟩
  · show u = .int (setF st.f k (d, ns) j).1
    rw [setF_ne z]; exact e
  · show V.int d = .int (setF st.f k (d, ns) k).1
    rw [setF_eq]
  · obtain ⟨b, eb, hb⟩ := e
    refine ⟨b, eb, ?_⟩
    show _ = some (HO.lst ((setF st.f k (d, ns) j).2.map V.int))
    rw [eo, setF_ne z]; exact hb
  · refine ⟨a, rfl, ?_⟩
    show _ = some (HO.lst ((setF st.f k (d, ns) k).2.map V.int))
    rw [eo, setF_eq]; exact ha
/-- due.pop(k); numbers.pop(k) -/
theorem HandsAt.drop {kd kn : List (Key × V)} {k : Int} (h : HandsAt CH H x dx dd dn nl st) (e1 : H dd = some (.dK kd)) (d1 : DictI kd st.ks (fun k v => v = .int (st.f k).1))
    (e2 : H dn = some (.dK kn)) (d2 : DictI kn st.ks (fun k v => ∃ a, v = .ref a ∧ Off [dd, dn, nl] H a = some (.lst ((st.f k).2.map V.int)))) :
    HandsAt CH (upd (upd H dd (.dK (dropK kd (.inl k)))) dn (.dK (dropK kn (.inl k)))) x dx dd dn nl (st.drop k) := by
  have eo : Off [dd, dn, nl] (upd (upd H dd (.dK (dropK kd (.inl k)))) dn (.dK (dropK kn (.inl k)))) = Off [dd, dn, nl] H := by rw [off_upd (by simp), off_upd (by simp)]
  obtain ⟨m1, m2, m3⟩ := h.n3
  have n1 := h.n1
  have n2 := h.n2
  obtain ⟨vs, e3, d3⟩ := h.nw
  refine ⟨by rw [upd_ne m2, upd_ne m1]; exact h.ob, ⟨_, by rw [upd_ne h.ne, upd_same], d1.drop⟩, ⟨_, upd_same, d2.drop.imp fun j u ⟨b, eb, hb⟩ => ⟨b, eb, by rw [eo]; exact hb⟩⟩, ⟨vs, by rw [upd_ne n2.symm, upd_ne n1.symm]; exact e3, by rw [eo]; exact d3⟩, h.ne⟩
/-- news.append(t) -/
theorem HandsAt.tell {vs : List V} {u : V} {t : Told} (h : HandsAt CH H x dx dd dn nl st) (e3 : H nl = some (.lst vs)) (d3 : All2 (Rep (Off [dd, dn, nl] H)) vs (st.news.map toldD)) (r : Rep (Off [dd, dn, nl] H) u (toldD t)) :
    HandsAt CH (upd H nl (.lst (vs ++ [u]))) x dx dd dn nl (st.tell t) := by
  have eo : Off [dd, dn, nl] (upd H nl (.lst (vs ++ [u]))) = Off [dd, dn, nl] H := by rw [off_upd (by simp)]
  obtain ⟨m1, m2, m3⟩ := h.n3
  obtain ⟨kd, e1, d1⟩ := h.du
  obtain ⟨kn, e2, d2⟩ := h.nu
  refine ⟨by rw [upd_ne m3]; exact h.ob, ⟨_, by rw [upd_ne h.n1]; exact e1, d1⟩, ⟨_, by rw [upd_ne h.n2]; exact e2, d2.imp fun j u ⟨b, eb, hb⟩ => ⟨b, eb, by rw [eo]; exact hb⟩⟩, ⟨_, upd_same, ?_⟩, h.ne⟩
  show All2 _ _ ((st.news ++ [t]).map toldD)
  rw [eo, List.map_append]
  exact d3.snoc r
theorem HandsAt.news_len {vs : List V} (e : All2 (Rep (Off [dd, dn, nl] H)) vs (st.news.map toldD)) : vs.length = st.news.length := by rw [e.length_eq, List.length_map]
end
/-- all but the hands' own stays -/
abbrev Fr3 (dd dn nl : Addr) (H H' : Hp) : Prop := Same (Off [dd, dn, nl] H) (Off [dd, dn, nl] H')
theorem fr_upd {dd dn nl e : Addr} {H : Hp} {o : HO} (h : e ∈ [dd, dn, nl]) : Fr3 dd dn nl H (upd H e o) := by
  unfold Fr3
  rw [off_upd h]; exact Same.refl _
theorem fr_new {dd dn nl : Addr} {H H' : Hp} (s : Same H H') : Fr3 dd dn nl H H' := off_same s
/-! ### promises -/
def HQ (CH x dx dd dn nl : Addr) (H : Hp) (st' : Hs) (Q : Hp → Prop) : Prop := ∀ H', Fr3 dd dn nl H H' → HandsAt CH H' x dx dd dn nl st' → Q H'
def spHInit (CH : Addr) : Sp := fun vs H Q _ => ∃ (x dx : Addr), vs = [.ref x] ∧ H x = some (.ins CH dx []) ∧
  ∀ dd dn nl H', H dd = none → H dn = none → H nl = none → (∀ b o, b ≠ x → H b = some o → H' b = some o) → HandsAt CH H' x dx dd dn nl Hs.nil → Q .non H'
def spHold (CH : Addr) : Sp := fun vs H Q _ => ∃ (x dx dd dn nl a : Addr) (st : Hs) (k d : Int) (ns : List Int), vs = [.ref x, .int k, .ref a, .int d] ∧ HandsAt CH H x dx dd dn nl st ∧ st.ks.length ≤ 100000 ∧ Off [dd, dn, nl] H a = some (.lst (ns.map V.int)) ∧ HQ CH x dx dd dn nl H (st.hold k ns d) (Q .non)
def spLetGo (CH : Addr) : Sp := fun vs H Q _ => ∃ (x dx dd dn nl : Addr) (st : Hs) (k : Int), vs = [.ref x, .int k] ∧ HandsAt CH H x dx dd dn nl st ∧ k ∈ st.ks ∧
  ∀ a, Off [dd, dn, nl] H a = some (.lst ((st.f k).2.map V.int)) → HQ CH x dx dd dn nl H (st.drop k) (Q (.ref a))
def spLose (CH : Addr) : Sp := fun vs H Q _ => ∃ (x dx dd dn nl : Addr) (st : Hs) (k p : Int), vs = [.ref x, .int k, .int p] ∧ HandsAt CH H x dx dd dn nl st ∧ st.news.length ≤ 100000 ∧ HQ CH x dx dd dn nl H (st.lose k p) (Q .non)
def spKeep (CH : Addr) : Sp := fun vs H Q _ => ∃ (x dx dd dn nl a : Addr) (st : Hs) (k p : Int) (ns : List Int) (W M : Nat), vs = [.ref x, .int k, .ref a, .int p] ∧ HandsAt CH H x dx dd dn nl st ∧ HsOk st W M ∧ W + ns.length ≤ 90000 ∧ M ≤ 90000 ∧ Off [dd, dn, nl] H a = some (.lst (ns.map V.int)) ∧
  HQ CH x dx dd dn nl H (st.keep k ns p).1 (Q (.bl (st.keep k ns p).2))
def spHTake (CH : Addr) : Sp := fun vs H Q _ => ∃ (x dx dd dn nl a : Addr) (st : Hs) (l s p : Int) (ns : List Int) (W M : Nat), vs = [.ref x, .int l, .ref a, .int s, .int p] ∧ HandsAt CH H x dx dd dn nl st ∧ HsOk st W M ∧ W + ns.length ≤ 90000 ∧ M ≤ 90000 ∧ Off [dd, dn, nl] H a = some (.lst (ns.map V.int)) ∧
  HQ CH x dx dd dn nl H (st.take l ns s p) (Q .non)
def spBehind (CH : Addr) : Sp := fun vs H Q _ => ∃ (v : V) (es : List Ev), vs = [v] ∧ Rep H v (evsD es) ∧ bxWs es ≤ 40000 ∧ es.length ≤ 40000 ∧ ∀ x dx dd dn nl H', Same H H' → H x = none → HandsAt CH H' x dx dd dn nl (Hs.nil.run es) → Q (.ref x) H'
def spUnpacked : Sp := fun vs H Q _ => ∃ (v : V) (es : List Ev), vs = [v] ∧ Rep H v (evsD es) ∧ bxWs es ≤ 40000 ∧ es.length ≤ 40000 ∧ ∀ u H', Same H H' → Rep H' u (.lst ((Hs.nil.run es).news.map toldD)) → Q u H'
def spWaiting : Sp := fun vs H Q _ => ∃ (v : V) (es : List Ev), vs = [v] ∧ Rep H v (evsD es) ∧ bxWs es ≤ 40000 ∧ es.length ≤ 40000 ∧ (Hs.nil.run es).ks.length < 64 ∧
  ∀ l H' (ns' : List Int), Same H H' → ns'.Perm (Hs.nil.run es).ks → ns'.Pairwise (· ≤ ·) → H' l = some (.lst (ns'.map V.int)) → Q (.ref l) H'
def fltD : Ev → List D
  | .box _ _ _ _ => []
  | .stray p => [.tup [.str "stray", .int p]]
  | .escape p => [.tup [.str "escape", .int p]]
  | .great p => [.tup [.str "great", .int p]]
  | .check p => [.tup [.str "check", .int p]]
  | .cut p => [.tup [.str "cut", .int p]]
  | .fin p => [.tup [.str "end", .int p]]
/-- what the top says of the class Hands -/
structure TH (K : PySem.W.Frag) (mg : Str → Option Value) (CH : Addr) : Prop where
  cl : Cls K CH
  n1 : NoAttr K CH "due"
  n2 : NoAttr K CH "numbers"
  n3 : NoAttr K CH "news"
  m : mg "Hands" = some (.ref CH)
end BB

set_option linter.all false
/-! Boxes of several parcels in turns; the keys (count, parcel), sorted. -/
namespace BB
abbrev Bxx := Int × List Int
def maxR (rows : List (List Bxx)) : Nat := rows.foldl (fun m r => max m r.length) 0
def mixAt (rows : List (List Bxx)) (c : Nat) : List Bxx := rows.filterMap fun r => r[c]?
def mixR (rows : List (List Bxx)) : List Bxx := (List.range (maxR rows)).flatMap (mixAt rows)
def rowOf (rows : List (List Bxx)) (k : Nat) : List Bxx := rows.getD k []
/-- the law's keys, parcel by parcel -/
def keysR (rows : List (List Bxx)) : List (Nat × Nat) := (List.range rows.length).flatMap fun k => (List.range (rowOf rows k).length).map fun j => (j, k)
def mixKeys (rows : List (List Bxx)) : List (Nat × Nat) := (List.range (maxR rows)).flatMap fun c => (List.range rows.length).filterMap fun k => if c < (rowOf rows k).length then some (c, k) else none
def boxAt (rows : List (List Bxx)) (p : Nat × Nat) : Bxx := (rowOf rows p.2).getD p.1 (0, [])
def klt (a b : Nat × Nat) : Prop := a.1 < b.1 ∨ (a.1 = b.1 ∧ a.2 < b.2)
theorem foldl_max : ∀ (rows : List (List Bxx)) (m : Nat), m ≤ rows.foldl (fun m r => max m r.length) m ∧ ∀ r ∈ rows, r.length ≤ rows.foldl (fun m r => max m r.length) m
  | [], m => ⟨Nat.le_refl _, fun r h => nomatch h⟩
  | r :: rs, m => by
    obtain ⟨h1, h2⟩ := foldl_max rs (max m r.length)
    refine ⟨Nat.le_trans (Nat.le_max_left _ _) h1, fun q hq => ?_⟩
    rcases List.mem_cons.mp hq with z | z
    · subst z; exact Nat.le_trans (Nat.le_max_right _ _) h1
    · exact h2 q z
theorem row_le {rows : List (List Bxx)} {r : List Bxx} (h : r ∈ rows) : r.length ≤ maxR rows := (foldl_max rows 0).2 r h
theorem rowOf_mem {rows : List (List Bxx)} {k : Nat} (h : k < rows.length) : rowOf rows k ∈ rows := by
  unfold rowOf
  rw [List.getD_eq_getElem?_getD, List.getElem?_eq_getElem h]
  exact List.getElem_mem h
theorem mem_keys {rows : List (List Bxx)} {p : Nat × Nat} : p ∈ keysR rows ↔ p.2 < rows.length ∧ p.1 < (rowOf rows p.2).length := by
  unfold keysR
  rw [List.mem_flatMap]
  constructor
  · rintro ⟨k, hk, h⟩
    obtain ⟨j, hj, rfl⟩ := List.mem_map.mp h
    exact ⟨List.mem_range.mp hk, List.mem_range.mp hj⟩
  · rintro ⟨h1, h2⟩
    exact ⟨p.2, List.mem_range.mpr h1, List.mem_map.mpr ⟨p.1, List.mem_range.mpr h2, rfl⟩⟩
theorem mem_mixKeys {rows : List (List Bxx)} {p : Nat × Nat} : p ∈ mixKeys rows ↔ p.2 < rows.length ∧ p.1 < (rowOf rows p.2).length := by
  unfold mixKeys
  rw [List.mem_flatMap]
  constructor
  · rintro ⟨c, hc, h⟩
    obtain ⟨k, hk, e⟩ := List.mem_filterMap.mp h
    split at e
    · rename_i hl
      cases e
      exact ⟨List.mem_range.mp hk, hl⟩
    · cases e
  · rintro ⟨h1, h2⟩
    refine ⟨p.1, List.mem_range.mpr (Nat.lt_of_lt_of_le h2 (row_le (rowOf_mem h1))), List.mem_filterMap.mpr ⟨p.2, List.mem_range.mpr h1, ?_⟩⟩
    rw [if_pos h2]
theorem mixKeys_sorted (rows : List (List Bxx)) : (mixKeys rows).Pairwise klt := by
  unfold mixKeys
  rw [List.pairwise_flatMap]
  refine ⟨fun c _ => ?_, ?_⟩
  · rw [List.pairwise_filterMap]
    refine List.Pairwise.imp ?_ List.pairwise_lt_range
    intro a b hab x hx y hy
    split at hx
    · split at hy
      · cases hx; cases hy
        exact .inr ⟨rfl, hab⟩
      · cases hy
    · cases hx
  · refine List.Pairwise.imp ?_ List.pairwise_lt_range
    intro a b hab x hx y hy
    obtain ⟨k, _, e⟩ := List.mem_filterMap.mp hx
    obtain ⟨l, _, e'⟩ := List.mem_filterMap.mp hy
    split at e
    · split at e'
      · cases e; cases e'
        exact .inl hab
      · cases e'
    · cases e
theorem klt_ne {a b : Nat × Nat} (h : klt a b) : a ≠ b := by
  rintro rfl
  unfold klt at h
  omega
theorem keys_nodup (rows : List (List Bxx)) : (keysR rows).Nodup := by
  unfold keysR List.Nodup
  rw [List.pairwise_flatMap]
  refine ⟨fun k _ => ?_, ?_⟩
  · rw [List.pairwise_map]
    refine List.Pairwise.imp ?_ List.pairwise_lt_range
    intro a b hab e
    have := (Prod.mk.inj e).1
    omega
  · refine List.Pairwise.imp ?_ List.pairwise_lt_range
    intro a b hab x hx y hy e
    obtain ⟨j, _, rfl⟩ := List.mem_map.mp hx
    obtain ⟨l, _, rfl⟩ := List.mem_map.mp hy
    have := (Prod.mk.inj e).2
    omega
theorem mixKeys_nodup (rows : List (List Bxx)) : (mixKeys rows).Nodup := List.Pairwise.imp (fun h => klt_ne h) (mixKeys_sorted rows)
theorem mixKeys_perm (rows : List (List Bxx)) : (mixKeys rows).Perm (keysR rows) := (List.perm_ext_iff_of_nodup (mixKeys_nodup rows) (keys_nodup rows)).mpr fun a => by rw [mem_mixKeys, mem_keys]
/-- sorted by the code, the keys come as they are mixed -/
def codeK (p : Nat × Nat) : Nat := 1000 * p.1 + p.2
theorem keys_sorted {rows : List (List Bxx)} {ks : List (Nat × Nat)} (hr : rows.length ≤ 1000) (hp : ks.Perm (keysR rows)) (hs : ks.Pairwise fun a b => codeK a ≤ codeK b) : ks = mixKeys rows := by
  refine List.Perm.eq_of_pairwise (le := fun a b => codeK a ≤ codeK b) (fun a b ha hb h1 h2 => ?_) hs ?_ (hp.trans (mixKeys_perm rows).symm)
  · have ea := (mem_keys.mp (hp.mem_iff.mp ha)).1
    have eb := (mem_mixKeys.mp hb).1
    unfold codeK at h1 h2
    obtain ⟨a1, a2⟩ := a
    obtain ⟨b1, b2⟩ := b
    simp only at ea eb h1 h2
    have e2 : a1 = b1 := by omega
    have e3 : a2 = b2 := by omega
    rw [e2, e3]
  · refine List.Pairwise.imp_of_mem (fun {a b} ha hb h => ?_) (mixKeys_sorted rows)
    have ea := (mem_mixKeys.mp ha).1
    unfold klt at h
    unfold codeK
    omega
theorem range_rows (rows : List (List Bxx)) : (List.range rows.length).map (rowOf rows) = rows := by
  apply List.ext_getElem?
  intro i
  rw [List.getElem?_map]
  by_cases h : i < rows.length
  · rw [List.getElem?_eq_getElem (by rw [List.length_range]; exact h), List.getElem_range, List.getElem?_eq_getElem h]
    show some (rows.getD i []) = some rows[i]
    rw [List.getD_eq_getElem?_getD, List.getElem?_eq_getElem h]; rfl
  · rw [List.getElem?_eq_none (by rw [List.length_range]; omega), List.getElem?_eq_none (by omega)]; rfl
theorem mix_boxes (rows : List (List Bxx)) : (mixKeys rows).map (boxAt rows) = mixR rows := by
  unfold mixKeys mixR
  rw [List.map_flatMap]
  congr 1
  funext c
  unfold mixAt
  rw [List.map_filterMap]
  conv => rhs; rw [← range_rows rows, List.filterMap_map]
  congr 1
  funext k
  show Option.map (boxAt rows) (if c < (rowOf rows k).length then some (c, k) else none) = (rowOf rows k)[c]?
  by_cases h : c < (rowOf rows k).length
  · rw [if_pos h, List.getElem?_eq_getElem h]
    show some ((rowOf rows k).getD c (0, [])) = _
    rw [List.getD_eq_getElem?_getD, List.getElem?_eq_getElem h]; rfl
  · rw [if_neg h, List.getElem?_eq_none (by omega)]; rfl
/-! ### parcels -/
def rowsP (m : Nat) (ps : List Bxx) : List (List Bxx) := ps.map fun p => boxed p.1 m p.2
def mixP (m : Nat) (ps : List Bxx) : List Bxx := mixR (rowsP m ps)
theorem mem_mix {rows : List (List Bxx)} {b : Bxx} (h : b ∈ mixR rows) : ∃ r ∈ rows, b ∈ r := by
  unfold mixR at h
  obtain ⟨c, _, h⟩ := List.mem_flatMap.mp h
  obtain ⟨r, hr, e⟩ := List.mem_filterMap.mp h
  exact ⟨r, hr, List.mem_of_getElem? e⟩
theorem nb_len {l m : Nat} (hm : 1 ≤ m) : nb l m ≤ l + 1 := by
  unfold nb
  have : (l + m - 1) / m ≤ l := by
    cases l with
    | zero =>
      have : (0 + m - 1) / m = 0 := Nat.div_eq_of_lt (by omega)
      omega
    | succ l =>
      have h : (l + 1 + m - 1) / m < l + 2 := by
        rw [Nat.div_lt_iff_lt_mul (by omega)]
        have : (l + 2) * 1 ≤ (l + 2) * m := Nat.mul_le_mul_left _ hm
        have e : (l + 2) * m = (l + 1) * m + m := by rw [Nat.add_mul, Nat.add_mul]; omega
        have : (l + 1) * 1 ≤ (l + 1) * m := Nat.mul_le_mul_left _ hm
        omega
      omega
  omega
theorem boxed_len {sd : Int} {m : Nat} (hm : 1 ≤ m) (xs : List Int) : (boxed sd m xs).length = nb xs.length m := by rw [boxed_eq sd hm, List.length_map, List.length_range]
theorem keys_len_le {m : Nat} (hm : 1 ≤ m) (ps : List Bxx) : (keysR (rowsP m ps)).length ≤ (ps.map fun p => p.2.length + 1).sum := by
  unfold keysR
  rw [List.length_flatMap]
  have e : ((List.range (rowsP m ps).length).map fun k => ((List.range (rowOf (rowsP m ps) k).length).map fun j => (j, k)).length) = (rowsP m ps).map List.length := by
    conv => rhs; rw [← range_rows (rowsP m ps), List.map_map]
    apply List.map_congr_left
    intro k _
    rw [List.length_map, List.length_range]; rfl
  rw [e]
  unfold rowsP
  rw [List.map_map]
  clear e
  induction ps with
  | nil => exact Nat.le_refl _
  | cons p r ih =>
    have h1 : (boxed p.1 m p.2).length ≤ p.2.length + 1 := by rw [boxed_len hm]; exact nb_len hm
    rw [List.map_cons, List.map_cons, List.sum_cons, List.sum_cons]
    show (boxed p.1 m p.2).length + _ ≤ _
    omega
theorem mix_len (rows : List (List Bxx)) : (mixR rows).length = (keysR rows).length := by
  rw [← mix_boxes, List.length_map]
  exact (mixKeys_perm rows).length_eq
end BB

set_option Elab.async false
set_option linter.all false
set_option maxRecDepth 100000
set_option maxHeartbeats 4000000
/-! sorted() of tuples that begin with two ints, no two the same: the order of the tree of comparisons. -/
namespace L2
open PySem PySem.Spec PyProof.Rows PySem.W
def UpS (f : Nat → Nat) (p : Array Nat) (k : Nat) : Prop := ∀ i j, i ≤ j → j < k → f (p.getD i 0) ≤ f (p.getD j 0)
abbrev CmpT := Nat → Nat → (Bool → Shared → Prop) → Shared → Prop
def Asks (n : Nat) (f : Nat → Nat) (cmp : CmpT) : Prop := ∀ (i j : Nat) (C : Bool → Shared → Prop) (s : Shared), i < n → j < n → i ≠ j → C (decide (f i < f j)) s → cmp i j C s
section
variable {n : Nat} {f : Nat → Nat} {cmp : CmpT}
theorem UpS.next {p : Array Nat} {k : Nat} (h : UpS f p k) (h1 : 1 ≤ k) (hk : f (p.getD (k - 1) 0) ≤ f (p.getD k 0)) : UpS f p (k + 1) := fun i j hij hj => by
  by_cases e : j = k
  · subst e
    by_cases e2 : i = j
    · subst e2; exact Nat.le_refl _
    · exact Nat.le_trans (h i (j - 1) (by omega) (by omega)) hk
  · exact h i j hij (by omega)
/-- the numbers below n, each once -/
structure Perm0 (n : Nat) (p : Array Nat) : Prop where
  sz : p.size = n
  pm : p.toList.Perm (List.range n)
theorem Perm0.get {p : Array Nat} (h : Perm0 n p) {i : Nat} (hi : i < n) : p.toList[i]? = some (p.getD i 0) := by
  have hi' : i < p.size := by rw [h.sz]; exact hi
  rw [Array.getElem?_toList, Array.getD_eq_getD_getElem?, Array.getElem?_eq_getElem hi']; rfl
theorem Perm0.lt {p : Array Nat} (h : Perm0 n p) {i : Nat} (hi : i < n) : p.getD i 0 < n := List.mem_range.mp (h.pm.mem_iff.mp (List.mem_of_getElem? (h.get hi)))
theorem Perm0.inj {p : Array Nat} (h : Perm0 n p) {i j : Nat} (hi : i < n) (hj : j < n) (e : p.getD i 0 = p.getD j 0) : i = j := by
  have nd : p.toList.Nodup := (h.pm.nodup_iff).mpr List.nodup_range
  have li : i < p.toList.length := by rw [Array.length_toList, h.sz]; exact hi
  have lj : j < p.toList.length := by rw [Array.length_toList, h.sz]; exact hj
  have ei := h.get hi
  have ej := h.get hj
  rw [List.getElem?_eq_getElem li] at ei
  rw [List.getElem?_eq_getElem lj] at ej
  have q : p.toList[i] = p.toList[j] := (Option.some.inj ei).trans (e.trans (Option.some.inj ej).symm)
  have pw := List.pairwise_iff_getElem.mp nd
  rcases Nat.lt_trichotomy i j with z | z | z
  · exact absurd q (pw i j li lj z)
  · exact z
  · exact absurd q.symm (pw j i lj li z)
theorem asc_wp {p : Array Nat} (hp : Perm0 n p) (hc : Asks n f cmp) : ∀ (fu a : Nat), 1 ≤ a → a + fu = n → UpS f p a →
    ∃ m, a ≤ m ∧ m ≤ n ∧ UpS f p m ∧ (m < n → f (p.getD m 0) < f (p.getD (m - 1) 0)) ∧ ∀ (Q : Nat → Shared → Prop) (s : Shared), Q m s → (kas_asc p fu a).kasWp cmp Q s
  | 0, a, h1, e, hu => ⟨a, Nat.le_refl _, by omega, hu, fun h => by omega, fun Q s q => q⟩
  | fu + 1, a, h1, e, hu => by
    have ne : p.getD a 0 ≠ p.getD (a - 1) 0 := fun z => by
      have := hp.inj (by omega) (by omega) z
      omega
    by_cases hlt : f (p.getD a 0) < f (p.getD (a - 1) 0)
    · refine ⟨a, Nat.le_refl _, by omega, hu, fun _ => hlt, fun Q s q => ?_⟩
      refine hc (p.getD a 0) (p.getD (a - 1) 0) (fun b s' => (if b = true then KasT.ret a else kas_asc p fu (a + 1)).kasWp cmp Q s') s (hp.lt (by omega)) (hp.lt (by omega)) ne ?_
      rw [decide_eq_true hlt]
      exact q
    · obtain ⟨m, m1, m2, m3, m4, m5⟩ := asc_wp hp hc fu (a + 1) (by omega) (by omega) (hu.next h1 (by omega))
      refine ⟨m, by omega, m2, m3, m4, fun Q s q => ?_⟩
      refine hc (p.getD a 0) (p.getD (a - 1) 0) (fun b s' => (if b = true then KasT.ret a else kas_asc p fu (a + 1)).kasWp cmp Q s') s (hp.lt (by omega)) (hp.lt (by omega)) ne ?_
      rw [decide_eq_false hlt]
      exact m5 Q s q
theorem perm0_range : Perm0 n (List.toArray (List.range n)) := ⟨by simp, by simp⟩
theorem range_getD {i : Nat} (h : i < n) : (List.toArray (List.range n)).getD i 0 = i := by
  rw [Array.getD_eq_getD_getElem?]
  simp [h]
/-- where the first one is the least, the first run goes up -/
theorem count_wp (h2 : 2 ≤ n) (hmin : ∀ i, 0 < i → i < n → f 0 < f i) (hc : Asks n f cmp) :
    ∃ m, 1 ≤ m ∧ m ≤ n ∧ UpS f (List.toArray (List.range n)) m ∧ ∀ (Q : Nat × Array Nat → Shared → Prop) (s : Shared), Q (m, List.toArray (List.range n)) s → (kas_count n (List.toArray (List.range n))).kasWp cmp Q s := by
  have hp := perm0_range (n := n)
  obtain ⟨m, m1, m2, m3, m4, m5⟩ := asc_wp (f := f) hp hc (n - 1) 1 (Nat.le_refl _) (by omega) (fun i j hij hj => by
    have e1 : i = 0 := by omega
    have e2 : j = 0 := by omega
    rw [e1, e2]; exact Nat.le_refl _)
  have hm : 2 ≤ m := by
    by_cases e : m = 1
    · subst e
      have z := m4 (by omega)
      rw [show 1 - 1 = 0 from rfl, range_getD (by omega), range_getD (by omega)] at z
      have := hmin 1 (by omega) (by omega)
      omega
    · omega
  refine ⟨m, by omega, m2, m3, fun Q s q => ?_⟩
  unfold kas_count
  rw [KasT.kasWp_bind]
  refine m5 _ s ?_
  by_cases e : m = n
  · rw [if_pos (by rw [e]; exact beq_self_eq_true _)]; exact q
  · rw [if_neg (by intro z; exact e (beq_iff_eq.mp z)), if_pos (by omega : m > 1)]
    refine hc _ _ (fun c s' => (if c = true then KasT.ret (m, List.toArray (List.range n)) else kas_descPart m n (kas_rev (List.toArray (List.range n)) 0 m)).kasWp cmp Q s') s (hp.lt (by omega)) (hp.lt (by omega)) ?_ ?_
    · rw [range_getD (by omega), range_getD (by omega)]; omega
    · rw [range_getD (by omega), range_getD (by omega), decide_eq_true (hmin (m - 1) (by omega) (by omega))]
      exact q
theorem place_wp {p : Array Nat} {k : Nat} (hp : Perm0 n p) (hk : k < n) (hu : UpS f p k) (hc : Asks n f cmp) : ∀ (fu l r : Nat), l ≤ r → r ≤ k → r - l ≤ fu → (∀ i, i < l → f (p.getD i 0) ≤ f (p.getD k 0)) → (∀ i, r ≤ i → i < k → f (p.getD k 0) < f (p.getD i 0)) →
    ∃ l', l' ≤ k ∧ (∀ i, i < l' → f (p.getD i 0) ≤ f (p.getD k 0)) ∧ (∀ i, l' ≤ i → i < k → f (p.getD k 0) < f (p.getD i 0)) ∧ ∀ (Q : Nat → Shared → Prop) (s : Shared), Q l' s → (kas_place p k fu l r).kasWp cmp Q s
  | 0, l, r, h1, h2, h3, a1, a2 => ⟨l, by omega, a1, fun i z1 z2 => a2 i (by omega) z2, fun Q s q => q⟩
  | fu + 1, l, r, h1, h2, h3, a1, a2 => by
    by_cases hge : l ≥ r
    · refine ⟨l, by omega, a1, fun i z1 z2 => a2 i (by omega) z2, fun Q s q => ?_⟩
      unfold kas_place
      rw [if_pos hge]; exact q
    · have hm1 : l ≤ (l + r) / 2 := by omega
      have hm2 : (l + r) / 2 < r := by omega
      generalize hmid : (l + r) / 2 = mid at hm1 hm2
      have ne : p.getD k 0 ≠ p.getD mid 0 := fun z => by
        have := hp.inj (by omega) (by omega) z
        omega
      by_cases hlt : f (p.getD k 0) < f (p.getD mid 0)
      · obtain ⟨l', l1, l2, l3, l4⟩ := place_wp hp hk hu hc fu l mid hm1 (by omega) (by omega) a1 (fun i z1 z2 => Nat.lt_of_lt_of_le hlt (hu mid i z1 z2))
        refine ⟨l', l1, l2, l3, fun Q s q => ?_⟩
        unfold kas_place
        rw [if_neg hge, hmid]
        refine hc _ _ (fun c s' => (if c = true then kas_place p k fu l mid else kas_place p k fu (mid + 1) r).kasWp cmp Q s') s (hp.lt (by omega)) (hp.lt (by omega)) ne ?_
        rw [decide_eq_true hlt]
        exact l4 Q s q
      · obtain ⟨l', l1, l2, l3, l4⟩ := place_wp hp hk hu hc fu (mid + 1) r (by omega) h2 (by omega) (fun i z => Nat.le_trans (hu i mid (by omega) (by omega)) (by omega)) a2
        refine ⟨l', l1, l2, l3, fun Q s q => ?_⟩
        unfold kas_place
        rw [if_neg hge, hmid]
        refine hc _ _ (fun c s' => (if c = true then kas_place p k fu l mid else kas_place p k fu (mid + 1) r).kasWp cmp Q s') s (hp.lt (by omega)) (hp.lt (by omega)) ne ?_
        rw [decide_eq_false hlt]
        exact l4 Q s q
theorem bubble_getD {p : Array Nat} {k l : Nat} (hk : k < p.size) (hl : l ≤ k) (i : Nat) : (bubble p k (k - l)).getD i 0 = if i = l then p.getD k 0 else if l < i ∧ i ≤ k then p.getD (i - 1) 0 else p.getD i 0 := by
  have e : k - (k - l) = l := by omega
  have g := getElem?_bubble hk (k - l) (by omega) i
  rw [e] at g
  simp only [Array.getD_eq_getD_getElem?, g]
  split
  · rfl
  · split <;> rfl
theorem bin_wp (hc : Asks n f cmp) : ∀ (fu : Nat) (p : Array Nat) (k : Nat), 1 ≤ k → k + fu = n → Perm0 n p → UpS f p k →
    ∃ p', Perm0 n p' ∧ UpS f p' n ∧ ∀ (Q : Array Nat → Shared → Prop) (s : Shared), Q p' s → (kas_bin fu p k).kasWp cmp Q s
  | 0, p, k, _, e, hp, hu => ⟨p, hp, (by have : k = n := by omega
                                         rw [← this]; exact hu), fun Q s q => q⟩
  | fu + 1, p, k, h1, e, hp, hu => by
    obtain ⟨l, l1, l2, l3, l4⟩ := place_wp hp (by omega) hu hc k 0 k (Nat.zero_le _) (Nat.le_refl _) (by omega) (fun i z => absurd z (Nat.not_lt_zero _)) (fun i z1 z2 => absurd z2 (by omega))
    have hks : k < p.size := by rw [hp.sz]; omega
    have hb : Perm0 n (bubble p k (k - l)) := ⟨by rw [bubble_size]; exact hp.sz, (Array.perm_iff_toList_perm.mp (bubble_perm p k (k - l))).trans hp.pm⟩
    have hu2 : UpS f (bubble p k (k - l)) (k + 1) := fun i j hij hj => by
      rw [bubble_getD hks l1, bubble_getD hks l1]
      by_cases i1 : i = l
      · rw [if_pos i1]
        by_cases j1 : j = l
        · rw [if_pos j1]; exact Nat.le_refl _
        · rw [if_neg j1, if_pos (by omega : l < j ∧ j ≤ k)]
          exact Nat.le_of_lt (l3 (j - 1) (by omega) (by omega))
      · rw [if_neg i1]
        by_cases i2 : l < i ∧ i ≤ k
        · rw [if_pos i2, if_neg (by omega : ¬ j = l), if_pos (by omega : l < j ∧ j ≤ k)]
          exact hu (i - 1) (j - 1) (by omega) (by omega)
        · rw [if_neg i2]
          by_cases j1 : j = l
          · rw [if_pos j1]; exact l2 i (by omega)
          · rw [if_neg j1]
            by_cases j2 : l < j ∧ j ≤ k
            · rw [if_pos j2]; exact hu i (j - 1) (by omega) (by omega)
            · rw [if_neg j2]; exact hu i j hij (by omega)
    obtain ⟨p', p1, p2, p3⟩ := bin_wp hc fu (bubble p k (k - l)) (k + 1) (by omega) (by omega) hb hu2
    refine ⟨p', p1, p2, fun Q s q => ?_⟩
    unfold kas_bin
    rw [KasT.kasWp_bind]
    exact l4 _ s (p3 Q s q)
theorem sort_wp (h2 : 2 ≤ n) (hmin : ∀ i, 0 < i → i < n → f 0 < f i) (hc : Asks n f cmp) :
    ∃ p, Perm0 n p ∧ UpS f p n ∧ ∀ (Q : Array Nat → Shared → Prop) (s : Shared), Q p s → (kas_sort n).kasWp cmp Q s := by
  obtain ⟨m, m1, m2, m3, m4⟩ := count_wp h2 hmin hc
  by_cases e : m < n
  · obtain ⟨p, p1, p2, p3⟩ := bin_wp hc (n - m) (List.toArray (List.range n)) m m1 (by omega) perm0_range m3
    refine ⟨p, p1, p2, fun Q s q => ?_⟩
    unfold kas_sort
    rw [KasT.kasWp_bind]
    refine m4 _ s ?_
    have e2 : max m 1 = m := by omega
    show (if m < n then kas_bin (n - max m 1) (List.toArray (List.range n)) (max m 1) else KasT.ret (List.toArray (List.range n))).kasWp cmp Q s
    rw [if_pos e, e2]
    exact p3 Q s q
  · have e1 : m = n := by omega
    refine ⟨List.toArray (List.range n), perm0_range, by rw [← e1]; rw [← e1] at m3; exact m3, fun Q s q => ?_⟩
    unfold kas_sort
    rw [KasT.kasWp_bind]
    refine m4 _ s ?_
    show (if m < n then kas_bin (n - max m 1) (List.toArray (List.range n)) (max m 1) else KasT.ret (List.toArray (List.range n))).kasWp cmp Q s
    rw [if_neg e]
    exact q
end
/-! ### in the heap -/
def code2 (c : Nat × Nat) : Nat := 1000 * c.1 + c.2
/-- a tuple that begins with these two -/
def TupK (h : Heap) (v : Value) (c : Nat × Nat) : Prop := ∃ a o r n t u, v = .ref a ∧ h.get? a = some o ∧ o.cls = .type "tuple" ∧ o.data = .seq (Value.int c.1 t :: Value.int c.2 u :: r).toArray n
theorem TupK.keep {h h' : Heap} {v : Value} {c : Nat × Nat} {b : Addr} {ob : Obj} (k : TupK h v c) (hb : h.get? b = some ob) (hc : ob.cls ≠ .type "tuple") (hk : ∀ d o, d ≠ b → h.get? d = some o → h'.get? d = some o) : TupK h' v c := by
  obtain ⟨a, o, r, n, t, u, e, ho, h1, h2⟩ := k
  refine ⟨a, o, r, n, t, u, e, hk a o (fun z => ?_) ho, h1, h2⟩
  subst z
  rw [hb] at ho; cases ho
  exact hc h1
section
variable {prog : Program} {w : World} {A : Around} {E : Value → Shared → Prop} {s : Shared}
theorem tupK_lt {v v' : Value} {c c' : Nat × Nat} {Q : Bool → Shared → Prop} (hv : TupK s.heap v c) (hv' : TupK s.heap v' c') (ne : c ≠ c') (b1 : c.2 < 1000) (b2 : c'.2 < 1000) (q : Q (decide (code2 c < code2 c')) s) :
    wpAny (model prog w) A (keyLt' (tuples' true) v v') Q E s := by
  obtain ⟨a, o, r, n, t, u, rfl, ho, _, hd⟩ := hv
  obtain ⟨a', o', r', n', t', u', rfl, ho', _, hd'⟩ := hv'
  refine kat_lt ho hd ho' hd' ?_
  show KatLex prog w A true _ Q ((Value.int c.1 t, Value.int c'.1 t') :: (Value.int c.2 u, Value.int c'.2 u') :: r.zip r') 0 s
  refine kat_cons (wpAny_eqBool_int ?_)
  unfold code2 at q
  by_cases e : c.1 = c'.1
  · have e1 : ((c.1 : Int) == (c'.1 : Int)) = true := by rw [e]; exact beq_self_eq_true _
    have n2 : c.2 ≠ c'.2 := fun z => ne (Prod.ext e z)
    have e2 : ((c.2 : Int) == (c'.2 : Int)) = false := by
      rw [beq_eq_false_iff_ne]
      intro z; exact n2 (by omega)
    rw [e1]
    refine kat_yes (kat_cons (wpAny_eqBool_int ?_))
    rw [e2]
    refine kat_no (kat_one _ _ (lt_int ?_))
    have e3 : decide ((c.2 : Int) < (c'.2 : Int)) = decide (1000 * c.1 + c.2 < 1000 * c'.1 + c'.2) := by
      by_cases z : c.2 < c'.2
      · rw [decide_eq_true (by omega), decide_eq_true (by omega)]
      · rw [decide_eq_false (by omega), decide_eq_false (by omega)]
    show Q (decide ((c.2 : Int) < (c'.2 : Int))) s
    rw [e3]; exact q
  · have e1 : ((c.1 : Int) == (c'.1 : Int)) = false := by
      rw [beq_eq_false_iff_ne]
      intro z; exact e (by omega)
    rw [e1]
    refine kat_no (oneLt_int ?_)
    have e3 : decide ((c.1 : Int) < (c'.1 : Int)) = decide (1000 * c.1 + c.2 < 1000 * c'.1 + c'.2) := by
      by_cases z : c.1 < c'.1
      · rw [decide_eq_true (by omega), decide_eq_true (by omega)]
      · rw [decide_eq_false (by omega), decide_eq_false (by omega)]
    rw [e3]; exact q
theorem katTups_of {h : Heap} : ∀ (vs : List Value) (cs : List (Nat × Nat)), vs.length = cs.length → (∀ (i : Nat) v c, vs[i]? = some v → cs[i]? = some c → TupK h v c) → ∃ fs, KatTups h vs fs ∧ fs.length = vs.length ∧ ∀ v ∈ fs, ∃ (i : Int) (t : Tok), v = .int i t
  | [], [], _, _ => ⟨[], KatTups.nil, rfl, fun v hv => nomatch hv⟩
  | [], c :: cs, hl, _ => by cases hl
  | v :: vs, [], hl, _ => by cases hl
  | v :: vs, c :: cs, hl, hk => by
    obtain ⟨fs, k1, k2, k3⟩ := katTups_of vs cs (by simpa using hl) fun i x y h1 h2 => hk (i + 1) x y h1 h2
    obtain ⟨a, o, r, n, t, u, rfl, ho, h1, h2⟩ := hk 0 v c rfl rfl
    refine ⟨.int c.1 t :: fs, KatTups.cons ho h1 h2 (by simp) k1, by rw [List.length_cons, List.length_cons, k2], fun x hx => ?_⟩
    rcases List.mem_cons.mp hx with z | z
    · exact ⟨_, _, z⟩
    · exact k3 x z
/-- list.sort of such tuples -/
theorem list_sortT {a : Addr} {vs : List Value} {cs : List (Nat × Nat)} {n : Nat} {P : PySem.Fin → Shared → Prop} (ho : s.heap.get? a = some (seqObj "list" vs.toArray n)) (h64 : vs.length < 64) (hl : vs.length = cs.length)
    (hk : ∀ (i : Nat) v c, vs[i]? = some v → cs[i]? = some c → TupK s.heap v c ∧ c.2 < 1000) (hmin : ∀ (i : Nat) c0 c, 0 < i → cs[0]? = some c0 → cs[i]? = some c → code2 c0 < code2 c) (nd : cs.Nodup)
    (h : ∀ p : Array Nat, Perm0 vs.length p → UpS (fun i => code2 (cs.getD i (0, 0))) p vs.length → P (.done (.ret .none)) { s with heap := sortedHeap s.heap a vs (List.toArray (p.toList.map fun i => vs.getD i Value.none)) }) :
    wpAny (model prog w) A (Builtin.«list.sort» ⟨[.ref a], []⟩) P E s := by
  have ha : a < s.heap.objs.size := Heap.lt_size ho
  have hline : (64 : Nat) ≤ sizeLine := by decide
  have hvl : vs.length ≤ sizeLine := by omega
  obtain ⟨e1, ho1⟩ : ∃ c, (s.heap.update a (Obj.mapSeq fun _ => #[])).get? a = some (seqObj "list" #[] c) := ⟨_, get?_update_seq ho (fun _ => #[])⟩
  have keep : ∀ d o, d ≠ a → s.heap.get? d = some o → (((s.heap.update a (Obj.mapSeq fun _ => #[])).push (seqObj "tuple" vs.toArray 0)).push (seqObj "list" #[] 0)).get? d = some o := fun d o hd q =>
    Heap.get?_push_of_some _ (Heap.get?_push_of_some _ ((Heap.get?_update_ne _ _ _ _ hd).trans q))
  have ho6 : (((s.heap.update a (Obj.mapSeq fun _ => #[])).push (seqObj "tuple" vs.toArray 0)).push (seqObj "list" #[] 0)).get? a = some (seqObj "list" #[] e1) := Heap.get?_push_of_some _ (Heap.get?_push_of_some _ ho1)
  rw [list_sort_plain]
  refine wpAny_bind (listItems_at ho rfl (wpAny_bind (listUpdate_at ho rfl (wpAny_bind (seqEpoch_at ho1 rfl (wpAny_bind (wpAny_newTuple (wpAny_bind (wpAny_newList (wpAny_holding ?_) (Nat.zero_le _))) hvl)))) (by rw [List.size_toArray]; exact hvl) (Nat.zero_le _))))
  show wpAny (model prog w) A _ P E (Shared.mk (((s.heap.update a (Obj.mapSeq fun _ => #[])).push (seqObj "tuple" vs.toArray 0)).push (seqObj "list" #[] 0)) s.gens s.drawn s.toks s.os)
  unfold sortedHeap at h
  generalize hH : ((s.heap.update a (Obj.mapSeq fun _ => #[])).push (seqObj "tuple" vs.toArray 0)).push (seqObj "list" #[] 0) = hh at keep ho6 h ⊢
  dsimp only
  have out : ∀ (p : Array Nat) (arr : Array Value), Perm0 vs.length p → UpS (fun i => code2 (cs.getD i (0, 0))) p vs.length → arr = List.toArray (p.toList.map fun i => vs.getD i Value.none) →
      arr.size ≤ sizeLine + 1 ∧ P (.done (.ret .none)) { s with heap := hh.update a (Obj.mapSeq fun _ => arr) } := fun p arr p1 p2 p3 => by
    subst p3
    refine ⟨?_, h p p1 p2⟩
    rw [List.size_toArray, List.length_map, Array.length_toList, p1.sz]; omega
  by_cases h2 : vs.length < 2
  · have h2' : vs.toArray.size < 2 := by rw [List.size_toArray]; exact h2
    rw [if_pos h2', if_pos h2']
    refine wpAny_bind (wpAny_pure ?_)
    rw [StateT.run_pure]
    refine wpAny_bind (wpAny_pure ?_)
    dsimp only
    obtain ⟨o1, o2⟩ := out (List.toArray (List.range vs.length)) ((arrOf (SortSt.mk' general' (vs.toArray.zip vs.toArray) #[] 7 none)).map (·.2)) perm0_range (fun i j hij hj => by
      have e1 : i = 0 := by omega
      have e2 : j = 0 := by omega
      rw [e1, e2]; exact Nat.le_refl _) (by
      apply Array.toList_inj.mp
      show (((vs.toArray.zip vs.toArray).map (·.2))).toList = _
      apply List.ext_getElem?
      intro i
      by_cases hi : i < vs.length
      · simp [hi]
      · simp [hi])
    refine wpAny_bind (seqEpoch_at ho6 rfl (wpAny_bind (listUpdate_at ho6 rfl ?_ (Nat.zero_le _) o1)))
    simp only [bne_self_eq_false, Bool.false_eq_true, if_false]
    exact wpAny_pure o2
  · have h2' : ¬ vs.toArray.size < 2 := by rw [List.size_toArray]; exact h2
    rw [if_neg h2', if_neg h2']
    have hkk : ∀ (i : Nat) v c, vs[i]? = some v → cs[i]? = some c → TupK hh v c := fun i v c x1 x2 => (hk i v c x1 x2).1.keep ho (fun z => absurd (Value.type.inj z) (by decide)) keep
    obtain ⟨fs, k1, k2, k3⟩ := katTups_of vs cs hl hkk
    refine wpAny_bind (kat_kind (s := { s with heap := hh }) (T := .type "int") k1 (by omega) (fun v hv => ?_) (by decide +kernel) ?_)
    · obtain ⟨i, t, rfl⟩ := k3 v hv
      exact Looks.of_pure rfl
    have hT : (Value.type "int" != Value.type "tuple") = true := by decide +kernel
    rw [hT]
    have g1 : ∀ {i : Nat}, i < vs.length → ∃ v c, vs[i]? = some v ∧ cs[i]? = some c ∧ vs.getD i Value.none = v ∧ cs.getD i (0, 0) = c := fun {i} hi => by
      have hi' : i < cs.length := by omega
      refine ⟨vs[i], cs[i], List.getElem?_eq_getElem hi, List.getElem?_eq_getElem hi', ?_, ?_⟩
      · rw [List.getD_eq_getElem?_getD, List.getElem?_eq_getElem hi]; rfl
      · rw [List.getD_eq_getElem?_getD, List.getElem?_eq_getElem hi']; rfl
    obtain ⟨p, p1, p2, p3⟩ := sort_wp (n := vs.length) (f := fun i => code2 (cs.getD i (0, 0))) (cmp := fun i j C s' => s' = { s with heap := hh } → kas_ask prog w A (tuples' true) vs i j (fun b s2 => s2 = { s with heap := hh } ∧ C b s2) s') (by omega)
      (fun i h0 hi => by
        obtain ⟨v0, c0, _, z1, _, z2⟩ := g1 (i := 0) (by omega)
        obtain ⟨v1, c1, _, z3, _, z4⟩ := g1 hi
        show code2 (cs.getD 0 (0, 0)) < code2 (cs.getD i (0, 0))
        rw [z2, z4]
        exact hmin i c0 c1 h0 z1 z3)
      (fun i j C s' hi hj hne hC e => by
        subst e
        obtain ⟨v0, c0, x0, z1, x1, z2⟩ := g1 hi
        obtain ⟨v1, c1, y0, z3, y1, z4⟩ := g1 hj
        unfold kas_ask
        rw [x1, y1]
        have hne' : c0 ≠ c1 := fun z => by
          subst z
          have pw := List.pairwise_iff_getElem.mp nd
          obtain ⟨hi', q1⟩ := List.getElem?_eq_some_iff.mp z1
          obtain ⟨hj', q2⟩ := List.getElem?_eq_some_iff.mp z3
          rcases Nat.lt_trichotomy i j with y | y | y
          · exact pw i j hi' hj' y (q1.trans q2.symm)
          · exact hne y
          · exact pw j i hj' hi' y (q2.trans q1.symm)
        have hC' : C (decide (code2 (cs.getD i (0, 0)) < code2 (cs.getD j (0, 0)))) { s with heap := hh } := hC
        rw [z2, z4] at hC'
        exact tupK_lt (hkk i v0 c0 x0 z1) (hkk j v1 c1 y0 z3) hne' (hk i v0 c0 x0 z1).2 (hk j v1 c1 y0 z3).2 ⟨rfl, hC'⟩)
    obtain ⟨o1, o2⟩ := out p _ p1 p2 rfl
    have run := p3 (fun q s2 => s2 = { s with heap := hh } ∧ q = p) { s with heap := hh } ⟨rfl, rfl⟩
    have conv : ∀ (t : KasT (Array Nat)) (s' : Shared) (G : Array Nat → Shared → Prop), s' = { s with heap := hh } → t.kasWp (fun i j C s' => s' = { s with heap := hh } → kas_ask prog w A (tuples' true) vs i j (fun b s2 => s2 = { s with heap := hh } ∧ C b s2) s') G s' → t.kasWp (kas_ask prog w A (tuples' true) vs) G s' := by
      intro t
      induction t with
      | ret q => intro s' G _ g; exact g
      | ask i j k ih =>
        intro s' G e g
        exact wpAny_mono (g e) (fun b s2 hb => ih b s2 G hb.1 hb.2) fun _ _ z => z
    refine wpAny_bind (wpAny_mono (kat_run (s := { s with heap := hh }) (Q := fun st' s' => s' = { s with heap := hh } ∧ arrOf st' = p.map (kas_item (vs.toArray.zip vs.toArray)) ∧ failedOf st' = none) rfl (by omega) h64 (fun q st' s' a1 a2 a3 a4 => ⟨a4.1, by rw [← a4.2]; exact a2, a3⟩) (conv _ _ _ rfl run)) ?_ fun _ _ z => z)
    rintro ⟨⟨⟩, st'⟩ s' ⟨rfl, har, hf⟩
    dsimp only
    have hout := kat_snds (ks := vs) rfl har
    rw [hout]
    refine wpAny_bind (seqEpoch_at ho6 rfl (wpAny_bind (listUpdate_at ho6 rfl ?_ (Nat.zero_le _) o1)))
    rw [hf]
    simp only [bne_self_eq_false, Bool.false_eq_true, if_false]
    exact wpAny_pure o2
end
theorem vals_pick {vs : List V} {its : List Value} (r : Vals vs its) : ∀ (l : List Nat), (∀ i ∈ l, i < vs.length) → Vals (l.map fun i => vs.getD i .non) (l.map fun i => its.getD i Value.none)
  | [], _ => .nil
  | i :: l, h => by
    have hi := h i (List.Mem.head _)
    have hx : vs[i]? = some vs[i] := List.getElem?_eq_getElem hi
    obtain ⟨u, hu, ru⟩ := r.get hx
    rw [List.map_cons, List.map_cons]
    refine .cons ?_ (vals_pick r l fun j hj => h j (List.mem_cons_of_mem _ hj))
    rw [List.getD_eq_getElem?_getD, List.getD_eq_getElem?_getD, hx, hu]
    exact ru
section
variable {X : Cx}
/-- sorted(xs) of few tuples that begin with two ints, no two the same, the first one the least -/
theorem call_sortedT : CallR X (.builtin "sorted") (fun xs H Q => ∃ (a : Addr) (vs : List V) (cs : List (Nat × Nat)), xs = [.ref a] ∧ SqL X.K H a vs ∧ vs.length = cs.length ∧ cs.length < 64 ∧
    (∀ (i : Nat) v c, vs[i]? = some v → cs[i]? = some c → c.2 < 1000 ∧ ∃ t r, v = .ref t ∧ H t = some (.tup (.int (c.1 : Nat) :: .int (c.2 : Nat) :: r))) ∧ (∀ (i : Nat) c0 c, 0 < i → cs[0]? = some c0 → cs[i]? = some c → code2 c0 < code2 c) ∧ cs.Nodup ∧
    ∀ (l : Addr) (p : Array Nat), H l = none → Perm0 cs.length p → UpS (fun i => code2 (cs.getD i (0, 0))) p cs.length → Q (.ref l) (upd H l (.lst (p.toList.map fun i => vs.getD i .non)))) := by
  intro pins s σ H xs us Q I r h
  obtain ⟨a, vs, cs, rfl, hq, hl, h64, hk, hmin, nd, q⟩ := h
  obtain ⟨u, rfl, rx⟩ := vals1 r
  cases rx
  obtain ⟨its, r', pl, hz⟩ := I.list hq
  have hlen : its.length = vs.length := r'.length.symm
  have hline : (64 : Nat) ≤ sizeLine := by decide
  have hkk : ∀ (i : Nat) v c, its[i]? = some v → cs[i]? = some c → TupK s.heap v c ∧ c.2 < 1000 := fun i v c h1 h2 => by
    have hi : i < vs.length := by
      have := (List.getElem?_eq_some_iff.mp h1).1
      omega
    have hx : vs[i]? = some vs[i] := List.getElem?_eq_getElem hi
    obtain ⟨u, hu, ru⟩ := r'.get hx
    rw [h1] at hu; cases hu
    obtain ⟨hc, t, rr, et, ht⟩ := hk i _ c hx h2
    rw [et] at ru
    cases ru
    obtain ⟨i2, r2, p2, _⟩ := I.tuple (SqT.of ht)
    obtain ⟨o, ho, hcl, n, hd⟩ := p2
    cases r2 with
    | cons ra rb =>
      cases rb with
      | cons rc rd =>
        obtain ⟨t1, rfl⟩ := ra
        obtain ⟨t2, rfl⟩ := rc
        exact ⟨⟨t, o, _, n, t1, t2, rfl, ho, hcl, hd⟩, hc⟩
  refine Calls.call_function_entry kind_sorted plain_sorted entry_sorted (args_sorted1 _) ?_
  unfold Builtin.«sorted»
  refine wpAny_bind (m := checkCount "sorted" 1 1 _) (wpAny_pure (wpAny_bind (collect_list (vs := its) pl.isList (wpAny_bind (wpAny_newList ?_ (by omega))) (by omega))))
  have hsz : ((s.heap.push (seqObj "list" #[] 0)).update s.heap.objs.size (Obj.mapSeq (· ++ its.toArray))).objs.size = s.heap.objs.size + 1 := by rw [Heap.size_update, size_push']
  have keep : ∀ d o, s.heap.get? d = some o → ((s.heap.push (seqObj "list" #[] 0)).update s.heap.objs.size (Obj.mapSeq (· ++ its.toArray))).get? d = some o := fun d o e =>
    (Heap.get?_update_ne _ _ _ _ (Nat.ne_of_lt (Heap.lt_size e))).trans (Heap.get?_push_of_some _ e)
  show wpAny (model X.prog X.w) _ _ _ _ (Shared.mk (((s.heap.push (seqObj "list" #[] 0)).update s.heap.objs.size (Obj.mapSeq (· ++ its.toArray))).push (seqObj "list" its.toArray 0)) s.gens s.drawn s.toks s.os)
  rw [hsz]
  have hoL : (((s.heap.push (seqObj "list" #[] 0)).update s.heap.objs.size (Obj.mapSeq (· ++ its.toArray))).push (seqObj "list" its.toArray 0)).get? (s.heap.objs.size + 1) = some (seqObj "list" its.toArray 0) := by
    rw [← hsz]; exact Heap.get?_push_size _ rfl
  refine wpAny_bind (wpAny_holding (wpAny_call_entry slot_list_sort ⟨_, hoL, rfl⟩ entry_list_sort (list_sortT (cs := cs) hoL (by omega) (by omega) (fun i v c h1 h2 => ⟨?_, (hkk i v c h1 h2).2⟩) hmin nd fun p p1 p2 => ⟨_, rfl, ?_⟩) (args_list_sort _)))
  · obtain ⟨b, o, rr, n, t1, t2, e1, e2, e3, e4⟩ := (hkk i v c h1 h2).1
    exact ⟨b, o, rr, n, t1, t2, e1, Heap.get?_push_of_some _ (keep _ _ e2), e3, e4⟩
  refine wpAny_pure ⟨_, rfl, ?_⟩
  obtain ⟨e, he⟩ := sortedAll_at s.heap its (List.toArray (p.toList.map fun i => its.getD i Value.none))
  have hn : its.length = cs.length := by omega
  rw [hn] at p1 p2
  have hfr : H (s.heap.objs.size + 1) = none := I.hok.fresh (Nat.le_succ _)
  have hv : Vals (p.toList.map fun i => vs.getD i .non) (p.toList.map fun i => its.getD i Value.none) := vals_pick r' p.toList fun i hi => by
    have := List.mem_range.mp (p1.pm.mem_iff.mp hi)
    omega
  have hpl : (p.toList.map fun i => vs.getD i V.non).length = cs.length := by rw [List.length_map, Array.length_toList, p1.sz]
  exact ⟨.ref (s.heap.objs.size + 1), _, I.laid (t' := s.toks) (fun _ _ => sortedAll_old) (Nat.le_succ _) (show ObjOk X.prog X.w _ _ _ (.lst (p.toList.map fun i => vs.getD i V.non)) from ⟨by rw [hpl]; omega, _, e, hv, he⟩), rfl, q _ p hfr p1 p2⟩
end
end L2

set_option Elab.async false
set_option linter.all false
set_option maxRecDepth 100000
set_option maxHeartbeats 4000000
/-! == of two tuples (int, list of ints) that are the same, or whose first items differ -/
namespace L2
open PySem PySem.Spec PyProof.Rows PySem.W
section
variable {X : Cx} {pins : List (Addr × Obj)} {σ : St} {H : Hp} {s : Shared}
theorem eqAt_ints (I : Inv X pins σ H s) {A : Around} {a b : Addr} {xs ys : List Int} (ha : H a = some (.lst (xs.map V.int))) (hb : H b = some (.lst (ys.map V.int))) (hu : A.units < cLine) : ∃ k, SeqAt.EqAt A s (.ref a) (.ref b) k := by
  by_cases hab : a = b
  · subst hab; exact ⟨true, SeqAt.EqAt.same _⟩
  obtain ⟨i1, r1, p1, _⟩ := I.list (SqL.of ha)
  obtain ⟨i2, r2, p2, _⟩ := I.list (SqL.of hb)
  have l1 : i1.length = xs.length := by rw [← r1.length, List.length_map]
  have l2 : i2.length = ys.length := by rw [← r2.length, List.length_map]
  have get : ∀ {l : List Value} {ns : List Int} {j : Nat} (hv : Vals (ns.map V.int) l) (hj : j < l.length), ∃ t, l[j] = Value.int (ns.getD j 0) t := fun {l ns j} hv hj => by
    have hj' : j < ns.length := by have := hv.length; rw [List.length_map] at this; omega
    obtain ⟨w, hw, r⟩ := hv.get (i := j) (x := V.int ns[j]) (by rw [List.getElem?_map, List.getElem?_eq_getElem hj']; rfl)
    rw [List.getElem?_eq_getElem hj] at hw
    cases hw
    obtain ⟨t, e⟩ := r
    refine ⟨t, e.trans ?_⟩
    rw [List.getD_eq_getElem?_getD, List.getElem?_eq_getElem hj']; rfl
  by_cases hl : xs.length = ys.length
  · refine ⟨_, SeqAt.EqAt.of_refs hab (SeqAt.RcAt.lists (e := fun j => xs.getD j 0 == ys.getD j 0) p1.isList p2.isList (by rw [List.size_toArray, List.size_toArray, l1, l2, hl]) hu (fun j h1 h2 => ?_))⟩
    rw [List.size_toArray] at h1 h2
    obtain ⟨t, et⟩ := get r1 h1
    obtain ⟨t', et'⟩ := get r2 h2
    rw [List.getElem_toArray, List.getElem_toArray, et, et']
    exact SeqAt.EqAt.int_int _ _ _ _
  · exact ⟨_, SeqAt.EqAt.of_refs hab (SeqAt.RcAt.lists_lengths p1.isList p2.isList (by rw [List.size_toArray, List.size_toArray, l1, l2]; simpa using hl) hu)⟩
end
def rEqT : R2 := fun x y H Q => ∃ (t t' l l' : Addr) (i j : Int) (xs ys : List Int), x = .ref t ∧ y = .ref t' ∧ H t = some (.tup [.int i, .ref l]) ∧ H l = some (.lst (xs.map V.int)) ∧ H t' = some (.tup [.int j, .ref l']) ∧ H l' = some (.lst (ys.map V.int)) ∧ i ≠ j ∧ Q (.bl false) H
theorem op_eqT {X : Cx} (hu : X.A.units + 64 < cLine) : OpR X (compareOp .Eq) rEqT := by
  intro pins s σ H x y v u Q I rx ry h
  obtain ⟨t, t', l, l', i, j, xs, ys, rfl, rfl, ht, hl, ht', hl', hne, q⟩ := h
  cases rx; cases ry
  obtain ⟨i1, r1, p1, _⟩ := I.tuple (SqT.of ht)
  obtain ⟨i2, r2, p2, _⟩ := I.tuple (SqT.of ht')
  obtain ⟨k, hk⟩ := eqAt_ints I (A := X.A.in1) hl hl' (by rw [units_in1]; omega)
  cases r1 with
  | cons a1 a2 =>
  cases a2 with
  | cons a3 a4 =>
  cases a4
  cases r2 with
  | cons b1 b2 =>
  cases b2 with
  | cons b3 b4 =>
  cases b4
  obtain ⟨tk1, rfl⟩ := a1
  obtain ⟨tk2, rfl⟩ := b1
  cases a3; cases b3
  have hb : (i == j) = false := beq_eq_false_iff_ne.mpr hne
  refine SeqAt.eq_tupleAt (e := fun n => if n = 0 then (i == j) else k) (show s.heap.IsTuple t _ from p1) (show s.heap.IsTuple t' _ from p2) (by omega) (fun n h1 h2 => ?_) ⟨.bl false, H, I, ?_, q⟩
  · match n, h1, h2 with
    | 0, _, _ => exact SeqAt.EqAt.int_int _ _ _ _
    | 1, _, _ => exact hk
  · show Value.bool _ = Value.bool false
    congr 1
    simp [hb, List.range_succ, List.all]
/-- == of two boxes: the same, or with labels that differ -/
def rEqB : R2 := fun x y H Q => rEqD x y H Q ∨ rEqT x y H Q
theorem op_eqB {X : Cx} (hu : X.A.units + 64 < cLine) : OpR X (compareOp .Eq) rEqB := by
  intro pins s σ H x y v u Q I rx ry h
  rcases h with h | h
  · exact op_eqD hu pins s σ H x y v u Q I rx ry h
  · exact op_eqT hu pins s σ H x y v u Q I rx ry h
end L2

set_option linter.all false
/-! Mixed parcels come through the hands; one box lost, all others still do. -/
namespace BB
open PySem L2
/-- what is in hand of a sender -/
def Hs.at (st : Hs) (k : Int) : Option (Int × List Int) := if k ∈ st.ks then some (st.f k) else none
theorem at_some {st : Hs} {k : Int} {v : Int × List Int} (h : st.at k = some v) : k ∈ st.ks ∧ st.f k = v := by
  unfold Hs.at at h
  split at h
  · rename_i hk
    exact ⟨hk, Option.some.inj h⟩
  · cases h
theorem at_none {st : Hs} {k : Int} (h : st.at k = none) : k ∉ st.ks := by
  intro hk
  unfold Hs.at at h
  rw [if_pos hk] at h; cases h
theorem addK_mem {ks : List Int} {k j : Int} : j ∈ addK ks k ↔ j = k ∨ j ∈ ks := ⟨mem_addK, fun h => by
  unfold addK
  rcases h with h | h
  · subst h
    split
    · assumption
    · exact List.mem_append_right _ (List.Mem.head _)
  · split
    · exact h
    · exact List.mem_append_left _ h⟩
theorem delK_mem {ks : List Int} {k j : Int} : j ∈ delK ks k ↔ j ≠ k ∧ j ∈ ks := by
  unfold delK
  rw [List.mem_filter, decide_eq_true_iff]
  exact ⟨fun h => ⟨h.2, h.1⟩, fun h => ⟨h.2, h.1⟩⟩
theorem at_hold {st : Hs} {k j d : Int} {ns : List Int} : (st.hold k ns d).at j = if j = k then some (d, ns) else st.at j := by
  unfold Hs.at Hs.hold
  by_cases h : j = k
  · subst h
    rw [if_pos rfl, if_pos (addK_mem.mpr (.inl rfl))]
    show some (setF st.f j (d, ns) j) = _
    rw [setF_eq]
  · show (if j ∈ addK st.ks k then some (setF st.f k (d, ns) j) else none) = _
    rw [if_neg h, setF_ne h]
    by_cases hk : j ∈ st.ks
    · rw [if_pos hk, if_pos (addK_mem.mpr (.inr hk))]
    · rw [if_neg hk, if_neg (fun z => (addK_mem.mp z).elim h hk)]
theorem at_drop {st : Hs} {k j : Int} : (st.drop k).at j = if j = k then none else st.at j := by
  unfold Hs.at Hs.drop
  by_cases h : j = k
  · subst h
    rw [if_pos rfl, if_neg (fun z => (delK_mem.mp z).1 rfl)]
  · rw [if_neg h]
    by_cases hk : j ∈ st.ks
    · rw [if_pos hk, if_pos (delK_mem.mpr ⟨h, hk⟩)]
    · rw [if_neg hk, if_neg (fun z => hk (delK_mem.mp z).2)]
theorem at_tell {st : Hs} {j : Int} {t : Told} : (st.tell t).at j = st.at j := rfl
theorem nd_hold {st : Hs} {k d : Int} {ns : List Int} (h : st.ks.Nodup) : (st.hold k ns d).ks.Nodup := by
  show (addK st.ks k).Nodup
  unfold addK
  split
  · exact h
  · rename_i hk
    rw [List.nodup_append]
    refine ⟨h, by simp, fun x hx y hy => ?_⟩
    have e : y = k := by simpa using hy
    subst e
    exact fun z => hk (by rw [← z]; exact hx)
theorem nd_drop {st : Hs} {k : Int} (h : st.ks.Nodup) : (st.drop k).ks.Nodup := List.Pairwise.filter _ h
/-- what a box does to its sender's parcel in hand, and what is told -/
def stepC (o : Option (Int × List Int)) (k : Int) (odd : Bool) (c : Int) (ps : List Int) (start place : Int) : Option (Int × List Int) × List Told :=
  match o with
  | some (d, ns) =>
    if c = d then (if odd = true then (none, [.parcel k (ns ++ ps) place]) else (some (d + 1, ns ++ ps), []))
    else if c = 0 then (if odd = true then (none, [.lost k start, .parcel k ps place]) else (some (1, ps), [.lost k start]))
    else (none, [.lost k start])
  | none => if c = 0 then (if odd = true then (none, [.parcel k ps place]) else (some (1, ps), [])) else (none, [])
structure StepOk (st st' : Hs) (k : Int) (r : Option (Int × List Int) × List Told) : Prop where
  own : st'.at k = r.1
  oth : ∀ j, j ≠ k → st'.at j = st.at j
  news : st'.news = st.news ++ r.2
  nd : st.ks.Nodup → st'.ks.Nodup
theorem fin_hold {st : Hs} {k d place : Int} {ns : List Int} {l : Int} (hl : l / 2 = k) (ts : List Told) (base : List Told) (hn : st.news = base ++ ts) (odd : Bool) (ho : odd = decide (l % 2 = 1)) :
    let st' := if true = true ∧ l % 2 = 1 then (st.hold k ns d).give k place else st.hold k ns d
    st'.at k = (if odd = true then none else some (d, ns)) ∧ (∀ j, j ≠ k → st'.at j = st.at j) ∧ st'.news = base ++ (ts ++ if odd = true then [.parcel k ns place] else []) ∧ (st.ks.Nodup → st'.ks.Nodup) := by
  intro st'
  by_cases h : l % 2 = 1
  · have e : st' = (st.hold k ns d).give k place := if_pos ⟨rfl, h⟩
    have eo : odd = true := by rw [ho, decide_eq_true h]
    rw [e, eo, if_pos rfl, if_pos rfl]
    refine ⟨?_, fun j hj => ?_, ?_, fun z => ?_⟩
    · show ((st.hold k ns d).drop k).at k = none
      rw [at_drop, if_pos rfl]
    · show ((st.hold k ns d).drop k).at j = st.at j
      rw [at_drop, if_neg hj, at_hold, if_neg hj]
    · show st.news ++ [.parcel k (setF st.f k (d, ns) k).2 place] = _
      rw [setF_eq, hn, List.append_assoc]
    · exact nd_drop (nd_hold z)
  · have e : st' = st.hold k ns d := if_neg (fun z => h z.2)
    have eo : odd = false := by rw [ho, decide_eq_false h]
    rw [e, eo, if_neg Bool.false_ne_true, if_neg Bool.false_ne_true]
    refine ⟨by rw [at_hold, if_pos rfl], fun j hj => by rw [at_hold, if_neg hj], ?_, nd_hold⟩
    show st.news = _
    rw [hn, List.append_nil]
theorem take_eq {st : Hs} {l start place : Int} {ns : List Int} {X : Hs} {b : Bool} (h : st.keep (l / 2) ns start = (X, b)) : st.take l ns start place = if b = true ∧ l % 2 = 1 then X.give (l / 2) place else X := by
  unfold Hs.take
  rw [h]
theorem take_ok (st : Hs) (l c start place : Int) (ps : List Int) : StepOk st (st.take l (c :: ps) start place) (l / 2) (stepC (st.at (l / 2)) (l / 2) (decide (l % 2 = 1)) c ps start place) := by
  have pick : ∀ {α : Type} {x y : α} {b : Bool}, (b = true → x = y) → (b = false → x = y) → x = y := fun {_ _ _ b} h1 h2 => by
    cases b with
    | true => exact h1 rfl
    | false => exact h2 rfl
  cases e : st.at (l / 2) with
  | some v =>
    obtain ⟨d, ns⟩ := v
    obtain ⟨hk, hf⟩ := at_some e
    by_cases hc : c = d
    · subst hc
      have kp : st.keep (l / 2) (c :: ps) start = (st.hold (l / 2) (ns ++ ps) (c + 1), true) := by
        unfold Hs.keep
        rw [hf]
        exact if_pos ⟨hk, rfl⟩
      rw [take_eq kp]
      have es : stepC (some (c, ns)) (l / 2) (decide (l % 2 = 1)) c ps start place = (if decide (l % 2 = 1) = true then (none, [.parcel (l / 2) (ns ++ ps) place]) else (some (c + 1, ns ++ ps), [])) := if_pos rfl
      rw [es]
      obtain ⟨a1, a2, a3, a4⟩ := fin_hold (st := st) (k := l / 2) (d := c + 1) (ns := ns ++ ps) (place := place) rfl [] st.news (by rw [List.append_nil]) (decide (l % 2 = 1)) rfl
      refine ⟨a1.trans ?_, a2, a3.trans ?_, a4⟩
      · exact pick (b := decide (l % 2 = 1)) (fun h => by rw [if_pos h, if_pos h]) fun h => by rw [h]; rfl
      · exact pick (b := decide (l % 2 = 1)) (fun h => by rw [if_pos h, if_pos h]; rfl) fun h => by rw [h]; rfl
    · have el : st.lose (l / 2) start = (st.drop (l / 2)).tell (.lost (l / 2) start) := if_pos hk
      have eo : ∀ j, j ≠ l / 2 → (st.lose (l / 2) start).at j = st.at j := fun j hj => by rw [el, at_tell, at_drop, if_neg hj]
      have en : (st.lose (l / 2) start).news = st.news ++ [.lost (l / 2) start] := by rw [el]; rfl
      have ed : st.ks.Nodup → (st.lose (l / 2) start).ks.Nodup := fun z => by rw [el]; exact nd_drop z
      have hn : ¬ (l / 2 ∈ st.ks ∧ (c :: ps).head? = some (st.f (l / 2)).1) := fun z => by
        rw [hf] at z
        exact hc (Option.some.inj z.2)
      by_cases h0 : c = 0
      · subst h0
        have kp : st.keep (l / 2) (0 :: ps) start = ((st.lose (l / 2) start).hold (l / 2) ps 1, true) := (if_neg hn).trans (if_pos rfl)
        rw [take_eq kp]
        have es : stepC (some (d, ns)) (l / 2) (decide (l % 2 = 1)) 0 ps start place = (if decide (l % 2 = 1) = true then (none, [.lost (l / 2) start, .parcel (l / 2) ps place]) else (some (1, ps), [.lost (l / 2) start])) := (if_neg hc).trans (if_pos rfl)
        rw [es]
        obtain ⟨a1, a2, a3, a4⟩ := fin_hold (st := st.lose (l / 2) start) (k := l / 2) (d := 1) (ns := ps) (place := place) rfl [.lost (l / 2) start] st.news en (decide (l % 2 = 1)) rfl
        refine ⟨a1.trans ?_, fun j hj => (a2 j hj).trans (eo j hj), a3.trans ?_, fun z => a4 (ed z)⟩
        · exact pick (b := decide (l % 2 = 1)) (fun h => by rw [if_pos h, if_pos h]) fun h => by rw [h]; rfl
        · exact pick (b := decide (l % 2 = 1)) (fun h => by rw [if_pos h, if_pos h]; rfl) fun h => by rw [h]; rfl
      · have kp : st.keep (l / 2) (c :: ps) start = (st.lose (l / 2) start, false) := (if_neg hn).trans (if_neg (fun z => h0 (Option.some.inj z)))
        rw [take_eq kp, if_neg (fun z => Bool.false_ne_true z.1)]
        have es : stepC (some (d, ns)) (l / 2) (decide (l % 2 = 1)) c ps start place = (none, [.lost (l / 2) start]) := (if_neg hc).trans (if_neg h0)
        rw [es]
        exact ⟨by rw [el, at_tell, at_drop, if_pos rfl], eo, en, ed⟩
  | none =>
    have hk := at_none e
    have el : st.lose (l / 2) start = st := if_neg hk
    by_cases h0 : c = 0
    · subst h0
      have kp : st.keep (l / 2) (0 :: ps) start = (st.hold (l / 2) ps 1, true) := by
        refine (if_neg (fun z => hk z.1)).trans ((if_pos rfl).trans ?_)
        rw [el]; rfl
      rw [take_eq kp]
      have es : stepC none (l / 2) (decide (l % 2 = 1)) 0 ps start place = (if decide (l % 2 = 1) = true then (none, [.parcel (l / 2) ps place]) else (some (1, ps), [])) := by
        unfold stepC
        rw [if_pos rfl]
        rfl
      rw [es]
      obtain ⟨a1, a2, a3, a4⟩ := fin_hold (st := st) (k := l / 2) (d := 1) (ns := ps) (place := place) rfl [] st.news (by rw [List.append_nil]) (decide (l % 2 = 1)) rfl
      refine ⟨a1.trans ?_, a2, a3.trans ?_, a4⟩
      · exact pick (b := decide (l % 2 = 1)) (fun h => by rw [if_pos h, if_pos h]) fun h => by rw [h]; rfl
      · exact pick (b := decide (l % 2 = 1)) (fun h => by rw [if_pos h, if_pos h]; rfl) fun h => by rw [h]; rfl
    · have kp : st.keep (l / 2) (c :: ps) start = (st, false) := by
        refine (if_neg (fun z => hk z.1)).trans ((if_neg (fun z => h0 (Option.some.inj z))).trans ?_)
        rw [el]
      rw [take_eq kp, if_neg (fun z => Bool.false_ne_true z.1)]
      have es : stepC none (l / 2) (decide (l % 2 = 1)) c ps start place = (none, []) := by
        show (if c = 0 then (if decide (l % 2 = 1) = true then ((none : Option (Int × List Int)), [Told.parcel (l / 2) ps place]) else (some (1, ps), [])) else (none, [])) = (none, [])
        exact if_neg h0
      rw [es]
      exact ⟨e, fun _ _ => rfl, by rw [List.append_nil], id⟩
end BB

set_option linter.all false
/-! The boxes of several parcels in turns, one of them perhaps missing or spoilt. -/
namespace BB
open PySem L2
theorem take_part (xs : List Int) (c m : Nat) : xs.take (c * m) ++ (xs.drop (c * m)).take m = xs.take ((c + 1) * m) := by
  have e : (c + 1) * m = c * m + m := Nat.succ_mul c m
  rw [e, List.take_add]
theorem nb_cover {l m c : Nat} (hm : 1 ≤ m) (h : nb l m ≤ c + 1) : l ≤ (c + 1) * m := by
  unfold nb at h
  have h1 : (l + m - 1) / m < c + 2 := by omega
  rw [Nat.div_lt_iff_lt_mul (by omega)] at h1
  have e : (c + 2) * m = (c + 1) * m + m := Nat.succ_mul (c + 1) m
  omega
/-- what is in hand of a parcel behind its first c boxes -/
def cmpN (m : Nat) (p : Bxx) (c : Nat) : Option (Int × List Int) := if c = 0 ∨ nb p.2.length m ≤ c then none else some ((c : Int), p.2.take (c * m))
/-- .. where its box c0 has not come -/
def cmpS (m : Nat) (p : Bxx) (c0 c : Nat) : Option (Int × List Int) :=
  if c ≤ c0 then cmpN m p c else if c0 = 0 then none else if c = c0 + 1 then some ((c0 : Int), p.2.take (c0 * m)) else none
def partOf (m : Nat) (p : Bxx) (c : Nat) : List Int := (p.2.drop (c * m)).take m
theorem step_norm {m c : Nat} {p : Bxx} (hm : 1 ≤ m) (hc : c < nb p.2.length m) (start place : Int) :
    stepC (cmpN m p c) p.1 (decide (c + 1 = nb p.2.length m)) (c : Int) (partOf m p c) start place = (cmpN m p (c + 1), if c + 1 = nb p.2.length m then [.parcel p.1 p.2 place] else []) := by
  have full : c + 1 = nb p.2.length m → p.2.take ((c + 1) * m) = p.2 := fun h => List.take_of_length_le (nb_cover hm (by omega))
  have nxt : cmpN m p (c + 1) = if c + 1 = nb p.2.length m then none else some (((c + 1 : Nat) : Int), p.2.take ((c + 1) * m)) := by
    unfold cmpN
    by_cases h : c + 1 = nb p.2.length m
    · rw [if_pos h, if_pos (.inr (by omega))]
    · rw [if_neg h, if_neg (by omega)]
  rw [nxt]
  by_cases h0 : c = 0
  · subst h0
    have e : cmpN m p 0 = none := if_pos (.inl rfl)
    have ep : partOf m p 0 = p.2.take ((0 + 1) * m) := by
      unfold partOf
      rw [Nat.zero_mul, List.drop_zero, Nat.zero_add, Nat.one_mul]
    rw [e, ep]
    show (if ((0 : Nat) : Int) = 0 then (if decide (0 + 1 = nb p.2.length m) = true then ((none : Option (Int × List Int)), [Told.parcel p.1 (p.2.take ((0 + 1) * m)) place]) else (some (1, p.2.take ((0 + 1) * m)), [])) else (none, [])) = _
    rw [if_pos (show ((0 : Nat) : Int) = 0 from rfl)]
    by_cases h : 0 + 1 = nb p.2.length m
    · rw [if_pos (decide_eq_true h), if_pos h, if_pos h, full h]
    · rw [if_neg (by rw [decide_eq_false h]; exact Bool.false_ne_true), if_neg h, if_neg h]; rfl
  · have e : cmpN m p c = some ((c : Int), p.2.take (c * m)) := if_neg (by omega)
    rw [e]
    show (if (c : Int) = (c : Int) then (if decide (c + 1 = nb p.2.length m) = true then ((none : Option (Int × List Int)), [Told.parcel p.1 (p.2.take (c * m) ++ partOf m p c) place]) else (some ((c : Int) + 1, p.2.take (c * m) ++ partOf m p c), [])) else _) = _
    unfold partOf
    rw [if_pos rfl, take_part]
    by_cases h : c + 1 = nb p.2.length m
    · rw [if_pos (decide_eq_true h), if_pos h, if_pos h, full h]
    · rw [if_neg (by rw [decide_eq_false h]; exact Bool.false_ne_true), if_neg h, if_neg h]
      have ec : (c : Int) + 1 = ((c + 1 : Nat) : Int) := by omega
      rw [ec]
theorem step_none {k c start place : Int} {o : Bool} {ps : List Int} (hc : c ≠ 0) : stepC none k o c ps start place = (none, []) := by
  show (if c = 0 then (if o = true then ((none : Option (Int × List Int)), [Told.parcel k ps place]) else (some (1, ps), [])) else (none, [])) = (none, [])
  exact if_neg hc
theorem step_lost {k c d start place : Int} {o : Bool} {ps ns : List Int} (hd : c ≠ d) (hc : c ≠ 0) : stepC (some (d, ns)) k o c ps start place = (none, [.lost k start]) := (if_neg hd).trans (if_neg hc)
theorem step_skip {m c c0 : Nat} {p : Bxx} (hm : 1 ≤ m) (hc : c < nb p.2.length m) (h0 : c0 < nb p.2.length m) (hne : c ≠ c0) (start place : Int) :
    stepC (cmpS m p c0 c) p.1 (decide (c + 1 = nb p.2.length m)) (c : Int) (partOf m p c) start place = (cmpS m p c0 (c + 1), if c = c0 + 1 ∧ 0 < c0 then [.lost p.1 start] else []) := by
  by_cases h1 : c < c0
  · have e1 : cmpS m p c0 c = cmpN m p c := if_pos (by omega)
    have e2 : cmpS m p c0 (c + 1) = cmpN m p (c + 1) := if_pos (by omega)
    rw [e1, e2, step_norm hm hc, if_neg (by omega), if_neg (by omega)]
  · have hc0 : (c : Int) ≠ 0 := by omega
    by_cases h2 : c = c0 + 1
    · by_cases h3 : c0 = 0
      · have e1 : cmpS m p c0 c = none := (if_neg (by omega)).trans (if_pos h3)
        have e2 : cmpS m p c0 (c + 1) = none := (if_neg (by omega)).trans (if_pos h3)
        rw [e1, e2, step_none hc0, if_neg (by omega)]
      · have e1 : cmpS m p c0 c = some ((c0 : Int), p.2.take (c0 * m)) := (if_neg (by omega)).trans ((if_neg h3).trans (if_pos h2))
        have e2 : cmpS m p c0 (c + 1) = none := (if_neg (by omega)).trans ((if_neg h3).trans (if_neg (by omega)))
        rw [e1, e2, step_lost (by omega) hc0, if_pos ⟨h2, by omega⟩]
    · have e1 : cmpS m p c0 c = none := (if_neg (by omega)).trans (by
        by_cases h3 : c0 = 0
        · exact if_pos h3
        · exact (if_neg h3).trans (if_neg h2))
      have e2 : cmpS m p c0 (c + 1) = none := (if_neg (by omega)).trans (by
        by_cases h3 : c0 = 0
        · exact if_pos h3
        · exact (if_neg h3).trans (if_neg (by omega)))
      rw [e1, e2, step_none hc0, if_neg (fun z => h2 z.1)]
theorem skip_same {m c0 : Nat} {p : Bxx} (h0 : c0 < nb p.2.length m) : cmpS m p c0 (c0 + 1) = cmpS m p c0 c0 := by
  have e1 : cmpS m p c0 c0 = cmpN m p c0 := if_pos (Nat.le_refl _)
  rw [e1]
  by_cases h3 : c0 = 0
  · subst h3
    exact ((if_neg (by omega)).trans (if_pos rfl)).trans (if_pos (.inl rfl)).symm
  · exact ((if_neg (by omega)).trans ((if_neg h3).trans (if_pos rfl))).trans (if_neg (by omega)).symm
/-! ### all parcels -/
section
variable {m k0 c0 : Nat} {ps : List Bxx}
def cmpK (m k0 c0 : Nat) (k : Nat) (p : Bxx) (c : Nat) : Option (Int × List Int) := if k = k0 then cmpS m p c0 c else cmpN m p c
/-- what is told at a box -/
def dlt (m k0 c0 : Nat) (ps : List Bxx) (q : Nat × Nat) (start place : Int) : List Told := match ps[q.2]? with
  | none => []
  | some p => if q = (c0, k0) then [] else if q.2 = k0 then (if q.1 = c0 + 1 ∧ 0 < c0 then [.lost p.1 start] else []) else if q.1 + 1 = nb p.2.length m then [.parcel p.1 p.2 place] else []
structure KInv (m k0 c0 : Nat) (ps : List Bxx) (cnt : Nat → Nat) (st : Hs) : Prop where
  own : ∀ k p, ps[k]? = some p → st.at p.1 = cmpK m k0 c0 k p (cnt k)
  oth : ∀ j, (∀ p ∈ ps, p.1 ≠ j) → st.at j = none
  nd : st.ks.Nodup
def cntOf (L : List (Nat × Nat)) (k : Nat) : Nat := (L.filter fun q => decide (q.2 = k)).length
theorem cntOf_snoc (L : List (Nat × Nat)) (q : Nat × Nat) (k : Nat) : cntOf (L ++ [q]) k = if k = q.2 then cntOf L k + 1 else cntOf L k := by
  unfold cntOf
  rw [List.filter_append, List.length_append]
  by_cases h : q.2 = k
  · rw [if_pos h.symm, List.filter_cons_of_pos (by simpa using h)]; rfl
  · rw [if_neg (fun z => h z.symm), List.filter_cons_of_neg (by simpa using h)]; rfl
def Proper (m : Nat) (ps : List Bxx) (L : List (Nat × Nat)) : Prop := ∀ pre q post, L = pre ++ q :: post → q.1 = cntOf pre q.2 ∧ ∃ p, ps[q.2]? = some p ∧ q.1 < nb p.2.length m
theorem box_at {q : Nat × Nat} {p : Bxx} (hm : 1 ≤ m) (hp : ps[q.2]? = some p) (hc : q.1 < nb p.2.length m) :
    boxAt (rowsP m ps) q = ((if q.1 + 1 = nb p.2.length m then 2 * p.1 + 1 else 2 * p.1), (q.1 : Int) :: partOf m p q.1) := by
  have e : rowOf (rowsP m ps) q.2 = boxed p.1 m p.2 := by
    unfold rowOf rowsP
    rw [List.getD_eq_getElem?_getD, List.getElem?_map, hp]; rfl
  unfold boxAt
  rw [e, boxed_eq p.1 hm, List.getD_eq_getElem?_getD, List.getElem?_map, List.getElem?_eq_getElem (by rw [List.length_range]; exact hc), List.getElem_range]
  show boxN p.1 m (nb p.2.length m) 0 p.2 q.1 = _
  unfold boxN partOf
  rw [Nat.zero_add]
  by_cases h : q.1 + 1 = nb p.2.length m
  · rw [if_pos h, if_pos (by omega)]
  · rw [if_neg h, if_neg (by omega)]
theorem inj_sd (hnd : (ps.map (·.1)).Nodup) {k k' : Nat} {p p' : Bxx} (h : ps[k]? = some p) (h' : ps[k']? = some p') (e : p.1 = p'.1) : k = k' := by
  have pw := List.pairwise_iff_getElem.mp hnd
  obtain ⟨i1, e1⟩ := List.getElem?_eq_some_iff.mp h
  obtain ⟨i2, e2⟩ := List.getElem?_eq_some_iff.mp h'
  have j1 : k < (ps.map (·.1)).length := by rw [List.length_map]; exact i1
  have j2 : k' < (ps.map (·.1)).length := by rw [List.length_map]; exact i2
  have g : (ps.map (·.1))[k] = (ps.map (·.1))[k'] := by rw [List.getElem_map, List.getElem_map, e1, e2, e]
  rcases Nat.lt_trichotomy k k' with z | z | z
  · exact absurd g (pw k k' j1 j2 z)
  · exact z
  · exact absurd g.symm (pw k' k j2 j1 z)
theorem kstep (hm : 1 ≤ m) (hnd : (ps.map (·.1)).Nodup) (h0 : ∀ p, ps[k0]? = some p → c0 < nb p.2.length m) {pre : List (Nat × Nat)} {st : Hs} {q : Nat × Nat} {p : Bxx} (I : KInv m k0 c0 ps (cntOf pre) st) (hp : ps[q.2]? = some p) (hq : q.1 = cntOf pre q.2) (hc : q.1 < nb p.2.length m) (start place : Int) :
    (q ≠ (c0, k0) → KInv m k0 c0 ps (cntOf (pre ++ [q])) (st.take (boxAt (rowsP m ps) q).1 (boxAt (rowsP m ps) q).2 start place) ∧ (st.take (boxAt (rowsP m ps) q).1 (boxAt (rowsP m ps) q).2 start place).news = st.news ++ dlt m k0 c0 ps q start place) ∧
    (q = (c0, k0) → KInv m k0 c0 ps (cntOf (pre ++ [q])) st) := by
  constructor
  · intro hne
    rw [box_at hm hp hc]
    obtain ⟨c, k⟩ := q
    simp only at hp hq hc ⊢
    generalize hl : (if c + 1 = nb p.2.length m then 2 * p.1 + 1 else 2 * p.1) = l
    have l2 : l / 2 = p.1 := by rw [← hl]; split <;> omega
    have lo : decide (l % 2 = 1) = decide (c + 1 = nb p.2.length m) := by
      by_cases h : c + 1 = nb p.2.length m
      · rw [if_pos h] at hl
        rw [decide_eq_true h, decide_eq_true (by omega)]
      · rw [if_neg h] at hl
        rw [decide_eq_false h, decide_eq_false (by omega)]
    have S := take_ok st l (c : Int) start place (partOf m p c)
    rw [l2, lo, I.own k p hp, ← hq] at S
    have key : stepC (cmpK m k0 c0 k p c) p.1 (decide (c + 1 = nb p.2.length m)) (c : Int) (partOf m p c) start place = (cmpK m k0 c0 k p (c + 1), dlt m k0 c0 ps (c, k) start place) := by
      unfold cmpK dlt
      simp only [hp]
      rw [if_neg hne]
      by_cases hk : k = k0
      · have hcc : c ≠ c0 := fun z => hne (by rw [z, hk])
        rw [if_pos hk, if_pos hk, if_pos hk]
        exact step_skip hm hc (h0 p (by rw [← hk]; exact hp)) hcc start place
      · rw [if_neg hk, if_neg hk, if_neg hk]
        exact step_norm hm hc start place
    rw [key] at S
    refine ⟨⟨fun k' p' hp' => ?_, fun j hj => ?_, S.nd I.nd⟩, S.news⟩
    · rw [cntOf_snoc]
      by_cases hk : k' = k
      · subst hk
        have e : p' = p := by rw [hp] at hp'; exact (Option.some.inj hp').symm
        subst e
        rw [if_pos rfl, ← hq]
        exact S.own
      · rw [if_neg hk, S.oth p'.1 (fun z => hk (inj_sd hnd hp' hp z))]
        exact I.own k' p' hp'
    · rw [S.oth j (fun z => hj p (List.mem_of_getElem? hp) z.symm)]
      exact I.oth j hj
  · rintro rfl
    refine ⟨fun k' p' hp' => ?_, I.oth, I.nd⟩
    rw [cntOf_snoc]
    by_cases hk : k' = k0
    · subst hk
      have e := I.own k' p' hp'
      simp only at hq
      rw [if_pos rfl, ← hq]
      rw [← hq] at e
      rw [e]
      unfold cmpK
      rw [if_pos rfl, if_pos rfl]
      exact (skip_same (h0 p' hp')).symm
    · rw [if_neg hk]; exact I.own k' p' hp'
/-- what comes of the boxes, each at its place: xl and xe are what is there of the one box that is missing or spoilt -/
def evS (rows : List (List Bxx)) (sk : Nat × Nat) (xl : List Int) (xe : Int → List Ev) : Int → List (Nat × Nat) → List Ev
  | _, [] => []
  | p, q :: r => if q = sk then xe p ++ evS rows sk xl xe (p + (xl.length : Int)) r
    else .box (boxAt rows q).1 (boxAt rows q).2 p (p + ((esc (inside (boxAt rows q).1 (boxAt rows q).2)).length : Int)) :: evS rows sk xl xe (p + ((boxLine (boxAt rows q)).length : Int)) r
def lineS (rows : List (List Bxx)) (sk : Nat × Nat) (xl : List Int) (L : List (Nat × Nat)) : List Int := L.flatMap fun q => if q = sk then xl else boxLine (boxAt rows q)
/-- what is told of parcels -/
def dltS (m k0 c0 : Nat) (ps : List Bxx) (xl : List Int) : Int → List (Nat × Nat) → List Told
  | _, [] => []
  | p, q :: r => if q = (c0, k0) then dltS m k0 c0 ps xl (p + (xl.length : Int)) r
    else dlt m k0 c0 ps q p (p + ((esc (inside (boxAt (rowsP m ps) q).1 (boxAt (rowsP m ps) q).2)).length : Int)) ++ dltS m k0 c0 ps xl (p + ((boxLine (boxAt (rowsP m ps) q)).length : Int)) r
theorem run_nobox {st : Hs} : ∀ {es : List Ev}, (∀ e ∈ es, isBox e = false) → st.run es = st
  | [], _ => rfl
  | e :: r, h => by
    have h1 : st.ev e = st := by
      have := h e (List.Mem.head _)
      cases e with
      | box l ns s p => cases this
      | _ => rfl
    show (st.ev e).run r = st
    rw [h1]
    exact run_nobox fun x hx => h x (List.mem_cons_of_mem _ hx)
theorem run_app (st : Hs) (xs ys : List Ev) : st.run (xs ++ ys) = (st.run xs).run ys := by
  unfold Hs.run
  rw [List.foldl_append]
theorem run_keys (hm : 1 ≤ m) (hnd : (ps.map (·.1)).Nodup) (h0 : ∀ p, ps[k0]? = some p → c0 < nb p.2.length m) {xl : List Int} {xe : Int → List Ev} (hx : ∀ p, ∀ e ∈ xe p, isBox e = false) :
    ∀ (post pre : List (Nat × Nat)) (st : Hs) (p : Int), Proper m ps (pre ++ post) → KInv m k0 c0 ps (cntOf pre) st →
      KInv m k0 c0 ps (cntOf (pre ++ post)) (st.run (evS (rowsP m ps) (c0, k0) xl xe p post)) ∧ (st.run (evS (rowsP m ps) (c0, k0) xl xe p post)).news = st.news ++ dltS m k0 c0 ps xl p post := by
  intro post
  induction post with
  | nil =>
    intro pre st p _ I
    rw [List.append_nil]
    exact ⟨I, (List.append_nil _).symm⟩
  | cons q r ih =>
    intro pre st p hP I
    obtain ⟨hq, pp, hp, hc⟩ := hP pre q r rfl
    have e2 : pre ++ q :: r = (pre ++ [q]) ++ r := by rw [List.append_assoc]; rfl
    rw [e2] at hP ⊢
    obtain ⟨s1, s2⟩ := kstep hm hnd h0 I hp hq hc p (p + ((esc (inside (boxAt (rowsP m ps) q).1 (boxAt (rowsP m ps) q).2)).length : Int))
    by_cases hs : q = (c0, k0)
    · have ee : evS (rowsP m ps) (c0, k0) xl xe p (q :: r) = xe p ++ evS (rowsP m ps) (c0, k0) xl xe (p + (xl.length : Int)) r := if_pos hs
      have ed : dltS m k0 c0 ps xl p (q :: r) = dltS m k0 c0 ps xl (p + (xl.length : Int)) r := if_pos hs
      rw [ee, ed, run_app, run_nobox (hx p)]
      exact ih (pre ++ [q]) st _ hP (s2 hs)
    · obtain ⟨i1, i2⟩ := s1 hs
      have ee : evS (rowsP m ps) (c0, k0) xl xe p (q :: r) = .box (boxAt (rowsP m ps) q).1 (boxAt (rowsP m ps) q).2 p (p + ((esc (inside (boxAt (rowsP m ps) q).1 (boxAt (rowsP m ps) q).2)).length : Int)) :: evS (rowsP m ps) (c0, k0) xl xe (p + ((boxLine (boxAt (rowsP m ps) q)).length : Int)) r := if_neg hs
      have ed : dltS m k0 c0 ps xl p (q :: r) = dlt m k0 c0 ps q p (p + ((esc (inside (boxAt (rowsP m ps) q).1 (boxAt (rowsP m ps) q).2)).length : Int)) ++ dltS m k0 c0 ps xl (p + ((boxLine (boxAt (rowsP m ps) q)).length : Int)) r := if_neg hs
      obtain ⟨j1, j2⟩ := ih (pre ++ [q]) _ (p + ((boxLine (boxAt (rowsP m ps) q)).length : Int)) hP i1
      rw [ee, ed]
      refine ⟨j1, ?_⟩
      rw [← List.append_assoc, ← i2]
      exact j2
theorem told_lineS {most : Int} {rows : List (List Bxx)} {sk : Nat × Nat} {xl : List Int} {xe : Int → List Ev} (hx : ∀ st p, isOpn st = false → isOpn (run most st p xl).1 = false ∧ (run most st p xl).2 = xe p) :
    ∀ (L : List (Nat × Nat)) (st : Sm) (p : Int), (∀ q ∈ L, ((boxAt rows q).2.length : Int) ≤ most) → isOpn st = false → isOpn (run most st p (lineS rows sk xl L)).1 = false ∧ (run most st p (lineS rows sk xl L)).2 = evS rows sk xl xe p L := by
  intro L
  induction L with
  | nil => intro st p _ h; exact ⟨h, rfl⟩
  | cons q r ih =>
    intro st p hb h
    by_cases hs : q = sk
    · have el : lineS rows sk xl (q :: r) = xl ++ lineS rows sk xl r := by
        unfold lineS
        rw [List.flatMap_cons, if_pos hs]
      have ee : evS rows sk xl xe p (q :: r) = xe p ++ evS rows sk xl xe (p + (xl.length : Int)) r := if_pos hs
      obtain ⟨a1, a2⟩ := hx st p h
      obtain ⟨b1, b2⟩ := ih (run most st p xl).1 (p + (xl.length : Int)) (fun x hx => hb x (List.mem_cons_of_mem _ hx)) a1
      rw [el, ee, run_append]
      exact ⟨b1, by rw [a2, b2]⟩
    · have el : lineS rows sk xl (q :: r) = boxLine (boxAt rows q) ++ lineS rows sk xl r := by
        unfold lineS
        rw [List.flatMap_cons, if_neg hs]
      have ee : evS rows sk xl xe p (q :: r) = .box (boxAt rows q).1 (boxAt rows q).2 p (p + ((esc (inside (boxAt rows q).1 (boxAt rows q).2)).length : Int)) :: evS rows sk xl xe (p + ((boxLine (boxAt rows q)).length : Int)) r := if_neg hs
      have rb := read_box (most := most) (b := boxAt rows q) st p (hb q (List.Mem.head _))
      rw [isOpn_cut h, List.nil_append] at rb
      obtain ⟨b1, b2⟩ := ih .rest (p + ((boxLine (boxAt rows q)).length : Int)) (fun x hx => hb x (List.mem_cons_of_mem _ hx)) rfl
      rw [el, ee, run_append, rb]
      exact ⟨b1, by rw [b2]; rfl⟩
/-! ### the keys in turns -/
theorem count_eq {L : List (Nat × Nat)} {k n : Nat} (hn : L.Nodup) (h : ∀ c, (c, k) ∈ L ↔ c < n) : cntOf L k = n := by
  have hp : (L.filter fun q => decide (q.2 = k)).Perm ((List.range n).map fun c => (c, k)) := by
    refine (List.perm_ext_iff_of_nodup (List.Pairwise.filter _ hn) ?_).mpr fun q => ?_
    · unfold List.Nodup
      rw [List.pairwise_map]
      refine List.Pairwise.imp ?_ List.pairwise_lt_range
      intro a b hab e
      have := (Prod.mk.inj e).1
      omega
    · rw [List.mem_filter, List.mem_map, decide_eq_true_iff]
      constructor
      · rintro ⟨h1, h2⟩
        obtain ⟨c, k'⟩ := q
        simp only at h2
        subst h2
        exact ⟨c, List.mem_range.mpr ((h c).mp h1), rfl⟩
      · rintro ⟨c, hc, rfl⟩
        exact ⟨(h c).mpr (List.mem_range.mp hc), rfl⟩
  unfold cntOf
  rw [hp.length_eq, List.length_map, List.length_range]
theorem row_len (hm : 1 ≤ m) {k : Nat} {p : Bxx} (hp : ps[k]? = some p) : (rowOf (rowsP m ps) k).length = nb p.2.length m := by
  have e : rowOf (rowsP m ps) k = boxed p.1 m p.2 := by
    unfold rowOf rowsP
    rw [List.getD_eq_getElem?_getD, List.getElem?_map, hp]; rfl
  rw [e, boxed_len hm]
theorem mix_proper (hm : 1 ≤ m) : Proper m ps (mixKeys (rowsP m ps)) := by
  intro pre q post e
  have hmem : q ∈ mixKeys (rowsP m ps) := by rw [e]; exact List.mem_append_right _ (List.Mem.head _)
  obtain ⟨h1, h2⟩ := mem_mixKeys.mp hmem
  have hl : (rowsP m ps).length = ps.length := by unfold rowsP; rw [List.length_map]
  have hp : ps[q.2]? = some (ps[q.2]'(by omega)) := List.getElem?_eq_getElem (by omega)
  generalize ps[q.2]'(by omega) = p at hp
  have hs := mixKeys_sorted (rowsP m ps)
  rw [e, List.pairwise_append] at hs
  obtain ⟨s1, s2, s3⟩ := hs
  have nd := mixKeys_nodup (rowsP m ps)
  rw [e] at nd
  refine ⟨(count_eq (List.nodup_append.mp nd).1 fun c => ⟨fun hc => ?_, fun hc => ?_⟩).symm, p, hp, by rw [← row_len hm hp]; exact h2⟩
  · have := s3 _ hc q (List.Mem.head _)
    unfold klt at this
    omega
  · have hin : (c, q.2) ∈ mixKeys (rowsP m ps) := mem_mixKeys.mpr ⟨h1, Nat.lt_trans hc h2⟩
    rw [e] at hin
    rcases List.mem_append.mp hin with z | z
    · exact z
    · rcases List.mem_cons.mp z with y | y
      · have := congrArg Prod.fst y
        simp only at this
        omega
      · have := (List.pairwise_cons.mp s2).1 _ y
        unfold klt at this
        omega
theorem mix_count (hm : 1 ≤ m) {k : Nat} {p : Bxx} (hp : ps[k]? = some p) : cntOf (mixKeys (rowsP m ps)) k = nb p.2.length m := by
  refine count_eq (mixKeys_nodup _) fun c => ?_
  rw [mem_mixKeys]
  have hl : (rowsP m ps).length = ps.length := by unfold rowsP; rw [List.length_map]
  have hk := (List.getElem?_eq_some_iff.mp hp).1
  show k < (rowsP m ps).length ∧ c < (rowOf (rowsP m ps) k).length ↔ _
  rw [row_len hm hp]
  exact ⟨fun z => z.2, fun z => ⟨by omega, z⟩⟩
theorem KInv.start : KInv m k0 c0 ps (cntOf []) Hs.nil := by
  refine ⟨fun k p hp => ?_, fun j _ => rfl, List.Pairwise.nil⟩
  show none = cmpK m k0 c0 k p 0
  have e : cmpN m p 0 = none := if_pos (.inl rfl)
  have e2 : cmpS m p c0 0 = none := (if_pos (Nat.zero_le _)).trans e
  unfold cmpK
  split
  · exact e2.symm
  · exact e.symm
/-- all boxes but perhaps one: what is told, and what is still in hand -/
theorem unpack_mix (hm : 1 ≤ m) (hnd : (ps.map (·.1)).Nodup) (h0 : ∀ p, ps[k0]? = some p → c0 < nb p.2.length m) {xl : List Int} {xe : Int → List Ev} (hx : ∀ p, ∀ e ∈ xe p, isBox e = false) :
    (Hs.nil.run (evS (rowsP m ps) (c0, k0) xl xe 0 (mixKeys (rowsP m ps)))).news = dltS m k0 c0 ps xl 0 (mixKeys (rowsP m ps)) ∧
    (Hs.nil.run (evS (rowsP m ps) (c0, k0) xl xe 0 (mixKeys (rowsP m ps)))).ks = (match ps[k0]? with | none => [] | some p => if 0 < c0 ∧ c0 + 1 = nb p.2.length m then [p.1] else []) := by
  obtain ⟨I, e⟩ := run_keys hm hnd h0 hx (mixKeys (rowsP m ps)) [] Hs.nil 0 (mix_proper hm) KInv.start
  rw [List.nil_append] at I
  refine ⟨e, ?_⟩
  generalize Hs.nil.run (evS (rowsP m ps) (c0, k0) xl xe 0 (mixKeys (rowsP m ps))) = st at I
  have hat : ∀ k p, ps[k]? = some p → st.at p.1 = if k = k0 ∧ 0 < c0 ∧ c0 + 1 = nb p.2.length m then some ((c0 : Int), p.2.take (c0 * m)) else none := fun k p hp => by
    rw [I.own k p hp, mix_count hm hp]
    unfold cmpK
    by_cases hk : k = k0
    · rw [if_pos hk]
      have hc0 := h0 p (by rw [← hk]; exact hp)
      unfold cmpS
      rw [if_neg (by omega)]
      by_cases h3 : c0 = 0
      · rw [if_pos h3, if_neg (by omega)]
      · rw [if_neg h3]
        by_cases h4 : nb p.2.length m = c0 + 1
        · rw [if_pos h4, if_pos ⟨hk, by omega, h4.symm⟩]
        · rw [if_neg h4, if_neg (by omega)]
    · rw [if_neg hk, if_neg (fun z => hk z.1)]
      exact if_pos (.inr (Nat.le_refl _))
  have hmem : ∀ j, j ∈ st.ks → ∃ p, ps[k0]? = some p ∧ 0 < c0 ∧ c0 + 1 = nb p.2.length m ∧ j = p.1 := fun j hj => by
    have hs : st.at j = some (st.f j) := if_pos hj
    by_cases hex : ∃ p ∈ ps, p.1 = j
    · obtain ⟨p, hp, rfl⟩ := hex
      obtain ⟨k, hk, ek⟩ := List.getElem_of_mem hp
      have hk' : ps[k]? = some p := by rw [List.getElem?_eq_getElem hk, ek]
      rw [hat k p hk'] at hs
      split at hs
      · rename_i h
        obtain ⟨h1, h2, h3⟩ := h
        subst h1
        exact ⟨p, hk', h2, h3, rfl⟩
      · cases hs
    · rw [I.oth j (fun p hp z => hex ⟨p, hp, z⟩)] at hs; cases hs
  cases hk0 : ps[k0]? with
  | none =>
    show st.ks = []
    cases hks : st.ks with
    | nil => rfl
    | cons j r =>
      obtain ⟨p, hp, _⟩ := hmem j (by rw [hks]; exact List.Mem.head _)
      rw [hk0] at hp; cases hp
  | some p =>
    show st.ks = if 0 < c0 ∧ c0 + 1 = nb p.2.length m then [p.1] else []
    by_cases hc : 0 < c0 ∧ c0 + 1 = nb p.2.length m
    · rw [if_pos hc]
      have hin : p.1 ∈ st.ks := by
        have := hat k0 p hk0
        rw [if_pos ⟨rfl, hc⟩] at this
        exact (at_some this).1
      have all : ∀ j ∈ st.ks, j = p.1 := fun j hj => by
        obtain ⟨p', hp', _, _, e⟩ := hmem j hj
        rw [hk0] at hp'; cases hp'; exact e
      have nd := I.nd
      cases hks : st.ks with
      | nil => rw [hks] at hin; cases hin
      | cons j r =>
        rw [hks] at all nd
        have ej := all j (List.Mem.head _)
        cases r with
        | nil => rw [ej]
        | cons j' r' =>
          have ej' := all j' (List.mem_cons_of_mem _ (List.Mem.head _))
          have := (List.pairwise_cons.mp nd).1 j' (List.Mem.head _)
          rw [ej, ej'] at this
          exact absurd rfl this
    · rw [if_neg hc]
      cases hks : st.ks with
      | nil => rfl
      | cons j r =>
        obtain ⟨p', hp', h2, h3, _⟩ := hmem j (by rw [hks]; exact List.Mem.head _)
        rw [hk0] at hp'; cases hp'
        exact absurd ⟨h2, h3⟩ hc
end
end BB

set_option Elab.async false
set_option linter.all false
set_option maxRecDepth 100000
set_option maxHeartbeats 4000000
namespace BB
open PySem L2
/-! ### the text by places -/
def top (i : Nat) : Stmt := PySem.Challenge.pw_beltboxes_k12_whole_one_box_lost.main.body.getD i (.Pass ⟨0, 0, 0, 0⟩)
abbrev sHands_init : Stmt := inClass (top 1) 0
abbrev sHands_hold : Stmt := inClass (top 1) 1
abbrev sHands_let_go : Stmt := inClass (top 1) 2
abbrev sHands_lose : Stmt := inClass (top 1) 3
abbrev sHands_keep : Stmt := inClass (top 1) 4
abbrev sHands_take : Stmt := inClass (top 1) 5
abbrev s_hands_behind : Stmt := top 2
abbrev s_unpacked : Stmt := top 3
abbrev s_waiting : Stmt := top 4
abbrev sIs : Stmt := top 12
abbrev s_place_of_other : Stmt := top 13
abbrev sRefuse : Stmt := top 14
abbrev s_length_of_two : Stmt := top 15
abbrev sCheckOf : Stmt := top 18
abbrev s_meaning_behind_escape : Stmt := top 24
abbrev sBelt_init : Stmt := inClass (top 33) 0
abbrev sBelt_twin : Stmt := inClass (top 33) 1
abbrev sBelt_box_is_unfinished : Stmt := inClass (top 33) 2
abbrev sBelt_tell_fault : Stmt := inClass (top 33) 3
abbrev sBelt_tell_unfinished : Stmt := inClass (top 33) 4
abbrev sBelt_pass_over : Stmt := inClass (top 33) 5
abbrev sBelt_begin_box : Stmt := inClass (top 33) 6
abbrev sBelt_end_box : Stmt := inClass (top 33) 7
abbrev sBelt_put_in : Stmt := inClass (top 33) 8
abbrev sBelt_put_in_escaped : Stmt := inClass (top 33) 9
abbrev sBelt_take : Stmt := inClass (top 33) 10
abbrev s_begun : Stmt := top 34
abbrev s_fed : Stmt := top 35
abbrev s_ended : Stmt := top 36
abbrev s_told_by : Stmt := top 37
abbrev sAt : Stmt := top 39
abbrev sLCheck : Stmt := top 40
abbrev sInside : Stmt := top 41
abbrev sWire : Stmt := top 42
abbrev sSentOff : Stmt := top 43
abbrev sBoxed : Stmt := top 44
abbrev sInTurns : Stmt := top 45
abbrev sAllBut : Stmt := top 46
abbrev sSo : Stmt := top 47
abbrev sLaw : Stmt := top 48
end BB

set_option Elab.async false
set_option linter.all false
set_option maxRecDepth 100000
set_option maxHeartbeats 4000000
namespace BB
open PySem L2
section
variable {P : Program} {w : World} {K : PySem.W.Frag} {mg : Str → Option Value} {base : Heap} {C0 C1 C2 C3 : Addr}
/-! ### is_belt_number -/
def spIs : Sp := fun vs H Q _ => ∃ n : Int, vs = [.int n] ∧ Q (.bl (okN n)) H
theorem scIs : FnScope ["number"] ["number"] (defScope sIs) := ⟨rfl, rfl, rfl, by decide +kernel, rfl, by decide +kernel, by decide +kernel⟩
theorem ok_is {f : Addr} {fd : FuncData} (F : Fun K "is_belt_number" "is_belt_number" sIs f fd) (c1 : IntC mg "LEAST" 0) (c2 : IntC mg "GREATEST" 255) : FnOk P w K mg base (CXs P w) 1 f fd ["number"] spIs := by
  refine F.okX scIs (fun vs H Q E h => ?_) (fun cdv A outer s H vs Q E hr h => ?_)
  · obtain ⟨n, rfl, _⟩ := h
    rfl
  obtain ⟨n, rfl, q⟩ := h
  refine ⟨_, pss_one (ps_ret (pe_chain op_le op_le (pc c1 rfl) (pv 0) (pc c2 rfl))), ?_⟩
  refine ⟨_, rfl, _, _, rfl, rfl, _, rfl, ?_⟩
  refine ite2 (fun c => ?_) (fun c => ?_)
  · refine ⟨_, _, rfl, rfl, ?_⟩
    have e : okN n = decide (n ≤ 255) := by unfold okN; rw [c, Bool.true_and]
    rw [e] at q
    exact q
  · have e : okN n = false := by unfold okN; rw [Bool.eq_false_iff.mpr c, Bool.false_and]
    rw [e] at q
    exact q
/-! ### place_of_other, refuse_other_numbers -/
theorem scPlace : FnScope ["numbers", "place", "number"] ["numbers"] (defScope s_place_of_other) := ⟨rfl, rfl, rfl, by decide +kernel, rfl, by decide +kernel, by decide +kernel⟩
theorem ok_place {f g : Addr} {fd gd : FuncData} (F : Fun K "place_of_other" "place_of_other" s_place_of_other f fd) (D : Def K mg "is_belt_number" sIs ["number"] g gd) (G : FnOk P w K mg base (CXs P w) 1 g gd ["number"] spIs)
    (me : mg "enumerate" = none) : FnOk P w K mg base (CXs P w) 2 f fd ["numbers"] spPlace := by
  refine F.okX scPlace (fun vs H Q E h => ?_) (fun cdv A outer s H vs Q E hr h => ?_)
  · obtain ⟨a, ns, rfl, _⟩ := h
    rfl
  obtain ⟨a, ns, rfl, ha, hl, q1, q2⟩ := h
  refine ⟨_, (pss_cons (ps_for passes_def rfl (pi_enum rfl me (pa_cons (pv 0) pa_nil)) (pg_tup rfl (pgs_cons (pg_name (i := 1) scPlace.nd rfl (Or.inl rfl)) (pgs_cons (pg_name (i := 2) scPlace.nd rfl (Or.inl rfl)) pgs_nil)))
      (pss_one (ps_if (pt_not (pt_val (pe_call G hr rfl D.m D.F.kp D.b .nil pass_on (pa_cons (pv 2) pa_nil))))
        (pss_one (ps_ret (pv 1)))
        pss_nil)))
    (pss_one (ps_ret pe_non))), ?_⟩
  refine ⟨_, rfl, a, _, rfl, ha, for_enum (K := K) (a := a) (xs := ns.map V.int) (fun i σ H2 => ∃ p n, σ = [some (.ref a), p, n] ∧ Same H H2 ∧ good (ns.take i) = true) ⟨none, none, rfl, Same.refl H, rfl⟩
    (fun i σ H2 _ ⟨_, _, _, s2, _⟩ => SqL.of (s2 _ _ ha)) ?_ ?_⟩
  · rintro i x σ H2 p hx ⟨p0, n0, rfl, s2, hg⟩ hp
    obtain ⟨n, hn, rfl⟩ := int_at hx
    have hil : i < ns.length := (List.getElem?_eq_some_iff.mp hn).1
    refine ⟨p, _, rfl, SqT.of upd_same, rfl, _, _, rfl, _, _, rfl, rfl, ?_⟩
    have s3 : Same H (upd H2 p (.tup [.int (i : Nat), .int n])) := same_upd s2 (s2.free hp) _
    refine ⟨_, rfl, n, rfl, _, rfl, ?_⟩
    cases e : okN n with
    | true =>
      refine iteF ?_
      exact ⟨_, _, rfl, s3, by rw [good_step hn, hg, e]; rfl⟩
    | false =>
      refine iteT ?_
      exact ⟨_, rfl, q2 (good_all hn e) i _ hil s3⟩
  · rintro σ H2 ⟨p0, n0, rfl, s2, hg⟩
    rw [List.length_map, List.take_length] at hg
    exact q1 hg H2 s2
end
section
variable {P : Program} {w : World} {K : PySem.W.Frag} {mg : Str → Option Value} {base : Heap} {C0 C1 C2 C3 : Addr}
def spRefuse (C : Addr) : Sp := fun vs H Q E => ∃ (a : Addr) (ns : List Int), vs = [.ref a] ∧ H a = some (.lst (ns.map V.int)) ∧ ns.length ≤ 100000 ∧
  (good ns = true → ∀ H', Same H H' → Q .non H') ∧ (good ns = false → ∀ H', Same H H' → E (.ref C) none H')
theorem scRefuse : FnScope ["numbers", "place"] ["numbers"] (defScope sRefuse) := ⟨rfl, rfl, rfl, by decide +kernel, rfl, by decide +kernel, by decide +kernel⟩
theorem ok_refuse {f g : Addr} {fd gd : FuncData} (F : Fun K "refuse_other_numbers" "refuse_other_numbers" sRefuse f fd) (D : Def K mg "place_of_other" s_place_of_other ["numbers"] g gd) (G : FnOk P w K mg base (CXs P w) 2 g gd ["numbers"] spPlace)
    (R : Err K mg "NoNumber" C1) : FnOk P w K mg base (CXs P w) 3 f fd ["numbers"] (spRefuse C1) := by
  refine F.okX scRefuse (fun vs H Q E h => ?_) (fun cdv A outer s H vs Q E hr h => ?_)
  · obtain ⟨a, ns, rfl, _⟩ := h
    rfl
  obtain ⟨a, ns, rfl, ha, hl, q1, q2⟩ := h
  refine ⟨_, (pss_cons (ps_set (i := 1) scRefuse.nd rfl (Or.inl rfl) (pe_call G hr rfl D.m D.F.kp D.b .nil pass_on (pa_cons (pv 0) pa_nil)))
    (pss_one (ps_if (pt_cmpR op_notN (pv 1) pe_non (nomark _))
      (pss_one (ps_raise raise_here PySem.F.excBase_ValueError R.ex rfl rfl R.m (pa_cons (pe_joined (pj_cons pe_str (pj_cons (pe_fmt (pv 1)) (pj_cons pe_str pj_nil)))) pa_nil)))
      pss_nil))), ?_⟩
  refine ⟨_, rfl, a, ns, rfl, ha, hl, fun hg H1 s1 => ?_, fun hg i H1 hi s1 => ?_⟩
  · exact ⟨_, rfl, rfl, _, rfl, iteNS rfl (q1 hg H1 s1)⟩
  · refine ⟨_, rfl, rfl, _, rfl, ifT (by rw [decide_eq_false (fun z => by cases z)]; rfl) ?_⟩
    have hlog := log_small (n := i) (by omega)
    have hlen := PyProof.Rows.int_text_len_1921 hlog
    have l0 : (Str.empty : Str).length = 0 := by decide +kernel
    have l1 : (Str.ofString "the number at place ").length = 20 := by decide +kernel
    have l2 : (Str.ofString " is not from 0 to 255").length = 21 := by decide +kernel
    have hz := sizeLine_eq
    refine ⟨_, rfl, ?_, _, rfl, _, rfl, hlog, _, rfl, ?_, _, rfl, ?_, ?_, (by show 1 ≤ sizeLine; decide), q2 hg _ s1⟩
    · rw [strLen_append]; omega
    · rw [strLen_append, strLen_append]; show _ + (Str.ofString (toString (i : Int))).length ≤ _; omega
    · rw [strLen_append, strLen_append, strLen_append]; show _ + (Str.ofString (toString (i : Int))).length + _ ≤ _; omega
    · rw [strLen_append, strLen_append, strLen_append]; show _ + (Str.ofString (toString (i : Int))).length + _ ≤ _; omega
end
section
variable {P : Program} {w : World} {K : PySem.W.Frag} {mg : Str → Option Value} {base : Heap} {C0 C1 C2 C3 : Addr}
/-! ### check_of -/
def spCheckOf (C : Addr) : Sp := fun vs H Q E => ∃ (a : Addr) (ns : List Int), vs = [.ref a] ∧ H a = some (.lst (ns.map V.int)) ∧ ns.length ≤ 100000 ∧
  (good ns = true → ∀ r H', Same H H' → H r = none → H' r = some (.lst [.int (sum ns % 256), .int (two ns % 256)]) → Q (.ref r) H') ∧ (good ns = false → ∀ H', Same H H' → E (.ref C) none H')
theorem scCheckOf : FnScope ["numbers", "total", "total_of_totals", "number"] ["numbers"] (defScope sCheckOf) := ⟨rfl, rfl, rfl, by decide +kernel, rfl, by decide +kernel, by decide +kernel⟩
theorem ok_checkOf {f g : Addr} {fd gd : FuncData} (F : Fun K "check_of" "check_of" sCheckOf f fd) (D : Def K mg "refuse_other_numbers" sRefuse ["numbers"] g gd) (G : FnOk P w K mg base (CXs P w) 3 g gd ["numbers"] (spRefuse C1))
    (cr : IntC mg "ROUND" 256) : FnOk P w K mg base (CXs P w) 4 f fd ["numbers"] (spCheckOf C1) := by
  refine F.okX scCheckOf (fun vs H Q E h => ?_) (fun cdv A outer s H vs Q E hr h => ?_)
  · obtain ⟨a, ns, rfl, _⟩ := h
    rfl
  obtain ⟨a, ns, rfl, ha, hl, q1, q2⟩ := h
  refine ⟨_, pss_cons (ps_expr (pe_call G hr rfl D.m D.F.kp D.b .nil pass_on (pa_cons (pv 0) pa_nil)))
    (pss_cons (ps_set (i := 1) scCheckOf.nd rfl (Or.inl rfl) pe_int)
    (pss_cons (ps_set (i := 2) scCheckOf.nd rfl (Or.inl rfl) pe_int)
    (pss_cons (ps_for passes_def rfl (pi_list (pv 0)) (pg_name (i := 3) scCheckOf.nd rfl (Or.inl rfl))
      (pss_cons (ps_set (i := 1) scCheckOf.nd rfl (Or.inl rfl) (pe_op op_mod (pe_op op_add (pv 1) (pv 3)) (pc cr rfl)))
      (pss_one (ps_set (i := 2) scCheckOf.nd rfl (Or.inl rfl) (pe_op op_mod (pe_op op_add (pv 2) (pv 1)) (pc cr rfl))))))
    (pss_one (ps_ret (pe_lst (pa_cons (pv 1) (pa_cons (pv 2) pa_nil)))))))), ?_⟩
  refine ⟨_, rfl, a, ns, rfl, ha, hl, fun hg H1 s1 => ?_, fun hg H1 s1 => q2 hg H1 s1⟩
  refine ⟨_, rfl, a, rfl, ⟨_, SqL.of (s1 _ _ ha)⟩, for_list (K := K) (a := a) (xs := ns.map V.int) (fun i σ H2 => ∃ n, σ = [some (.ref a), some (.int (sum (ns.take i) % 256)), some (.int (two (ns.take i) % 256)), n] ∧ Same H H2) ⟨none, rfl, s1⟩
    (fun i σ H2 _ ⟨_, _, s2⟩ => SqL.of (s2 _ _ ha)) ?_ ?_⟩
  · rintro i x σ H2 hx ⟨n0, rfl, s2⟩
    obtain ⟨n, hn, rfl⟩ := int_at hx
    refine ⟨_, rfl, _, rfl, _, _, rfl, rfl, _, _, rfl, rfl, (by show (0 : Int) < 256; decide), ?_⟩
    refine ⟨_, rfl, _, rfl, _, _, rfl, rfl, _, _, rfl, rfl, (by show (0 : Int) < 256; decide), ?_⟩
    refine ⟨some (.int n), ?_, s2⟩
    have e1 : (sum (ns.take i) % 256 + n) % 256 = sum (ns.take (i + 1)) % 256 := by rw [sum_step hn]; omega
    have e2 : (two (ns.take i) % 256 + sum (ns.take (i + 1)) % 256) % 256 = two (ns.take (i + 1)) % 256 := by rw [two_step hn]; omega
    show [some (V.ref a), some (V.int ((sum (ns.take i) % 256 + n) % 256)), some (V.int ((two (ns.take i) % 256 + (sum (ns.take i) % 256 + n) % 256) % 256)), some (V.int n)] = _
    rw [e1, e2]
  · rintro σ H2 ⟨n0, rfl, s2⟩
    rw [List.length_map, List.take_length]
    refine ⟨_, rfl, _, rfl, (by show 2 ≤ sizeLine; decide), fun p hp => ?_⟩
    exact q1 hg p _ (same_upd s2 (s2.free hp) _) (s2.free hp) upd_same

end
section
variable {P : Program} {w : World} {K : PySem.W.Frag} {mg : Str → Option Value} {base : Heap} {C1 CB : Addr}
/-! ### length_of_two, meaning_behind_escape -/
theorem scLen2 : FnScope ["first", "second"] ["first", "second"] (defScope s_length_of_two) := ⟨rfl, rfl, rfl, by decide +kernel, rfl, by decide +kernel, by decide +kernel⟩
theorem ok_len2 {f : Addr} {fd : FuncData} (F : Fun K "length_of_two" "length_of_two" s_length_of_two f fd) (c1 : IntC mg "FIRST_TELLS" 256) : FnOk P w K mg base (CXs P w) 1 f fd ["first", "second"] spLen2 := by
  refine F.okX scLen2 (fun vs H Q E h => ?_) (fun cdv A outer s H vs Q E hr h => ?_)
  · obtain ⟨a, b, rfl, _⟩ := h
    rfl
  obtain ⟨a, b, rfl, hb, q⟩ := h
  refine ⟨_, (pss_one (ps_ret (pe_op op_add (pe_op op_mul (pv 0) (pc c1 rfl)) (pv 1)))), ?_⟩
  exact ⟨_, rfl, _, _, rfl, rfl, .inl ⟨by omega, by omega⟩, _, rfl, _, _, rfl, rfl, q⟩
theorem scMean : FnScope ["number"] ["number"] (defScope s_meaning_behind_escape) := ⟨rfl, rfl, rfl, by decide +kernel, rfl, by decide +kernel, by decide +kernel⟩
theorem ok_mean {f : Addr} {fd : FuncData} (F : Fun K "meaning_behind_escape" "meaning_behind_escape" s_meaning_behind_escape f fd) (c1 : IntC mg "TELLS_ESCAPE" 1) (c2 : IntC mg "TELLS_BEGINNING" 2) (e1 : IntC mg "ESCAPE" 125) (e2 : IntC mg "BEGINNING" 126) : FnOk P w K mg base (CXs P w) 1 f fd ["number"] spMean := by
  refine F.okX scMean (fun vs H Q E h => ?_) (fun cdv A outer s H vs Q E hr h => ?_)
  · obtain ⟨n, rfl, _⟩ := h
    rfl
  obtain ⟨n, rfl, q1, q2, q3⟩ := h
  refine ⟨_, (pss_cons (ps_if (pt_cmpR op_eq (pv 0) (pc c1 rfl) (nomark _))
      (pss_one (ps_ret (pc e1 rfl)))
      pss_nil)
    (pss_cons (ps_if (pt_cmpR op_eq (pv 0) (pc c2 rfl) (nomark _))
      (pss_one (ps_ret (pc e2 rfl)))
      pss_nil)
    (pss_one (ps_ret pe_non)))), ?_⟩
  refine ⟨_, rfl, rfl, _, rfl, ?_⟩
  refine ite2 (fun c => ?_) (fun c => ?_)
  · exact q1 (V.int.inj (of_decide_eq_true c))
  have n1 : n ≠ 1 := fun z => (of_decide_eq_false (Bool.eq_false_iff.mpr c)) (by rw [z])
  refine ⟨_, rfl, rfl, _, rfl, ?_⟩
  refine ite2 (fun c' => ?_) (fun c' => ?_)
  · exact q2 (V.int.inj (of_decide_eq_true c'))
  have n2 : n ≠ 2 := fun z => (of_decide_eq_false (Bool.eq_false_iff.mpr c')) (by rw [z])
  exact q3 n1 n2
/-! ### Belt -/
theorem scInit : FnScope ["self", "place", "phase", "start", "inside"] ["self", "place", "phase", "start", "inside"] (defScope sBelt_init) := ⟨rfl, rfl, rfl, by decide +kernel, rfl, by decide +kernel, by decide +kernel⟩
theorem ok_init {f : Addr} {fd : FuncData} (F : Fun K "__init__" "Belt.__init__" sBelt_init f fd) (T : TB K mg CB) : FnOk P w K mg base (CXs P w) 1 f fd ["self", "place", "phase", "start", "inside"] (spInit CB) := by
  refine F.okX scInit (fun vs H Q E h => ?_) (fun cdv A outer s H vs Q E hr h => ?_)
  · obtain ⟨x, dx, pl, ph, st, ia, rfl, _⟩ := h
    rfl
  obtain ⟨x, dx, pl, ph, st, ia, rfl, hx, q⟩ := h
  refine ⟨_, (pss_cons (ps_fld (pv 0) (pv 1) rfl)
    (pss_cons (ps_fld (pv 0) (pv 2) rfl)
    (pss_cons (ps_fld (pv 0) (pv 3) rfl)
    (pss_one (ps_fld (pv 0) (pv 4) rfl))))), ?_⟩
  refine ⟨_, rfl, _, rfl, x, CB, dx, [], rfl, hx, T.cl, T.n1, few_lt few0 (by decide), ?_⟩
  refine ⟨_, rfl, _, rfl, x, CB, dx, _, rfl, upd_same, T.cl, T.n2, few_lt (few few0) (by decide), ?_⟩
  refine ⟨_, rfl, _, rfl, x, CB, dx, _, rfl, upd_same, T.cl, T.n3, few_lt (few (few few0)) (by decide), ?_⟩
  refine ⟨_, rfl, _, rfl, x, CB, dx, _, rfl, upd_same, T.cl, T.n4, few_lt (few (few (few few0))) (by decide), ?_⟩
  show Q .non _
  rw [upd_upd, upd_upd, upd_upd, bf_new]
  exact q
theorem scTwin : FnScope ["self"] ["self"] (defScope sBelt_twin) := ⟨rfl, rfl, rfl, by decide +kernel, rfl, by decide +kernel, by decide +kernel⟩
theorem ok_twin {f fI : Addr} {fd fdI : FuncData} (F : Fun K "twin" "Belt.twin" sBelt_twin f fd) (T : TB K mg CB) (B : Blt K mg) (M : Mk K CB fI) (bI : Binds K fdI ["self", "place", "phase", "start", "inside"] [])
    (GI : FnOk P w K mg base (CXs P w) 1 fI fdI ["self", "place", "phase", "start", "inside"] (spInit CB)) : FnOk P w K mg base (CXs P w) 3 f fd ["self"] (spTwin CB) := by
  refine F.okX scTwin (fun vs H Q E h => ?_) (fun cdv A outer s H vs Q E hr h => ?_)
  · obtain ⟨x, dx, ia, pl, m, st, raw, N, rfl, _⟩ := h
    rfl
  obtain ⟨x, dx, ia, pl, m, st, raw, N, rfl, h, q⟩ := h
  refine ⟨_, (pss_one (ps_ret (pe_make M GI hr rfl T.m bI .nil pass_on (pa_cons (pe_fld (pv 0) rfl) (pa_cons (pe_fld (pv 0) rfl) (pa_cons (pe_fld (pv 0) rfl) (pa_cons (pe_callTy call_list_of rfl B.list PyProof.Rows.boot_list (pa_cons (pe_fld (pv 0) rfl) pa_nil)) pa_nil))))))), ?_⟩
  refine ⟨_, rfl, x, CB, dx, _, _, rfl, h.ob, T.cl, T.n1, bf_place, ?_⟩
  refine ⟨_, rfl, x, CB, dx, _, _, rfl, h.ob, T.cl, T.n2, bf_phase, ?_⟩
  refine ⟨_, rfl, x, CB, dx, _, _, rfl, h.ob, T.cl, T.n3, bf_start, ?_⟩
  refine ⟨_, rfl, x, CB, dx, _, _, rfl, h.ob, T.cl, T.n4, bf_inside, ia, _, rfl, .inl (SqL.of h.ls), fun l hl => ?_⟩
  refine fun y dy ny ndy ney => ⟨y, dy, _, _, _, _, rfl, upd_same, rfl, ?_⟩
  have s1 : Same H (upd H l (.lst (raw.map V.int))) := same_new hl _
  have nl : y ≠ l := fun z => by rw [z, upd_same] at ny; cases ny
  have ndl : dy ≠ l := fun z => by rw [z, upd_same] at ndy; cases ndy
  have hy : H y = none := s1.free ny
  have hdy : H dy = none := s1.free ndy
  refine q y dy l _ (same_upd (same_upd (same_upd s1 hdy _) hy _) hy _) hy hl ⟨upd_same, ?_, h.op, h.gd, h.ln⟩
  rw [upd_ne nl.symm, upd_ne nl.symm, upd_ne ndl.symm, upd_same]
theorem scUnf : FnScope ["self"] ["self"] (defScope sBelt_box_is_unfinished) := ⟨rfl, rfl, rfl, by decide +kernel, rfl, by decide +kernel, by decide +kernel⟩
theorem ok_unf {f : Addr} {fd : FuncData} (F : Fun K "box_is_unfinished" "Belt.box_is_unfinished" sBelt_box_is_unfinished f fd) (T : TB K mg CB) (c3 : StrC mg "IN_BOX" "in a box") (c4 : StrC mg "BEHIND_ESCAPE" "in a box, behind an escape") : FnOk P w K mg base (CXs P w) 1 f fd ["self"] (spUnf CB) := by
  refine F.okX scUnf (fun vs H Q E h => ?_) (fun cdv A outer s H vs Q E hr h => ?_)
  · obtain ⟨x, dx, ia, pl, m, st, rfl, _⟩ := h
    rfl
  obtain ⟨x, dx, ia, pl, m, st, rfl, hx, q⟩ := h
  refine ⟨_, (pss_one (ps_ret (pe_or (pe_cmpR op_eq (pe_fld (pv 0) rfl) (pcs c3 rfl) (nomark _)) (pe_one (pe_cmpR op_eq (pe_fld (pv 0) rfl) (pcs c4 rfl) (nomark _)))))), ?_⟩
  refine ⟨_, rfl, x, CB, dx, _, _, rfl, hx, T.cl, T.n2, bf_phase, rfl, _, rfl, ?_⟩
  rw [ph_in]
  cases m with
  | rest => exact iteF ⟨_, rfl, x, CB, dx, _, _, rfl, hx, T.cl, T.n2, bf_phase, rfl, by rw [ph_esc]; exact q⟩
  | skip => exact iteF ⟨_, rfl, x, CB, dx, _, _, rfl, hx, T.cl, T.n2, bf_phase, rfl, by rw [ph_esc]; exact q⟩
  | opn r e s =>
    cases e with
    | false => exact iteT q
    | true => exact iteF ⟨_, rfl, x, CB, dx, _, _, rfl, hx, T.cl, T.n2, bf_phase, rfl, by rw [ph_esc]; exact q⟩
theorem scFault : FnScope ["self", "word"] ["self", "word"] (defScope sBelt_tell_fault) := ⟨rfl, rfl, rfl, by decide +kernel, rfl, by decide +kernel, by decide +kernel⟩
theorem ok_fault {f : Addr} {fd : FuncData} (F : Fun K "tell_fault" "Belt.tell_fault" sBelt_tell_fault f fd) (T : TB K mg CB) : FnOk P w K mg base (CXs P w) 1 f fd ["self", "word"] (spFault CB) := by
  refine F.okX scFault (fun vs H Q E h => ?_) (fun cdv A outer s H vs Q E hr h => ?_)
  · obtain ⟨x, dx, ia, pl, ph, st, wd, rfl, _⟩ := h
    rfl
  obtain ⟨x, dx, ia, pl, ph, st, wd, rfl, hx, q⟩ := h
  refine ⟨_, (pss_one (ps_ret (pe_lst (pa_cons (pe_tup (pa_cons (pe_str (x := "fault")) (pa_cons (pv 1) (pa_cons (pe_fld (pv 0) rfl) pa_nil)))) pa_nil)))), ?_⟩
  exact ⟨_, rfl, _, rfl, x, CB, dx, _, _, rfl, hx, T.cl, T.n1, bf_place, (by show 3 ≤ sizeLine; decide), fun t ht => ⟨(by show 1 ≤ sizeLine; decide), fun l hl => q t l ht hl⟩⟩
theorem scTellUnf : FnScope ["self", "word"] ["self", "word"] (defScope sBelt_tell_unfinished) := ⟨rfl, rfl, rfl, by decide +kernel, rfl, by decide +kernel, by decide +kernel⟩
theorem ok_tellUnf {f fU fF : Addr} {fd fdU fdF : FuncData} (F : Fun K "tell_unfinished" "Belt.tell_unfinished" sBelt_tell_unfinished f fd) (T : TB K mg CB) (DU : MDef K CB "box_is_unfinished" "Belt.box_is_unfinished" sBelt_box_is_unfinished ["self"] fU fdU) (GU : FnOk P w K mg base (CXs P w) 1 fU fdU ["self"] (spUnf CB))
    (DF : MDef K CB "tell_fault" "Belt.tell_fault" sBelt_tell_fault ["self", "word"] fF fdF) (GF : FnOk P w K mg base (CXs P w) 1 fF fdF ["self", "word"] (spFault CB)) : FnOk P w K mg base (CXs P w) 2 f fd ["self", "word"] (spTellUnf CB) := by
  refine F.okX scTellUnf (fun vs H Q E h => ?_) (fun cdv A outer s H vs Q E hr h => ?_)
  · obtain ⟨x, dx, ia, pl, m, st, wd, ev, rfl, _⟩ := h
    rfl
  obtain ⟨x, dx, ia, pl, m, st, wd, ev, rfl, hx, hev, q⟩ := h
  refine ⟨_, (pss_one (ps_ret (pe_ifExp (pt_val (pe_meth0 (pv 0) T.cl DU.m GU hr DU.b .nil pass_on)) (pe_meth (pv 0) T.cl DF.m GF hr DF.b .nil pass_on (pa_cons (pv 1) pa_nil)) (pe_lst pa_nil)))), ?_⟩
  refine ⟨_, rfl, x, dx, _, rfl, hx, bf_no (by decide +kernel) (by decide +kernel) (by decide +kernel) (by decide +kernel), x, dx, ia, pl, m, st, rfl, hx, _, rfl, ?_⟩
  cases e : isOpn m with
  | true =>
    refine iteT ?_
    have q' : ∀ l H', Same H H' → Gives H H' [] l ([ev].map evD) → Q (.ref l) H' := by rw [e] at q; exact q
    refine ⟨_, rfl, x, dx, _, rfl, hx, bf_no (by decide +kernel) (by decide +kernel) (by decide +kernel) (by decide +kernel), _, rfl, x, dx, ia, pl, _, st, wd, rfl, hx, fun t l ht hl => ?_⟩
    have s1 : Same H (upd H t (.tup [.str "fault", .str wd, .int pl])) := same_new ht _
    have nl : t ≠ l := fun z => by rw [← z, upd_same] at hl; cases hl
    refine q' l _ (s1.trans (same_new hl _)) ⟨s1.free hl, _, upd_same, ?_⟩
    show All2 _ [V.ref t] [evD ev]
    rw [hev]
    exact .cons (rep_fault (by rw [nw_get (by simp) ht, upd_ne nl, upd_same])) .nil
  | false =>
    refine iteF ?_
    have q' : ∀ l H', Same H H' → Gives H H' [] l (([] : List Ev).map evD) → Q (.ref l) H' := by rw [e] at q; exact q
    exact ⟨(by show 0 ≤ sizeLine; decide), fun l hl => q' l _ (same_new hl _) (gives_none hl upd_same)⟩
theorem scPass : FnScope ["self", "word"] ["self", "word"] (defScope sBelt_pass_over) := ⟨rfl, rfl, rfl, by decide +kernel, rfl, by decide +kernel, by decide +kernel⟩
theorem ok_pass {f fF : Addr} {fd fdF : FuncData} (F : Fun K "pass_over" "Belt.pass_over" sBelt_pass_over f fd) (T : TB K mg CB) (c2 : StrC mg "PASSING_OVER" "passing over")
    (DF : MDef K CB "tell_fault" "Belt.tell_fault" sBelt_tell_fault ["self", "word"] fF fdF) (GF : FnOk P w K mg base (CXs P w) 1 fF fdF ["self", "word"] (spFault CB)) : FnOk P w K mg base (CXs P w) 2 f fd ["self", "word"] (spPass CB) := by
  refine F.okX scPass (fun vs H Q E h => ?_) (fun cdv A outer s H vs Q E hr h => ?_)
  · obtain ⟨x, dx, ia, pl, m, st, raw, N, wd, ev, rfl, _⟩ := h
    rfl
  obtain ⟨x, dx, ia, pl, m, st, raw, N, wd, ev, rfl, h, hev, q⟩ := h
  refine ⟨_, (pss_cons (ps_fld (pv 0) (pcs c2 rfl) rfl)
    (pss_one (ps_ret (pe_meth (pv 0) T.cl DF.m GF hr DF.b .nil pass_on (pa_cons (pv 1) pa_nil))))), ?_⟩
  refine ⟨_, rfl, x, CB, dx, _, rfl, h.ob, T.cl, T.n2, bf_len, ?_⟩
  rw [bf_set_phase]
  have nx := h.ne
  refine ⟨_, rfl, x, dx, _, rfl, upd_same, bf_no (by decide +kernel) (by decide +kernel) (by decide +kernel) (by decide +kernel), _, rfl, x, dx, ia, pl, _, st, wd, rfl, upd_same, fun t l ht hl => ?_⟩
  have ntx : t ≠ x := fun z => by rw [z, upd_same] at ht; cases ht
  have ht0 : H t = none := by rw [upd_ne ntx] at ht; exact ht
  have nlt : l ≠ t := fun z => by rw [z, upd_same] at hl; cases hl
  have hl1 : upd H x (.ins CB dx (bf pl "passing over" st ia)) l = none := by rw [upd_ne nlt] at hl; exact hl
  have nlx : l ≠ x := fun z => by rw [z, upd_same] at hl1; cases hl1
  have hl0 : H l = none := by rw [upd_ne nlx] at hl1; exact hl1
  have nti : t ≠ ia := ne_isSome h.ls ht0
  have nli : l ≠ ia := ne_isSome h.ls hl0
  refine q l _ ia st raw ⟨?_, ?_, (fun _ _ _ z => nomatch z), h.gd, h.ln⟩ ?_ (.inl rfl) (gives_fault hev ht0 hl0 nti ?_ upd_same)
  · rw [upd_ne nlx.symm, upd_ne ntx.symm, upd_same]; rfl
  · rw [upd_ne nli.symm, upd_ne nti.symm, upd_ne nx.symm]; exact h.ls
  · intro b o n1 n2 e
    rw [upd_ne (ne_of_none e hl0), upd_ne (ne_of_none e ht0), upd_ne n1]; exact e
  · rw [upd_ne nlt.symm, upd_same]
theorem scBegin : FnScope ["self", "told"] ["self"] (defScope sBelt_begin_box) := ⟨rfl, rfl, rfl, by decide +kernel, rfl, by decide +kernel, by decide +kernel⟩
theorem ok_begin {f fU : Addr} {fd fdU : FuncData} (F : Fun K "begin_box" "Belt.begin_box" sBelt_begin_box f fd) (T : TB K mg CB) (c3 : StrC mg "IN_BOX" "in a box")
    (DU : MDef K CB "tell_unfinished" "Belt.tell_unfinished" sBelt_tell_unfinished ["self", "word"] fU fdU) (GU : FnOk P w K mg base (CXs P w) 2 fU fdU ["self", "word"] (spTellUnf CB)) : FnOk P w K mg base (CXs P w) 3 f fd ["self"] (spBegin CB) := by
  refine F.okX scBegin (fun vs H Q E h => ?_) (fun cdv A outer s H vs Q E hr h => ?_)
  · obtain ⟨x, dx, ia, pl, m, st, raw, N, rfl, _⟩ := h
    rfl
  obtain ⟨x, dx, ia, pl, m, st, raw, N, rfl, h, q⟩ := h
  refine ⟨_, (pss_cons (ps_set (i := 1) scBegin.nd rfl (Or.inl rfl) (pe_meth (pv 0) T.cl DU.m GU hr DU.b .nil pass_on (pa_cons (pe_str (x := "cut")) pa_nil)))
    (pss_cons (ps_fld (pv 0) (pcs c3 rfl) rfl)
    (pss_cons (ps_fld (pv 0) (pe_fld (pv 0) rfl) rfl)
    (pss_cons (ps_fld (pv 0) (pe_lst pa_nil) rfl)
    (pss_one (ps_ret (pv 1))))))), ?_⟩
  refine ⟨_, rfl, x, dx, _, rfl, h.ob, bf_no (by decide +kernel) (by decide +kernel) (by decide +kernel) (by decide +kernel), x, dx, ia, pl, m, st, "cut", .cut pl, rfl, h.ob, rfl, fun l H1 s1 g1 => ?_⟩
  refine ⟨_, rfl, x, CB, dx, _, rfl, s1 _ _ h.ob, T.cl, T.n2, bf_len, ?_⟩
  rw [bf_set_phase]
  refine ⟨_, rfl, x, CB, dx, _, _, rfl, upd_same, T.cl, T.n1, bf_place, _, rfl, x, CB, dx, _, rfl, upd_same, T.cl, T.n3, bf_len, ?_⟩
  rw [bf_set_start, upd_upd]
  refine ⟨(by show 0 ≤ sizeLine; decide), fun ja hj => ?_⟩
  have njx : ja ≠ x := fun z => by rw [z, upd_same] at hj; cases hj
  have hj1 : H1 ja = none := by rw [upd_ne njx] at hj; exact hj
  have hj0 : H ja = none := s1.free hj1
  refine ⟨_, rfl, x, CB, dx, _, rfl, (by rw [upd_ne njx.symm, upd_same]), T.cl, T.n4, bf_len, ?_⟩
  rw [bf_set_inside]
  obtain ⟨gl, ws, gw, gv⟩ := g1
  have nlx : l ≠ x := ne_isSome h.ob gl
  have nlj : l ≠ ja := fun z => by rw [← z, gw] at hj1; cases hj1
  refine ⟨_, rfl, q l _ ja pl [] ⟨upd_same, ?_, ?_, rfl, Nat.zero_le _⟩ ?_ (.inr hj0) ⟨gl, ws, ?_, ?_⟩⟩
  · rw [upd_ne njx, upd_same]; rfl
  · intro r e s z; cases z; exact ⟨rfl, rfl⟩
  · intro b o n1 n2 e
    rw [upd_ne n1, upd_ne (ne_of_none e hj0), upd_ne n1]; exact s1 _ _ e
  · rw [upd_ne nlx, upd_ne nlj, upd_ne nlx]; exact gw
  · refine reps_mono (nw_to fun b o _ e2 e3 => ⟨?_, e2, ?_⟩) gv
    · intro z
      have z' : b = ja := by simpa using z
      rw [z', hj1] at e3; cases e3
    · have nbx : b ≠ x := ne_isSome h.ob e2
      have nbj : b ≠ ja := fun z => by rw [z, hj1] at e3; cases e3
      rw [upd_ne nbx, upd_ne nbj, upd_ne nbx]; exact e3
end
section
variable {P : Program} {w : World} {K : PySem.W.Frag} {mg : Str → Option Value} {base : Heap} {C1 CB : Addr}
theorem scEnd : FnScope ["self", "ahead"] ["self"] (defScope sBelt_end_box) := ⟨rfl, rfl, rfl, by decide +kernel, rfl, by decide +kernel, by decide +kernel⟩
theorem ok_end {f fC fF : Addr} {fd fdC fdF : FuncData} (F : Fun K "end_box" "Belt.end_box" sBelt_end_box f fd) (T : TB K mg CB) (c1 : StrC mg "AT_REST" "at rest") (d1 : IntC mg "OF_LENGTH" 2) (d2 : IntC mg "OF_LABEL" 1) (d3 : IntC mg "OF_CHECK" 2)
    (DC : Def K mg "check_of" sCheckOf ["numbers"] fC fdC) (GC : FnOk P w K mg base (CXs P w) 4 fC fdC ["numbers"] (spCheckOf C1))
    (DF : MDef K CB "tell_fault" "Belt.tell_fault" sBelt_tell_fault ["self", "word"] fF fdF) (GF : FnOk P w K mg base (CXs P w) 1 fF fdF ["self", "word"] (spFault CB)) : FnOk P w K mg base (CXs P w) 5 f fd ["self"] (spEnd CB) := by
  refine F.okX scEnd (fun vs H Q E h => ?_) (fun cdv A outer s H vs Q E hr h => ?_)
  · obtain ⟨x, dx, ia, pl, st, raw, N, rfl, _⟩ := h
    rfl
  obtain ⟨x, dx, ia, pl, st, raw, N, rfl, h, hN, h5, q⟩ := h
  have hu := hr.units0
  have hr1 : Room 1 _ := hr.mono (by decide)
  refine ⟨_, (pss_cons (ps_fld (pv 0) (pcs c1 rfl) rfl)
    (pss_cons (ps_set (i := 1) scEnd.nd rfl (Or.inl rfl) (pe_slice sl_list (pe_fld (pv 0) rfl) po_none (po_some (pe_un un_neg (pc d3 rfl)))))
    (pss_cons (ps_if (pt_cmpR (op_neI hu) (pe_call GC hr rfl DC.m DC.F.kp DC.b .nil pass_on (pa_cons (pv 1) pa_nil)) (pe_slice sl_list (pe_fld (pv 0) rfl) (po_some (pe_un un_neg (pc d3 rfl))) po_none) (nomark _))
      (pss_one (ps_ret (pe_meth (pv 0) T.cl DF.m GF hr1 DF.b .nil pass_on (pa_cons (pe_str (x := "check")) pa_nil))))
      pss_nil)
    (pss_one (ps_ret (pe_lst (pa_cons (pe_tup (pa_cons (pe_str (x := "box")) (pa_cons (pe_ix ix_list (pv 1) (pc d1 rfl) (fun _ _ => rfl)) (pa_cons (pe_slice sl_list (pv 1) (po_some (pe_op op_add (pc d1 rfl) (pc d2 rfl))) po_none) (pa_cons (pe_fld (pv 0) rfl) (pa_cons (pe_fld (pv 0) rfl) pa_nil)))))) pa_nil))))))), ?_⟩
  have nxi := h.ne
  have hln := h.ln
  refine ⟨_, rfl, x, CB, dx, _, rfl, h.ob, T.cl, T.n2, bf_len, ?_⟩
  rw [bf_set_phase]
  have ls1 : upd H x (.ins CB dx (bf pl "at rest" st ia)) ia = some (.lst (raw.map V.int)) := by rw [upd_ne nxi.symm]; exact h.ls
  have ob1 : upd H x (.ins CB dx (bf pl "at rest" st ia)) x = some (.ins CB dx (bf pl "at rest" st ia)) := upd_same
  have fr1 : ∀ b, upd H x (.ins CB dx (bf pl "at rest" st ia)) b = none → H b = none := fun b hb => by
    have n : b ≠ x := fun z => by rw [z, upd_same] at hb; cases hb
    rw [upd_ne n] at hb; exact hb
  have kp1 : ∀ b o, b ≠ x → H b = some o → upd H x (.ins CB dx (bf pl "at rest" st ia)) b = some o := fun b o n e => by rw [upd_ne n]; exact e
  generalize upd H x (.ins CB dx (bf pl "at rest" st ia)) = H1 at ls1 ob1 fr1 kp1 ⊢
  refine ⟨_, rfl, x, CB, dx, _, _, rfl, ob1, T.cl, T.n4, bf_inside, _, rfl, _, rfl, ia, _, rfl, SqL.of ls1, fun p hp => ?_⟩
  rw [cutV_ints, cut_but2 (by omega)]
  have s2 := same_new hp (.lst ((raw.take (raw.length - 2)).map V.int))
  have hp2 : upd H1 p (.lst ((raw.take (raw.length - 2)).map V.int)) p = some (.lst ((raw.take (raw.length - 2)).map V.int)) := upd_same
  generalize upd H1 p (.lst ((raw.take (raw.length - 2)).map V.int)) = H2 at s2 hp2 ⊢
  refine ⟨_, rfl, p, _, rfl, hp2, by rw [List.length_take]; omega, fun hg r H3 s3 nr hr3 => ?_, fun hg => absurd hg (by rw [good_take h.gd]; exact fun z => nomatch z)⟩
  refine ⟨_, rfl, x, CB, dx, _, _, rfl, s3 _ _ (s2 _ _ ob1), T.cl, T.n4, bf_inside, _, rfl, _, rfl, ia, _, rfl, SqL.of (s3 _ _ (s2 _ _ ls1)), fun p2 hp2' => ?_⟩
  rw [cutV_ints, cut_last2 (by omega)]
  have s4 := same_new hp2' (.lst ((raw.drop (raw.length - 2)).map V.int))
  have hp4 : upd H3 p2 (.lst ((raw.drop (raw.length - 2)).map V.int)) p2 = some (.lst ((raw.drop (raw.length - 2)).map V.int)) := upd_same
  generalize upd H3 p2 (.lst ((raw.drop (raw.length - 2)).map V.int)) = H4 at s4 hp4 ⊢
  have sA : Same H1 H4 := (s2.trans s3).trans s4
  have ob4 := sA _ _ ob1
  have ls4 := sA _ _ ls1
  refine ⟨r, p2, chk (raw.take (raw.length - 2)), raw.drop (raw.length - 2), rfl, rfl, SqL.of (s4 _ _ hr3), SqL.of hp4, _, rfl, ?_⟩
  have kp4 : ∀ b o, b ≠ x → H b = some o → H4 b = some o := fun b o n e => sA _ _ (kp1 b o n e)
  by_cases hck : raw.drop (raw.length - 2) = chk (raw.take (raw.length - 2))
  · rw [if_pos hck] at q
    refine ifF (by rw [decide_eq_true hck.symm]; rfl) ?_
    have hap : H4 p = some (.lst ((raw.take (raw.length - 2)).map V.int)) := s4 _ _ (s3 _ _ hp2)
    have hl2 : 2 < (raw.take (raw.length - 2)).length := by rw [List.length_take]; omega
    refine ⟨_, rfl, p, _, _, _, rfl, rfl, SqL.of hap, atI_nat (j := 2) (by rw [List.getElem?_map, getD_at (d := 0) hl2]; rfl), ?_⟩
    refine ⟨_, rfl, _, _, rfl, rfl, _, rfl, p, _, rfl, SqL.of hap, fun p7 hp7 => ?_⟩
    have ecut : cutV ((raw.take (raw.length - 2)).map V.int) (some ((2 : Int) + 1)) none = ((raw.take (raw.length - 2)).drop 3).map V.int := by
      rw [cutV_ints]
      have := cut_from (xs := raw.take (raw.length - 2)) (k := 3)
      exact congrArg (List.map V.int) this
    rw [ecut]
    have s5 := same_new hp7 (.lst (((raw.take (raw.length - 2)).drop 3).map V.int))
    have h75 : upd H4 p7 (.lst (((raw.take (raw.length - 2)).drop 3).map V.int)) p7 = some (.lst (((raw.take (raw.length - 2)).drop 3).map V.int)) := upd_same
    generalize upd H4 p7 (.lst (((raw.take (raw.length - 2)).drop 3).map V.int)) = H5 at s5 h75 ⊢
    refine ⟨_, rfl, x, CB, dx, _, _, rfl, s5 _ _ ob4, T.cl, T.n3, bf_start, _, rfl, x, CB, dx, _, _, rfl, s5 _ _ ob4, T.cl, T.n1, bf_place, (by show 5 ≤ sizeLine; decide), fun t ht => ⟨(by show 1 ≤ sizeLine; decide), fun l hl => ?_⟩⟩
    have e2 : (raw.take (raw.length - 2)).getD 2 0 = raw.getD 2 0 := by
      rw [List.getD_eq_getElem?_getD, List.getD_eq_getElem?_getD, List.getElem?_take, if_pos (by omega)]
    rw [e2] at hl ⊢
    have h70 : H p7 = none := fr1 _ (sA.free hp7)
    have ht0 : H t = none := fr1 _ (sA.free (s5.free ht))
    have s6 := same_new ht (.tup [.str "box", .int (raw.getD 2 0), .ref p7, .int st, .int pl])
    have h76 := s6 _ _ h75
    have ht6 : upd H5 t (.tup [.str "box", .int (raw.getD 2 0), .ref p7, .int st, .int pl]) t = some (.tup [.str "box", .int (raw.getD 2 0), .ref p7, .int st, .int pl]) := upd_same
    have sB : Same H1 (upd H5 t (.tup [.str "box", .int (raw.getD 2 0), .ref p7, .int st, .int pl])) := (sA.trans s5).trans s6
    have hl0 : H l = none := fr1 _ (sB.free hl)
    have s7 := same_new hl (.lst [.ref t])
    have nti : t ≠ ia := ne_isSome h.ls ht0
    have n7i : p7 ≠ ia := ne_isSome h.ls h70
    refine q l _ ia st raw ⟨s7 _ _ (sB _ _ ob1), s7 _ _ (sB _ _ ls1), (fun _ _ _ z => nomatch z), h.gd, h.ln⟩ (fun b o n1 n2 e => s7 _ _ (sB _ _ (kp1 b o n1 e))) (.inl rfl) ⟨hl0, _, upd_same, ?_⟩
    refine .cons (rep_tup (vs := [.str "box", .int (raw.getD 2 0), .ref p7, .int st, .int pl]) ?_ (.cons (.str _) (.cons (.int _) (.cons (rep_ints ?_) (.cons (.int _) (.cons (.int _) .nil)))))) .nil
    · rw [nw_get (by simpa using nti) ht0]; exact s7 _ _ ht6
    · rw [nw_get (by simpa using n7i) h70]; exact s7 _ _ h76
  · rw [if_neg hck] at q
    refine ifT (by rw [decide_eq_false (fun z => hck z.symm)]; rfl) ?_
    refine ⟨_, rfl, x, dx, _, rfl, ob4, bf_no (by decide +kernel) (by decide +kernel) (by decide +kernel) (by decide +kernel), x, dx, ia, pl, _, st, "check", rfl, ob4, fun t l ht hl => ?_⟩
    have ht0 : H t = none := fr1 _ (sA.free ht)
    have s6 := same_new ht (.tup [.str "fault", .str "check", .int pl])
    have hl0 : H l = none := fr1 _ (sA.free (s6.free hl))
    have s7 := same_new hl (.lst [.ref t])
    have sB : Same H1 _ := (sA.trans s6).trans s7
    refine q l _ ia st raw ⟨sB _ _ ob1, sB _ _ ls1, (fun _ _ _ z => nomatch z), h.gd, h.ln⟩ (fun b o n1 n2 e => sB _ _ (kp1 b o n1 e)) (.inl rfl) (gives_fault rfl ht0 hl0 (ne_isSome h.ls ht0) (s7 _ _ upd_same) upd_same)
theorem scPut : FnScope ["self", "number", "most", "come", "length"] ["self", "number", "most"] (defScope sBelt_put_in) := ⟨rfl, rfl, rfl, by decide +kernel, rfl, by decide +kernel, by decide +kernel⟩
theorem ok_put {f fL fP fE : Addr} {fd fdL fdP fdE : FuncData} (F : Fun K "put_in" "Belt.put_in" sBelt_put_in f fd) (T : TB K mg CB) (B : Blt K mg) (d1 : IntC mg "OF_LENGTH" 2) (d2 : IntC mg "OF_LABEL" 1) (d3 : IntC mg "OF_CHECK" 2)
    (DL : Def K mg "length_of_two" s_length_of_two ["first", "second"] fL fdL) (GL : FnOk P w K mg base (CXs P w) 1 fL fdL ["first", "second"] spLen2)
    (DP : MDef K CB "pass_over" "Belt.pass_over" sBelt_pass_over ["self", "word"] fP fdP) (GP : FnOk P w K mg base (CXs P w) 2 fP fdP ["self", "word"] (spPass CB))
    (DE : MDef K CB "end_box" "Belt.end_box" sBelt_end_box ["self"] fE fdE) (GE : FnOk P w K mg base (CXs P w) 5 fE fdE ["self"] (spEnd CB)) : FnOk P w K mg base (CXs P w) 6 f fd ["self", "number", "most"] (spPut CB) := by
  refine F.okX scPut (fun vs H Q E h => ?_) (fun cdv A outer s H vs Q E hr h => ?_)
  · obtain ⟨x, dx, ia, pl, st, raw, N, n, most, rfl, _⟩ := h
    rfl
  obtain ⟨x, dx, ia, pl, st, raw, N, n, most, rfl, h, hn, hN, hfit, q⟩ := h
  have hr1 : Room 1 _ := hr.mono (by decide)
  have hr2 : Room 2 _ := hr.mono (by decide)
  refine ⟨_, (pss_cons (ps_expr (pe_bm PySem.F.plainAttrs_list PySem.F.slot_list_append PySem.F.type_list_append mt_append (pe_fld (pv 0) rfl) (pa_cons (pv 1) pa_nil)))
    (pss_cons (ps_set (i := 3) scPut.nd rfl (Or.inl rfl) (pe_callB call_len_seq rfl B.len PySem.boot_len (pa_cons (pe_fld (pv 0) rfl) pa_nil)))
    (pss_cons (ps_if (pt_cmpR op_lt (pv 3) (pc d1 rfl) (nomark _))
      (pss_one (ps_ret (pe_lst pa_nil)))
      pss_nil)
    (pss_cons (ps_set (i := 4) scPut.nd rfl (Or.inl rfl) (pe_call GL hr1 rfl DL.m DL.F.kp DL.b .nil pass_on (pa_cons (pe_ix ix_list (pe_fld (pv 0) rfl) pe_int (fun _ _ => rfl)) (pa_cons (pe_ix ix_list (pe_fld (pv 0) rfl) pe_int (fun _ _ => rfl)) pa_nil))))
    (pss_cons (ps_if (PW.pt (pw_and (pt_cmpR op_eq (pv 3) (pc d1 rfl) (nomark _)) (pw_and1 (pt_cmpR op_gt (pv 4) (pv 2) (nomark _)))))
      (pss_one (ps_ret (pe_meth (pv 0) T.cl DP.m GP hr2 DP.b .nil pass_on (pa_cons (pe_str (x := "great")) pa_nil))))
      pss_nil)
    (pss_cons (ps_if (pt_cmpR op_eq (pv 3) (pe_op op_add (pe_op op_add (pe_op op_add (pc d1 rfl) (pc d2 rfl)) (pv 4)) (pc d3 rfl)) (nomark _))
      (pss_one (ps_ret (pe_meth0 (pv 0) T.cl DE.m GE hr DE.b .nil pass_on)))
      pss_nil)
    (pss_one (ps_ret (pe_lst pa_nil))))))))), ?_⟩
  have nxi := h.ne
  have hln := h.ln
  refine ⟨_, rfl, x, CB, dx, _, _, rfl, h.ob, T.cl, T.n4, bf_inside, .inl ⟨rfl, _, SqL.of h.ls⟩, _, rfl, ia, _, _, rfl, rfl, h.ls, small (by rw [List.length_map]; omega), ?_⟩
  have e0 : raw.map V.int ++ [V.int n] = (raw ++ [n]).map V.int := by rw [List.map_append]; rfl
  rw [e0]
  have ls1 : upd H ia (.lst ((raw ++ [n]).map V.int)) ia = some (.lst ((raw ++ [n]).map V.int)) := upd_same
  have ob1 : upd H ia (.lst ((raw ++ [n]).map V.int)) x = some (.ins CB dx (bf pl "in a box" st ia)) := by rw [upd_ne nxi]; exact h.ob
  have q1 : MQ CB x dx ia (upd H ia (.lst ((raw ++ [n]).map V.int))) pl (more most (raw ++ [n]) st pl).1 (N + 1) (more most (raw ++ [n]) st pl).2 Q :=
    q.from (by rw [h.ob]; exact fun z => nomatch z) (by rw [h.ls]; exact fun z => nomatch z) (by rw [ob1]; exact fun z => nomatch z) (by rw [ls1]; exact fun z => nomatch z) (fun b n1 n2 => upd_ne n2)
  have hg1 : good (raw ++ [n]) = true := good_snoc h.gd hn
  have hl1 : (raw ++ [n]).length = raw.length + 1 := by rw [List.length_append]; rfl
  have hfit1 : 3 ≤ (raw ++ [n]).length → lenOf (raw ++ [n]) ≤ most := fun z => by rw [lenOf_snoc (by omega)]; exact hfit (by omega)
  have hN1 : (raw ++ [n]).length ≤ N + 1 := by omega
  have hpos : 1 ≤ (raw ++ [n]).length := by omega
  generalize upd H ia (.lst ((raw ++ [n]).map V.int)) = H1 at ls1 ob1 q1 ⊢
  generalize raw ++ [n] = rw_ at *
  have hlv : ((rw_.map V.int).length : Int) = (rw_.length : Int) := by rw [List.length_map]
  have opn : BeltAt CB H1 x dx ia pl (.opn rw_ false st) st rw_ (N + 1) := ⟨ob1, ls1, (fun r e s z => by cases z; exact ⟨rfl, rfl⟩), hg1, hN1⟩
  have none_ : more most rw_ st pl = (.opn rw_ false st, []) → ∀ l, H1 l = none → Q (.ref l) (upd H1 l (.lst [])) := fun e l hl => by
    rw [e] at q1
    exact q1 l _ ia st rw_ (opn.mono (same_new hl _)) (fun b o _ _ e => same_new hl _ _ _ e) (.inl rfl) (gives_none hl upd_same)
  refine ⟨_, rfl, x, CB, dx, _, _, rfl, ob1, T.cl, T.n4, bf_inside, ia, _, rfl, .inl (SqL.of ls1), ?_⟩
  refine ⟨_, rfl, _, _, rfl, rfl, _, rfl, ?_⟩
  by_cases h1 : rw_.length < 2
  · refine ifT (decide_eq_true (by rw [hlv]; omega)) ?_
    exact ⟨(by show 0 ≤ sizeLine; decide), fun l hl => none_ (mr_open (fun z => by omega) (fun z => by omega)) l hl⟩
  refine ifF (decide_eq_false (by rw [hlv]; omega)) ?_
  have b0 := okN_bd (good_at (i := 0) hg1 (getD_at (d := 0) (by omega)))
  refine ⟨_, rfl, x, CB, dx, _, _, rfl, ob1, T.cl, T.n4, bf_inside, ia, _, _, _, rfl, rfl, SqL.of ls1, atI_nat (j := 0) (by rw [List.getElem?_map, getD_at (d := 0) (by omega)]; rfl), ?_⟩
  refine ⟨_, rfl, x, CB, dx, _, _, rfl, ob1, T.cl, T.n4, bf_inside, ia, _, _, _, rfl, rfl, SqL.of ls1, atI_nat (j := 1) (by rw [List.getElem?_map, getD_at (d := 0) (by omega)]; rfl), ?_⟩
  refine ⟨_, _, rfl, ⟨by omega, by omega⟩, ?_⟩
  have elen : rw_.getD 0 0 * 256 + rw_.getD 1 0 = lenOf rw_ := by unfold lenOf; omega
  rw [elen]
  dsimp only
  refine seq_by (t := tIfS _ _ _) (fun σ H2 => σ = [some (.ref x), some (.int n), some (.int most), some (.int ((rw_.map V.int).length : Int)), some (.int (lenOf rw_))] ∧ H2 = H1 ∧ ¬ (1 < rw_.length ∧ most < lenOf rw_)) ?_ ?_
  · rintro σ H2 ⟨rfl, rfl, hng⟩
    refine ⟨_, rfl, _, _, rfl, rfl, _, rfl, _, _, rfl, rfl, _, _, rfl, rfl, rfl, _, rfl, ?_⟩
    by_cases hfull : (rw_.length : Int) = lenOf rw_ + 5
    · refine ifT (decide_eq_true (by rw [hlv, hfull]; show V.int _ = V.int (2 + 1 + lenOf rw_ + 2); congr 1; omega)) ?_
      rw [mr_full (by omega) hng hfull] at q1
      have hlz : 0 ≤ lenOf rw_ := by
        have b1 := okN_bd (good_at (i := 1) hg1 (getD_at (d := 0) (by omega)))
        unfold lenOf; omega
      exact ⟨_, rfl, x, dx, _, rfl, ob1, bf_no (by decide +kernel) (by decide +kernel) (by decide +kernel) (by decide +kernel), x, dx, ia, pl, st, rw_, N + 1, rfl, opn, by omega, by omega, q1⟩
    · refine ifF (decide_eq_false fun z => hfull (by have z' := V.int.inj z; rw [hlv] at z'; have z2 : (rw_.length : Int) = 2 + 1 + lenOf rw_ + 2 := z'; omega)) ?_
      exact ⟨(by show 0 ≤ sizeLine; decide), fun l hl => none_ (mr_open hng (fun z => hfull z.2)) l hl⟩
  · intro nx hnx
    refine ⟨_, rfl, rfl, _, rfl, ?_⟩
    by_cases h2 : rw_.length = 2
    · refine ifT (decide_eq_true (by rw [hlv, h2]; rfl)) ?_
      refine ⟨_, rfl, _, rfl, _, _, rfl, rfl, _, rfl, ?_⟩
      by_cases hgr : most < lenOf rw_
      · refine ifT (decide_eq_true hgr) ?_
        rw [mr_great (by omega) hgr] at q1
        exact ⟨_, rfl, x, dx, _, rfl, ob1, bf_no (by decide +kernel) (by decide +kernel) (by decide +kernel) (by decide +kernel), x, dx, ia, pl, _, st, rw_, N + 1, "great", .great pl, rfl, opn, rfl, q1⟩
      · exact ifF (decide_eq_false hgr) (hnx _ _ ⟨rfl, rfl, fun z => hgr z.2⟩)
    · refine ifF (decide_eq_false fun z => h2 (by have z' := V.int.inj z; rw [hlv] at z'; omega)) ?_
      exact ifF rfl (hnx _ _ ⟨rfl, rfl, fun z => by have := hfit1 (by omega); omega⟩)
theorem scPutE : FnScope ["self", "number", "most", "meaning"] ["self", "number", "most"] (defScope sBelt_put_in_escaped) := ⟨rfl, rfl, rfl, by decide +kernel, rfl, by decide +kernel, by decide +kernel⟩
theorem ok_putE {f fM fP fI : Addr} {fd fdM fdP fdI : FuncData} (F : Fun K "put_in_escaped" "Belt.put_in_escaped" sBelt_put_in_escaped f fd) (T : TB K mg CB) (c3 : StrC mg "IN_BOX" "in a box")
    (DM : Def K mg "meaning_behind_escape" s_meaning_behind_escape ["number"] fM fdM) (GM : FnOk P w K mg base (CXs P w) 1 fM fdM ["number"] spMean)
    (DP : MDef K CB "pass_over" "Belt.pass_over" sBelt_pass_over ["self", "word"] fP fdP) (GP : FnOk P w K mg base (CXs P w) 2 fP fdP ["self", "word"] (spPass CB))
    (DI : MDef K CB "put_in" "Belt.put_in" sBelt_put_in ["self", "number", "most"] fI fdI) (GI : FnOk P w K mg base (CXs P w) 6 fI fdI ["self", "number", "most"] (spPut CB)) : FnOk P w K mg base (CXs P w) 7 f fd ["self", "number", "most"] (spPutE CB) := by
  refine F.okX scPutE (fun vs H Q E h => ?_) (fun cdv A outer s H vs Q E hr h => ?_)
  · obtain ⟨x, dx, ia, pl, st, raw, N, n, most, rfl, _⟩ := h
    rfl
  obtain ⟨x, dx, ia, pl, st, raw, N, n, most, rfl, h, hn, hN, hfit, q⟩ := h
  have hr1 : Room 1 _ := hr.mono (by decide)
  have hr2 : Room 2 _ := hr.mono (by decide)
  refine ⟨_, (pss_cons (ps_set (i := 3) scPutE.nd rfl (Or.inl rfl) (pe_call GM hr1 rfl DM.m DM.F.kp DM.b .nil pass_on (pa_cons (pv 1) pa_nil)))
    (pss_cons (ps_if (pt_cmpR op_isN (pv 3) pe_non (nomark _))
      (pss_one (ps_ret (pe_meth (pv 0) T.cl DP.m GP hr2 DP.b .nil pass_on (pa_cons (pe_str (x := "escape")) pa_nil))))
      pss_nil)
    (pss_cons (ps_fld (pv 0) (pcs c3 rfl) rfl)
    (pss_one (ps_ret (pe_meth (pv 0) T.cl DI.m GI hr DI.b .nil pass_on (pa_cons (pv 3) (pa_cons (pv 2) pa_nil)))))))), ?_⟩
  have nxi := h.ne
  have ob1 : upd H x (.ins CB dx (bf pl "in a box" st ia)) x = some (.ins CB dx (bf pl "in a box" st ia)) := upd_same
  have ls1 : upd H x (.ins CB dx (bf pl "in a box" st ia)) ia = some (.lst (raw.map V.int)) := by rw [upd_ne nxi.symm]; exact h.ls
  have q1 := q.from (H1 := upd H x (.ins CB dx (bf pl "in a box" st ia))) (by rw [h.ob]; exact fun z => nomatch z) (by rw [h.ls]; exact fun z => nomatch z) (by rw [ob1]; exact fun z => nomatch z) (by rw [ls1]; exact fun z => nomatch z) (fun b n1 n2 => upd_ne n1)
  have es : stepL most (.opn raw true st) pl n = if n = 1 ∨ n = 2 then more most (raw ++ [124 + n]) st pl else (.skip, [.escape pl]) := rfl
  have opn : BeltAt CB (upd H x (.ins CB dx (bf pl "in a box" st ia))) x dx ia pl (.opn raw false st) st raw N := ⟨ob1, ls1, (fun r e s z => by cases z; exact ⟨rfl, rfl⟩), h.gd, h.ln⟩
  refine ⟨_, rfl, n, rfl, fun e => ?_, fun e => ?_, fun e1 e2 => ?_⟩
  · rw [es, if_pos (.inl e)] at q1
    have e' : (124 : Int) + n = 125 := by omega
    rw [e'] at q1
    refine ⟨_, rfl, rfl, _, rfl, ifF (decide_eq_false (fun z => nomatch z)) ?_⟩
    refine ⟨_, rfl, x, CB, dx, _, rfl, h.ob, T.cl, T.n2, bf_len, ?_⟩
    rw [bf_set_phase]
    exact ⟨_, rfl, x, dx, _, rfl, ob1, bf_no (by decide +kernel) (by decide +kernel) (by decide +kernel) (by decide +kernel), _, rfl, _, rfl, x, dx, ia, pl, st, raw, N, 125, most, rfl, opn, rfl, hN, hfit, q1⟩
  · rw [es, if_pos (.inr e)] at q1
    have e' : (124 : Int) + n = 126 := by omega
    rw [e'] at q1
    refine ⟨_, rfl, rfl, _, rfl, ifF (decide_eq_false (fun z => nomatch z)) ?_⟩
    refine ⟨_, rfl, x, CB, dx, _, rfl, h.ob, T.cl, T.n2, bf_len, ?_⟩
    rw [bf_set_phase]
    exact ⟨_, rfl, x, dx, _, rfl, ob1, bf_no (by decide +kernel) (by decide +kernel) (by decide +kernel) (by decide +kernel), _, rfl, _, rfl, x, dx, ia, pl, st, raw, N, 126, most, rfl, opn, rfl, hN, hfit, q1⟩
  · rw [es, if_neg (fun z => z.elim e1 e2)] at q
    refine ⟨_, rfl, rfl, _, rfl, ifT (decide_eq_true rfl) ?_⟩
    exact ⟨_, rfl, x, dx, _, rfl, h.ob, bf_no (by decide +kernel) (by decide +kernel) (by decide +kernel) (by decide +kernel), x, dx, ia, pl, _, st, raw, N, "escape", .escape pl, rfl, h, rfl, q.up (Nat.le_succ _)⟩
theorem scTake : FnScope ["self", "number", "most"] ["self", "number", "most"] (defScope sBelt_take) := ⟨rfl, rfl, rfl, by decide +kernel, rfl, by decide +kernel, by decide +kernel⟩
theorem ok_take {f fB fP fE fI : Addr} {fd fdB fdP fdE fdI : FuncData} (F : Fun K "take" "Belt.take" sBelt_take f fd) (T : TB K mg CB) (c1 : StrC mg "AT_REST" "at rest") (c2 : StrC mg "PASSING_OVER" "passing over") (c4 : StrC mg "BEHIND_ESCAPE" "in a box, behind an escape")
    (e1 : IntC mg "ESCAPE" 125) (e2 : IntC mg "BEGINNING" 126)
    (DB : MDef K CB "begin_box" "Belt.begin_box" sBelt_begin_box ["self"] fB fdB) (GB : FnOk P w K mg base (CXs P w) 3 fB fdB ["self"] (spBegin CB))
    (DP : MDef K CB "pass_over" "Belt.pass_over" sBelt_pass_over ["self", "word"] fP fdP) (GP : FnOk P w K mg base (CXs P w) 2 fP fdP ["self", "word"] (spPass CB))
    (DE : MDef K CB "put_in_escaped" "Belt.put_in_escaped" sBelt_put_in_escaped ["self", "number", "most"] fE fdE) (GE : FnOk P w K mg base (CXs P w) 7 fE fdE ["self", "number", "most"] (spPutE CB))
    (DI : MDef K CB "put_in" "Belt.put_in" sBelt_put_in ["self", "number", "most"] fI fdI) (GI : FnOk P w K mg base (CXs P w) 6 fI fdI ["self", "number", "most"] (spPut CB)) : FnOk P w K mg base (CXs P w) 8 f fd ["self", "number", "most"] (spTake CB) := by
  refine F.okX scTake (fun vs H Q E h => ?_) (fun cdv A outer s H vs Q E hr h => ?_)
  · obtain ⟨x, dx, ia, pl, m, st, raw, N, n, most, rfl, _⟩ := h
    rfl
  obtain ⟨x, dx, ia, pl, m, st, raw, N, n, most, rfl, h, hn, hN, hfit, q⟩ := h
  have hr1 : Room 6 _ := hr.mono (by decide)
  have hr2 : Room 2 _ := hr.mono (by decide)
  have hr3 : Room 3 _ := hr.mono (by decide)
  refine ⟨_, (pss_cons (ps_if (pt_cmpR op_eq (pv 1) (pc e2 rfl) (nomark _))
      (pss_one (ps_ret (pe_meth0 (pv 0) T.cl DB.m GB hr3 DB.b .nil pass_on)))
      pss_nil)
    (pss_cons (ps_if (pt_cmpR op_eq (pe_fld (pv 0) rfl) (pcs c1 rfl) (nomark _))
      (pss_one (ps_ret (pe_meth (pv 0) T.cl DP.m GP hr2 DP.b .nil pass_on (pa_cons (pe_str (x := "stray")) pa_nil))))
      pss_nil)
    (pss_cons (ps_if (pt_cmpR op_eq (pe_fld (pv 0) rfl) (pcs c2 rfl) (nomark _))
      (pss_one (ps_ret (pe_lst pa_nil)))
      pss_nil)
    (pss_cons (ps_if (pt_cmpR op_eq (pe_fld (pv 0) rfl) (pcs c4 rfl) (nomark _))
      (pss_one (ps_ret (pe_meth (pv 0) T.cl DE.m GE hr DE.b .nil pass_on (pa_cons (pv 1) (pa_cons (pv 2) pa_nil)))))
      pss_nil)
    (pss_cons (ps_if (pt_cmpR op_eq (pv 1) (pc e1 rfl) (nomark _))
      (pss_cons (ps_fld (pv 0) (pcs c4 rfl) rfl)
      (pss_one (ps_ret (pe_lst pa_nil))))
      pss_nil)
    (pss_one (ps_ret (pe_meth (pv 0) T.cl DI.m GI hr1 DI.b .nil pass_on (pa_cons (pv 1) (pa_cons (pv 2) pa_nil)))))))))), ?_⟩
  have nxi := h.ne
  refine ⟨_, rfl, rfl, _, rfl, ?_⟩
  by_cases h126 : n = 126
  · refine ifT (decide_eq_true (by rw [h126])) ?_
    have es : step most m pl n = (.opn [] false pl, if isOpn m then [.cut pl] else []) := if_pos h126
    rw [es] at q
    exact ⟨_, rfl, x, dx, _, rfl, h.ob, bf_no (by decide +kernel) (by decide +kernel) (by decide +kernel) (by decide +kernel), x, dx, ia, pl, m, st, raw, N, rfl, h, q.up (Nat.le_succ _)⟩
  refine ifF (decide_eq_false fun z => h126 (V.int.inj z)) ?_
  have es : step most m pl n = stepL most m pl n := if_neg h126
  rw [es] at q
  refine ⟨_, rfl, x, CB, dx, _, _, rfl, h.ob, T.cl, T.n2, bf_phase, rfl, _, rfl, ?_⟩
  rw [ph_rest]
  cases m with
  | rest =>
    refine iteT ?_
    exact ⟨_, rfl, x, dx, _, rfl, h.ob, bf_no (by decide +kernel) (by decide +kernel) (by decide +kernel) (by decide +kernel), x, dx, ia, pl, _, st, raw, N, "stray", .stray pl, rfl, h, rfl, q.up (Nat.le_succ _)⟩
  | skip =>
    refine iteF ?_
    refine ⟨_, rfl, x, CB, dx, _, _, rfl, h.ob, T.cl, T.n2, bf_phase, rfl, _, rfl, ?_⟩
    rw [ph_skip]
    refine iteT ?_
    exact ⟨(by show 0 ≤ sizeLine; decide), fun l hl => q l _ ia st raw ((h.mono (same_new hl _)).up (Nat.le_succ _)) (fun b o _ _ e => same_new hl _ _ _ e) (.inl rfl) (gives_none hl upd_same)⟩
  | opn r e s =>
    obtain ⟨hr0, hs0⟩ := h.op r e s rfl
    subst hr0 hs0
    refine iteF ?_
    refine ⟨_, rfl, x, CB, dx, _, _, rfl, h.ob, T.cl, T.n2, bf_phase, rfl, _, rfl, ?_⟩
    rw [ph_skip]
    refine iteF ?_
    refine ⟨_, rfl, x, CB, dx, _, _, rfl, h.ob, T.cl, T.n2, bf_phase, rfl, _, rfl, ?_⟩
    rw [ph_esc]
    cases e with
    | true =>
      refine iteT ?_
      exact ⟨_, rfl, x, dx, _, rfl, h.ob, bf_no (by decide +kernel) (by decide +kernel) (by decide +kernel) (by decide +kernel), _, rfl, _, rfl, x, dx, ia, pl, st, raw, N, n, most, rfl, h, hn, hN, hfit, q⟩
    | false =>
      refine iteF ?_
      refine ⟨_, rfl, rfl, _, rfl, ?_⟩
      have es2 : stepL most (.opn raw false st) pl n = if n = 125 then (.opn raw true st, []) else more most (raw ++ [n]) st pl := rfl
      rw [es2] at q
      by_cases h125 : n = 125
      · refine ifT (decide_eq_true (by rw [h125])) ?_
        rw [if_pos h125] at q
        refine ⟨_, rfl, x, CB, dx, _, rfl, h.ob, T.cl, T.n2, bf_len, ?_⟩
        rw [bf_set_phase]
        refine ⟨(by show 0 ≤ sizeLine; decide), fun l hl => ?_⟩
        have nlx : l ≠ x := fun z => by rw [z, upd_same] at hl; cases hl
        have hl0 : H l = none := by rw [upd_ne nlx] at hl; exact hl
        have nli : l ≠ ia := ne_isSome h.ls hl0
        refine q l _ ia st raw ⟨?_, ?_, (fun r e s z => by cases z; exact ⟨rfl, rfl⟩), h.gd, Nat.le_trans h.ln (Nat.le_succ _)⟩ (fun b o n1 n2 e => ?_) (.inl rfl) (gives_none hl0 upd_same)
        · rw [upd_ne nlx.symm, upd_same]; rfl
        · rw [upd_ne nli.symm, upd_ne nxi.symm]; exact h.ls
        · rw [upd_ne (ne_of_none e hl0), upd_ne n1]; exact e
      · refine ifF (decide_eq_false fun z => h125 (V.int.inj z)) ?_
        rw [if_neg h125] at q
        exact ⟨_, rfl, x, dx, _, rfl, h.ob, bf_no (by decide +kernel) (by decide +kernel) (by decide +kernel) (by decide +kernel), _, rfl, _, rfl, x, dx, ia, pl, st, raw, N, n, most, rfl, h, hn, hN, hfit, q⟩
end
section
variable {P : Program} {w : World} {K : PySem.W.Frag} {mg : Str → Option Value} {base : Heap} {C1 CB : Addr}
theorem scBegun : FnScope [] [] (defScope s_begun) := ⟨rfl, rfl, rfl, by decide +kernel, rfl, by decide +kernel, by decide +kernel⟩
theorem ok_begun {f fI : Addr} {fd fdI : FuncData} (F : Fun K "begun" "begun" s_begun f fd) (T : TB K mg CB) (c1 : StrC mg "AT_REST" "at rest") (M : Mk K CB fI) (bI : Binds K fdI ["self", "place", "phase", "start", "inside"] [])
    (GI : FnOk P w K mg base (CXs P w) 1 fI fdI ["self", "place", "phase", "start", "inside"] (spInit CB)) : FnOk P w K mg base (CXs P w) 3 f fd [] (spBegun CB) := by
  refine F.okX scBegun (fun vs H Q E h => ?_) (fun cdv A outer s H vs Q E hr h => ?_)
  · obtain ⟨rfl, _⟩ := h
    rfl
  obtain ⟨rfl, q⟩ := h
  refine ⟨_, (pss_one (ps_ret (pe_make M GI hr rfl T.m bI .nil pass_on (pa_cons pe_int (pa_cons (pcs c1 rfl) (pa_cons pe_int (pa_cons (pe_lst pa_nil) pa_nil))))))), ?_⟩
  refine ⟨(by show 0 ≤ sizeLine; decide), fun l hl => ?_⟩
  refine fun y dy ny ndy ney => ⟨y, dy, _, _, _, _, rfl, upd_same, rfl, ?_⟩
  have s1 : Same H (upd H l (.lst [])) := same_new hl _
  have nl : y ≠ l := fun z => by rw [z, upd_same] at ny; cases ny
  have ndl : dy ≠ l := fun z => by rw [z, upd_same] at ndy; cases ndy
  have hy : H y = none := s1.free ny
  have hdy : H dy = none := s1.free ndy
  refine q y _ (same_upd (same_upd (same_upd s1 hdy _) hy _) hy _) hy ⟨dy, l, 0, [], ?_, ?_, (fun _ _ _ z => nomatch z), rfl, Nat.le_refl _⟩
  · rw [nw_get (by simp) hy, upd_same]; rfl
  · rw [nw_get (by simp) hl, upd_ne nl.symm, upd_ne nl.symm, upd_ne ndl.symm, upd_same]; rfl
theorem scEnded : FnScope ["state"] ["state"] (defScope s_ended) := ⟨rfl, rfl, rfl, by decide +kernel, rfl, by decide +kernel, by decide +kernel⟩
theorem ok_ended {f fU : Addr} {fd fdU : FuncData} (F : Fun K "ended" "ended" s_ended f fd) (T : TB K mg CB)
    (DU : MDef K CB "tell_unfinished" "Belt.tell_unfinished" sBelt_tell_unfinished ["self", "word"] fU fdU) (GU : FnOk P w K mg base (CXs P w) 2 fU fdU ["self", "word"] (spTellUnf CB)) : FnOk P w K mg base (CXs P w) 3 f fd ["state"] (spEnded CB) := by
  refine F.okX scEnded (fun vs H Q E h => ?_) (fun cdv A outer s H vs Q E hr h => ?_)
  · obtain ⟨x, pl, m, N, rfl, _⟩ := h
    rfl
  obtain ⟨x, pl, m, N, rfl, ⟨dx, ia, st, raw, h⟩, q⟩ := h
  refine ⟨_, (pss_one (ps_ret (pe_meth (pv 0) T.cl DU.m GU hr DU.b .nil pass_on (pa_cons (pe_str (x := "end")) pa_nil)))), ?_⟩
  exact ⟨_, rfl, x, dx, _, rfl, h.ob, bf_no (by decide +kernel) (by decide +kernel) (by decide +kernel) (by decide +kernel), x, dx, ia, pl, m, st, "end", .fin pl, rfl, h.ob, rfl, fun l H1 s1 g1 => q l H1 s1 g1⟩
/-- how a belt stands while a piece is read -/
structure FedAt (CB : Addr) (H : Hp) (y dy e : Addr) (H2 : Hp) (pl : Int) (m : Sm) (N : Nat) (evs : List Ev) : Prop where
  s : Same H H2
  ny : H y = none
  ne : H e = none
  b : ∃ ia st raw, BeltAt CB H2 y dy ia pl m st raw N ∧ H ia = none ∧ ia ≠ e ∧ ∃ vs, H2 e = some (.lst vs) ∧ All2 (Rep (Nw H [e, y, ia] H2)) vs (evs.map evD)
theorem scFed : FnScope ["state", "piece", "most", "belt", "told", "number"] ["state", "piece", "most"] (defScope s_fed) := ⟨rfl, rfl, rfl, by decide +kernel, rfl, by decide +kernel, by decide +kernel⟩
theorem ok_fed {f fR fT fK : Addr} {fd fdR fdT fdK : FuncData} (F : Fun K "fed" "fed" s_fed f fd) (T : TB K mg CB)
    (DR : Def K mg "refuse_other_numbers" sRefuse ["numbers"] fR fdR) (GR : FnOk P w K mg base (CXs P w) 3 fR fdR ["numbers"] (spRefuse C1))
    (DT : MDef K CB "twin" "Belt.twin" sBelt_twin ["self"] fT fdT) (GT : FnOk P w K mg base (CXs P w) 3 fT fdT ["self"] (spTwin CB))
    (DK : MDef K CB "take" "Belt.take" sBelt_take ["self", "number", "most"] fK fdK) (GK : FnOk P w K mg base (CXs P w) 8 fK fdK ["self", "number", "most"] (spTake CB)) : FnOk P w K mg base (CXs P w) 9 f fd ["state", "piece", "most"] (spFed CB C1) := by
  refine F.okX scFed (fun vs H Q E h => ?_) (fun cdv A outer s H vs Q E hr h => ?_)
  · obtain ⟨x, a, pl, m, N, ns, most, rfl, _⟩ := h
    rfl
  obtain ⟨x, a, pl, m, N, ns, most, rfl, ⟨dx, ia0, st0, raw0, h⟩, ha, hN, hfit, q1, q2⟩ := h
  have hr3 : Room 3 _ := hr.mono (by decide)
  refine ⟨_, (pss_cons (ps_expr (pe_call GR hr3 rfl DR.m DR.F.kp DR.b .nil pass_on (pa_cons (pv 1) pa_nil)))
    (pss_cons (ps_set (i := 3) scFed.nd rfl (Or.inl rfl) (pe_meth0 (pv 0) T.cl DT.m GT hr3 DT.b .nil pass_on))
    (pss_cons (ps_set (i := 4) scFed.nd rfl (Or.inl rfl) (pe_lst pa_nil))
    (pss_cons (ps_for passes_def rfl (pi_list (pv 1)) (pg_name (i := 5) scFed.nd rfl (Or.inl rfl))
      (pss_cons (ps_expr (pe_bm PySem.F.plainAttrs_list PySem.F.slot_list_extend PySem.F.type_list_extend mt_extend (pv 4) (pa_cons (pe_meth (pv 3) T.cl DK.m GK hr DK.b .nil pass_on (pa_cons (pv 5) (pa_cons (pv 2) pa_nil))) pa_nil)))
      (pss_one (ps_fld (pv 3) (pe_op op_add (pe_fld (pv 3) rfl) pe_int) rfl))))
    (pss_one (ps_ret (pe_tup (pa_cons (pv 3) (pa_cons (pv 4) pa_nil))))))))), ?_⟩
  refine ⟨_, rfl, a, ns, rfl, ha, by omega, fun hg H1 s1 => ?_, fun hg H1 s1 => q2 hg H1 s1⟩
  have q1 := q1 hg
  refine ⟨_, rfl, x, dx, _, rfl, s1 _ _ h.ob, bf_no (by decide +kernel) (by decide +kernel) (by decide +kernel) (by decide +kernel), x, dx, ia0, pl, m, st0, raw0, N, rfl, h.mono s1, fun y dy ja H2 s2 ny nja hb => ?_⟩
  refine ⟨(by show 0 ≤ sizeLine; decide), fun e he => ?_⟩
  have s12 := s1.trans s2
  have hy0 : H y = none := s1.free ny
  have hj0 : H ja = none := s1.free nja
  have he0 : H e = none := s12.free he
  have nje : ja ≠ e := fun z => by rw [← z, hb.ls] at he; cases he
  have nye : y ≠ e := fun z => by rw [← z, hb.ob] at he; cases he
  have s3 := same_new he (.lst [])
  have st3 : FedAt CB H y dy e (upd H2 e (.lst [])) (pl + ((0 : Nat) : Int)) (run most m pl (ns.take 0)).1 (N + 0) (run most m pl (ns.take 0)).2 := by
    refine ⟨s12.trans s3, hy0, he0, ja, st0, raw0, ?_, hj0, nje, [], upd_same, .nil⟩
    have ez : pl + ((0 : Nat) : Int) = pl := by omega
    rw [ez]
    exact hb.mono s3
  refine ⟨_, rfl, a, rfl, ⟨_, SqL.of ((s12.trans s3) _ _ ha)⟩, for_list (K := K) (a := a) (xs := ns.map V.int) (fun i σ H4 => ∃ n, σ = [some (.ref x), some (.ref a), some (.int most), some (.ref y), some (.ref e), n] ∧ FedAt CB H y dy e H4 (pl + (i : Int)) (run most m pl (ns.take i)).1 (N + i) (run most m pl (ns.take i)).2) ⟨none, rfl, st3⟩
    (fun i σ H4 _ ⟨_, _, fa⟩ => SqL.of (fa.s _ _ ha)) ?_ ?_⟩
  · rintro i v σ H4 hx ⟨n0, rfl, fa⟩
    obtain ⟨n, hn, rfl⟩ := int_at hx
    have hil : i < ns.length := (List.getElem?_eq_some_iff.mp hn).1
    have ers := run_snoc most (ns.take i) m pl n
    rw [← take_succ hn] at ers
    have el : ((ns.take i).length : Int) = (i : Int) := by rw [List.length_take]; omega
    rw [el] at ers
    obtain ⟨s4, _, _, ia, st, raw, hb4, hia, nie, vs, hev, hv⟩ := fa
    have hfit4 : Fits most (run most m pl (ns.take i)).1 := fits_run _ hfit
    generalize hm4 : (run most m pl (ns.take i)).1 = m4 at hb4 hfit4 ers
    generalize hv4 : (run most m pl (ns.take i)).2 = ev4 at hv ers
    refine ⟨_, rfl, .inl ⟨rfl, _, SqL.of hev⟩, _, rfl, y, dy, _, rfl, hb4.ob, bf_no (by decide +kernel) (by decide +kernel) (by decide +kernel) (by decide +kernel), _, rfl, _, rfl, ?_⟩
    refine ⟨y, dy, ia, pl + (i : Int), m4, st, raw, N + i, n, most, rfl, hb4, good_at hg hn, by omega, hfit4, fun l H5 ib st' raw' hb5 kp5 hib g5 => ?_⟩
    obtain ⟨gl, ws, gw, gv⟩ := g5
    have nye4 : y ≠ e := ne_of hb4.ob hev (fun z => nomatch z)
    have he5 : H5 e = some (.lst vs) := kp5 e _ nye4.symm nie.symm hev
    have nle : l ≠ e := ne_isSome hev gl
    have nbe : ib ≠ e := hib.elim (fun z => by rw [z]; exact nie) (fun z => ne_isSome hev z)
    have hib0 : H ib = none := hib.elim (fun z => by rw [z]; exact hia) (fun z => s4.free z)
    have s5 : Same H H5 := fun b o eb => kp5 b o (ne_of_none eb hy0) (ne_of_none eb hia) (s4 _ _ eb)
    have wl : ws.length ≤ 1 := by
      have e1 := gv.length_eq
      rw [List.length_map] at e1
      rw [e1]
      exact step_len most m4 (pl + (i : Int)) n
    have vl : vs.length ≤ 100000 := by
      have e1 := hv.length_eq
      rw [List.length_map] at e1
      have e2 := run_len most (ns.take i) m pl
      rw [hv4, List.length_take] at e2
      omega
    refine ⟨e, l, vs, ws, rfl, rfl, he5, gw, small' (by omega), ?_⟩
    have hyb : upd H5 e (.lst (vs ++ ws)) y = some (.ins CB dy (bf (pl + (i : Int)) (phOf (step most m4 (pl + (i : Int)) n).1) st' ib)) := by rw [upd_ne nye4]; exact hb5.ob
    refine ⟨_, rfl, y, CB, dy, _, _, rfl, hyb, T.cl, T.n1, bf_place, _, _, rfl, rfl, _, rfl, y, CB, dy, _, rfl, hyb, T.cl, T.n1, bf_len, ?_⟩
    have eset : putF "place" (V.int (pl + (i : Int) + 1)) (bf (pl + (i : Int)) (phOf (step most m4 (pl + (i : Int)) n).1) st' ib) = bf (pl + ((i + 1 : Nat) : Int)) (phOf (step most m4 (pl + (i : Int)) n).1) st' ib := by
      rw [bf_set_place]
      have : pl + (i : Int) + 1 = pl + ((i + 1 : Nat) : Int) := by omega
      rw [this]
    refine ⟨_, rfl, ?_⟩
    rw [ers]
    dsimp only
    have nyb : y ≠ ib := hb5.ne
    refine ⟨same_upd (same_upd s5 he0 _) hy0 _, hy0, he0, ib, st', raw', ⟨?_, ?_, hb5.op, hb5.gd, Nat.le_trans hb5.ln (by omega)⟩, hib0, nbe, vs ++ ws, ?_, ?_⟩
    · rw [upd_same]; exact congrArg (fun z => some (HO.ins CB dy z)) eset
    · rw [upd_ne nyb.symm, upd_ne nbe]; exact hb5.ls
    · rw [upd_ne nye4.symm, upd_same]
    · rw [List.map_append]
      refine All2.append (reps_mono (nw_to fun b o e1 e2 e3 => ?_) hv) (reps_mono (H := Nw H4 [ib] H5) (fun b o e1 => ?_) gv)
      · have nbe' : b ≠ e := fun z => e1 (by rw [z]; simp)
        have nby : b ≠ y := fun z => e1 (by rw [z]; simp)
        have nbi : b ≠ ia := fun z => e1 (by rw [z]; simp)
        have nbb : b ≠ ib := hib.elim (fun z => by rw [z]; exact nbi) (fun z => ne_of_none e3 z)
        refine ⟨?_, e2, ?_⟩
        · intro z
          rcases List.mem_cons.mp z with z | z
          · exact nbe' z
          · rcases List.mem_cons.mp z with z | z
            · exact nby z
            · exact nbb (by simpa using z)
        · rw [upd_ne nby, upd_ne nbe']; exact kp5 b o nby nbi e3
      · obtain ⟨k1, k2, k3⟩ := nw_inv e1
        have nbe' : b ≠ e := ne_isSome hev k2
        have nby : b ≠ y := ne_isSome hb4.ob k2
        have nbb : b ≠ ib := fun z => k1 (by rw [z]; simp)
        rw [nw_get (by
          intro z
          rcases List.mem_cons.mp z with z | z
          · exact nbe' z
          · rcases List.mem_cons.mp z with z | z
            · exact nby z
            · exact nbb (by simpa using z)) (s4.free k2), upd_ne nby, upd_ne nbe']
        exact k3
  · rintro σ H4 ⟨n0, rfl, fa⟩
    rw [List.length_map, List.take_length] at fa
    obtain ⟨s4, _, _, ia, st, raw, hb4, hia, nie, vs, hev, hv⟩ := fa
    refine ⟨_, rfl, _, rfl, (by show 2 ≤ sizeLine; decide), fun r hr0 => ?_⟩
    have s5 := same_new hr0 (.tup [.ref y, .ref e])
    refine q1 r y e _ (s4.trans s5) upd_same ⟨dy, ia, st, raw, ?_, ?_, hb4.op, hb4.gd, hb4.ln⟩ ⟨he0, vs, s5 _ _ hev, ?_⟩
    · rw [nw_get (by simp) hy0]; exact s5 _ _ hb4.ob
    · rw [nw_get (by simp) hia]; exact s5 _ _ hb4.ls
    · exact reps_mono (nw_to fun b o e1 e2 e3 => ⟨by simp, e2, s5 _ _ e3⟩) hv
theorem scToldBy : FnScope ["pieces", "most", "state", "told", "piece", "step"] ["pieces", "most"] (defScope s_told_by) := ⟨rfl, rfl, rfl, by decide +kernel, rfl, by decide +kernel, by decide +kernel⟩
theorem ok_toldBy {f fB fF fE : Addr} {fd fdB fdF fdE : FuncData} (F : Fun K "told_by" "told_by" s_told_by f fd)
    (DB : Def K mg "begun" s_begun [] fB fdB) (GB : FnOk P w K mg base (CXs P w) 3 fB fdB [] (spBegun CB))
    (DF : Def K mg "fed" s_fed ["state", "piece", "most"] fF fdF) (GF : FnOk P w K mg base (CXs P w) 9 fF fdF ["state", "piece", "most"] (spFed CB C1))
    (DE : Def K mg "ended" s_ended ["state"] fE fdE) (GE : FnOk P w K mg base (CXs P w) 3 fE fdE ["state"] (spEnded CB)) : FnOk P w K mg base (CXs P w) 10 f fd ["pieces", "most"] (spToldBy C1) := by
  refine F.okX scToldBy (fun vs H Q E h => ?_) (fun cdv A outer s H vs Q E hr h => ?_)
  · obtain ⟨v, ps, most, rfl, _⟩ := h
    rfl
  obtain ⟨v, ps, most, rfl, hv, hl1, hl2, q1, q2⟩ := h
  have hr3 : Room 3 _ := hr.mono (by decide)
  refine ⟨_, (pss_cons (ps_set (i := 2) scToldBy.nd rfl (Or.inl rfl) (pe_call0 GB hr3 rfl DB.m DB.F.kp DB.b .nil pass_on))
    (pss_cons (ps_set (i := 3) scToldBy.nd rfl (Or.inl rfl) (pe_lst pa_nil))
    (pss_cons (ps_for passes_def rfl (pi_list (pv 0)) (pg_name (i := 4) scToldBy.nd rfl (Or.inl rfl))
      (pss_cons (ps_set (i := 5) scToldBy.nd rfl (Or.inl rfl) (pe_call GF hr rfl DF.m DF.F.kp DF.b .nil pass_on (pa_cons (pv 2) (pa_cons (pv 4) (pa_cons (pv 1) pa_nil)))))
      (pss_cons (ps_set (i := 2) scToldBy.nd rfl (Or.inl rfl) (pe_ix ix_tup (pv 5) pe_int (fun _ _ => rfl)))
      (pss_one (ps_expr (pe_bm PySem.F.plainAttrs_list PySem.F.slot_list_extend PySem.F.type_list_extend mt_extend (pv 3) (pa_cons (pe_ix ix_tup (pv 5) pe_int (fun _ _ => rfl)) pa_nil)))))))
    (pss_cons (ps_expr (pe_bm PySem.F.plainAttrs_list PySem.F.slot_list_extend PySem.F.type_list_extend mt_extend (pv 3) (pa_cons (pe_call GE hr3 rfl DE.m DE.F.kp DE.b .nil pass_on (pa_cons (pv 2) pa_nil)) pa_nil)))
    (pss_one (ps_ret (pv 3))))))), ?_⟩
  obtain ⟨a, pvs, rfl, ha, hpl, hps⟩ := rep_list_inv hv
  rw [List.length_map] at hpl
  refine ⟨rfl, fun y0 H1 s1 ny0 st1 => ?_⟩
  refine ⟨(by show 0 ≤ sizeLine; decide), fun e he => ?_⟩
  have he0 : H e = none := s1.free he
  have s2 := same_new he (.lst [])
  have st2 : StAt CB (Off [e] (upd H1 e (.lst []))) y0 0 .rest 0 := st1.mono fun b o eb => by
    obtain ⟨_, _, k3⟩ := nw_inv eb
    have nbe : b ≠ e := ne_of_none k3 he
    rw [off_get (by simpa using nbe), upd_ne nbe]; exact k3
  refine ⟨_, rfl, a, rfl, ⟨_, SqL.of ((s1.trans s2) _ _ ha)⟩, for_list (K := K) (a := a) (xs := pvs) (fun i σ H4 => ∃ y o4 o5 vs, σ = [some (.ref a), some (.int most), some (.ref y), some (.ref e), o4, o5] ∧ good (ps.take i).flatten = true ∧ EvsAt H e H4 (run most .rest 0 (ps.take i).flatten).2 vs ∧
      StAt CB (Off [e] H4) y (0 + ((ps.take i).flatten.length : Int)) (run most .rest 0 (ps.take i).flatten).1 (0 + (ps.take i).flatten.length)) ⟨y0, none, none, [], rfl, rfl, ⟨s1.trans s2, he0, upd_same, .nil⟩, st2⟩
    (fun i σ H4 _ ⟨_, _, _, _, _, _, ea, _⟩ => SqL.of (ea.s _ _ ha)) ?_ ?_⟩
  · rintro i v σ H4 hx ⟨y, o4, o5, vs, rfl, hg, ea, st⟩
    have hil : i < ps.length := by have := (List.getElem?_eq_some_iff.mp hx).1; omega
    have hpi : ps[i]? = some ps[i] := List.getElem?_eq_getElem hil
    obtain ⟨pa, rfl, hpa⟩ := rep_ints_inv ((hps i v _ hx (by rw [List.getElem?_map, hpi]; rfl)).mono ea.s)
    have etk : (ps.take (i + 1)).flatten = (ps.take i).flatten ++ ps[i] := by rw [take_succ hpi, List.flatten_append]; simp
    have hle : (ps.take (i + 1)).flatten.length ≤ 50000 := by
      have e1 : ps.flatten = (ps.take (i + 1)).flatten ++ (ps.drop (i + 1)).flatten := by rw [← List.flatten_append, List.take_append_drop]
      rw [e1, List.length_append] at hl1
      omega
    rw [etk, List.length_append] at hle
    refine ⟨_, rfl, _, rfl, _, rfl, y, pa, _, _, _, ps[i], most, rfl, st.mono off_sub, hpa, by omega, fits_run _ (by exact True.intro), fun hgi r y' l H5 s5 hr5 st5 g5 => ?_, fun hgi H5 s5 => ?_⟩
    · refine ⟨_, rfl, r, _, _, _, rfl, rfl, SqT.of hr5, rfl, ?_⟩
      obtain ⟨gl, ws, gw, gv⟩ := g5
      have he5 := s5 _ _ ea.a_
      have era := run_append most (ps.take i).flatten ps[i] .rest 0
      rw [← etk] at era
      have wl : ws.length ≤ 100000 := by
        have e1 := gv.length_eq
        rw [List.length_map] at e1
        have e2 := run_len most ps[i] (run most .rest 0 (ps.take i).flatten).1 (0 + ((ps.take i).flatten.length : Int))
        omega
      have vl : vs.length ≤ 100000 := by
        have e1 := ea.len
        have e2 := run_len most (ps.take i).flatten .rest 0
        omega
      refine ⟨_, rfl, .inl ⟨rfl, _, SqL.of he5⟩, _, rfl, r, _, _, _, rfl, rfl, SqT.of hr5, rfl, e, l, vs, ws, rfl, rfl, he5, gw, small' (by omega), ?_⟩
      refine ⟨y', _, _, vs ++ ws, rfl, ?_, ?_, ?_⟩
      · rw [etk]
        unfold good at hg hgi ⊢
        rw [List.all_append, hg, hgi]; rfl
      · rw [era]
        refine ⟨same_upd (ea.s.trans s5) he0 _, he0, upd_same, ?_⟩
        rw [off_upd (by simp), List.map_append]
        refine (reps_mono (off_same s5) ea.v).append (reps_mono (fun b o eb => ?_) gv)
        obtain ⟨_, k2, k3⟩ := nw_inv eb
        have nbe : b ≠ e := ne_isSome ea.a_ k2
        rw [off_get (by simpa using nbe)]; exact k3
      · rw [era, etk, List.length_append]
        have e1 : (0 : Int) + (((ps.take i).flatten.length + ps[i].length : Nat) : Int) = 0 + ((ps.take i).flatten.length : Int) + (ps[i].length : Int) := by omega
        have e2 : 0 + ((ps.take i).flatten.length + ps[i].length) = 0 + (ps.take i).flatten.length + ps[i].length := by omega
        rw [e1, e2]
        refine st5.mono fun b o eb => ?_
        obtain ⟨_, k2, k3⟩ := nw_inv eb
        have nbe : b ≠ e := ne_isSome ea.a_ k2
        rw [off_get (by simpa using nbe), upd_ne nbe]; exact k3
    · refine q2 ?_ H5 (ea.s.trans s5)
      have e1 : ps.flatten = (ps.take (i + 1)).flatten ++ (ps.drop (i + 1)).flatten := by rw [← List.flatten_append, List.take_append_drop]
      rw [e1, etk]
      unfold good at hgi ⊢
      rw [List.all_append, List.all_append, hgi, Bool.and_false, Bool.false_and]
  · rintro σ H4 ⟨y, o4, o5, vs, rfl, hg, ea, st⟩
    rw [hpl, List.take_length] at hg ea st
    have vl : vs.length ≤ 100000 := by
      have e1 := ea.len
      have e2 := run_len most ps.flatten .rest 0
      omega
    refine ⟨_, rfl, .inl ⟨rfl, _, SqL.of ea.a_⟩, _, rfl, y, _, _, _, rfl, st.mono off_sub, fun l H5 s5 g5 => ?_⟩
    obtain ⟨gl, ws, gw, gv⟩ := g5
    have he5 := s5 _ _ ea.a_
    have wl : ws.length ≤ 1 := by
      have e1 := gv.length_eq
      rw [List.length_map] at e1
      rw [e1]
      unfold endOf
      split
      · exact Nat.le_refl _
      · exact Nat.zero_le _
    refine ⟨e, l, vs, ws, rfl, rfl, he5, gw, small' (by omega), _, rfl, ?_⟩
    refine q1 hg (.ref e) _ (same_upd (ea.s.trans s5) he0 _) (rep_lst upd_same ?_)
    unfold told
    rw [List.map_append]
    have ez : (0 : Int) + (ps.flatten.length : Int) = (ps.flatten.length : Int) := by omega
    rw [ez] at gv
    refine (reps_mono (fun b o eb => ?_) ea.v).append (reps_mono (fun b o eb => ?_) gv)
    · have nbe : b ≠ e := fun z => by
        rw [z] at eb
        unfold Off at eb
        rw [if_pos (by simp)] at eb; cases eb
      rw [upd_ne nbe]
      exact s5 _ _ (off_sub b o eb)
    · obtain ⟨_, k2, k3⟩ := nw_inv eb
      have nbe : b ≠ e := ne_isSome ea.a_ k2
      rw [upd_ne nbe]; exact k3
end
section
variable {P : Program} {w : World} {K : PySem.W.Frag} {mg : Str → Option Value} {base : Heap} {CH : Addr}
/-! ### Hands -/
theorem hu_of {k : Nat} {A : Around} (r : Room k A) : A.units + 1 < cLine := by have := r.un; omega
theorem HandsAt.new {CH x dx dd dn nl t : Addr} {H : Hp} {st : Hs} {o : HO} (h : HandsAt CH H x dx dd dn nl st) (ht : H t = none) : Off [dd, dn, nl] (upd H t o) t = some o := by
  obtain ⟨kd, e1, _⟩ := h.du
  obtain ⟨kn, e2, _⟩ := h.nu
  obtain ⟨vs, e3, _⟩ := h.nw
  have m1 := ne_isSome e1 ht
  have m2 := ne_isSome e2 ht
  have m3 := ne_isSome e3 ht
  rw [off_get (by simp only [List.mem_cons, List.not_mem_nil, or_false, not_or]; exact ⟨m1, m2, m3⟩), upd_same]
theorem scHInit : FnScope ["self"] ["self"] (defScope sHands_init) := ⟨rfl, rfl, rfl, by decide +kernel, rfl, by decide +kernel, by decide +kernel⟩
theorem ok_hinit {f : Addr} {fd : FuncData} (F : Fun K "__init__" "Hands.__init__" sHands_init f fd) (T : TH K mg CH) : FnOk P w K mg base (CXs P w) 1 f fd ["self"] (spHInit CH) := by
  refine F.okX scHInit (fun vs H Q E h => ?_) (fun cdv A outer s H vs Q E hr h => ?_)
  · obtain ⟨x, dx, rfl, _⟩ := h
    rfl
  obtain ⟨x, dx, rfl, hx, q⟩ := h
  refine ⟨_, (pss_cons (ps_fld (pv 0) pe_dnewK rfl)
    (pss_cons (ps_fld (pv 0) pe_dnewK rfl)
    (pss_one (ps_fld (pv 0) (pe_lst pa_nil) rfl)))), ?_⟩
  refine fun dd hd => ?_
  have ndx : dd ≠ x := ne_isSome hx hd
  refine ⟨_, rfl, x, CH, dx, [], rfl, same_new hd _ _ _ hx, T.cl, T.n1, few_lt few0 (by decide), ?_⟩
  refine fun dn hn => ?_
  have nnx : dn ≠ x := fun z => by rw [z, upd_same] at hn; cases hn
  have hn1 : upd H dd (.dK []) dn = none := by rw [upd_ne nnx] at hn; exact hn
  have nnd : dn ≠ dd := fun z => by rw [z, upd_same] at hn1; cases hn1
  have hn0 : H dn = none := by rw [upd_ne nnd] at hn1; exact hn1
  refine ⟨_, rfl, x, CH, dx, _, rfl, by rw [upd_ne nnx.symm, upd_same], T.cl, T.n2, few_lt (few few0) (by decide), ?_⟩
  refine ⟨(by show 0 ≤ sizeLine; decide), fun nl hl => ?_⟩
  have nlx : nl ≠ x := fun z => by rw [z, upd_same] at hl; cases hl
  rw [upd_ne nlx] at hl
  have nln : nl ≠ dn := fun z => by rw [z, upd_same] at hl; cases hl
  rw [upd_ne nln, upd_ne nlx] at hl
  have nld : nl ≠ dd := fun z => by rw [z, upd_same] at hl; cases hl
  rw [upd_ne nld] at hl
  refine ⟨_, rfl, x, CH, dx, _, rfl, by rw [upd_ne nlx.symm, upd_same], T.cl, T.n3, few_lt (few (few few0)) (by decide), ?_⟩
  refine q dd dn nl _ hd hn0 hl (fun b o nb e => ?_) ⟨?_, ⟨[], ?_, .nil⟩, ⟨[], ?_, .nil⟩, ⟨[], ?_, .nil⟩, nnd.symm⟩
  · rw [upd_ne nb, upd_ne (ne_of_none e hl), upd_ne nb, upd_ne (ne_of_none e hn0), upd_ne nb, upd_ne (ne_of_none e hd)]; exact e
  · rw [upd_same]; rfl
  · rw [upd_ne ndx, upd_ne nld.symm, upd_ne ndx, upd_ne nnd.symm, upd_ne ndx, upd_same]
  · rw [upd_ne nnx, upd_ne nln.symm, upd_ne nnx, upd_same]
  · rw [upd_ne nlx, upd_same]
theorem scHold : FnScope ["self", "sender", "numbers", "due"] ["self", "sender", "numbers", "due"] (defScope sHands_hold) := ⟨rfl, rfl, rfl, by decide +kernel, rfl, by decide +kernel, by decide +kernel⟩
theorem ok_hold {f : Addr} {fd : FuncData} (F : Fun K "hold" "Hands.hold" sHands_hold f fd) (T : TH K mg CH) : FnOk P w K mg base (CXs P w) 1 f fd ["self", "sender", "numbers", "due"] (spHold CH) := by
  refine F.okX scHold (fun vs H Q E h => ?_) (fun cdv A outer s H vs Q E hr h => ?_)
  · obtain ⟨x, dx, dd, dn, nl, a, st, k, d, ns, rfl, _⟩ := h
    rfl
  obtain ⟨x, dx, dd, dn, nl, a, st, k, d, ns, rfl, h, hl, ha, q⟩ := h
  have hu := hu_of hr
  refine ⟨_, (pss_cons (ps_dput hu (pe_fld (pv 0) rfl) (pv 1) (pv 2) rfl)
    (pss_one (ps_dput hu (pe_fld (pv 0) rfl) (pv 1) (pv 3) rfl))), ?_⟩
  obtain ⟨kd, e1, d1⟩ := h.du
  obtain ⟨kn, e2, d2⟩ := h.nu
  refine ⟨_, rfl, _, rfl, x, CH, dx, _, _, rfl, h.ob, T.cl, T.n2, hf_num, _, rfl, dn, _, rfl, DPut.k (k := Sum.inl k) e2 (by rw [d2.len]; exact small (by omega)), ?_⟩
  refine ⟨_, rfl, _, rfl, x, CH, dx, _, _, rfl, by rw [upd_ne h.n3.2.1]; exact h.ob, T.cl, T.n1, hf_due, _, rfl, dd, _, rfl, DPut.k (k := Sum.inl k) (by rw [upd_ne h.ne]; exact e1) (by rw [d1.len]; exact small (by omega)), ?_⟩
  exact q _ ((fr_upd (by simp)).trans (fr_upd (by simp))) (h.hold e1 d1 e2 d2 ha)
theorem scLetGo : FnScope ["self", "sender"] ["self", "sender"] (defScope sHands_let_go) := ⟨rfl, rfl, rfl, by decide +kernel, rfl, by decide +kernel, by decide +kernel⟩
theorem ok_letGo {f : Addr} {fd : FuncData} (F : Fun K "let_go" "Hands.let_go" sHands_let_go f fd) (T : TH K mg CH) : FnOk P w K mg base (CXs P w) 1 f fd ["self", "sender"] (spLetGo CH) := by
  refine F.okX scLetGo (fun vs H Q E h => ?_) (fun cdv A outer s H vs Q E hr h => ?_)
  · obtain ⟨x, dx, dd, dn, nl, st, k, rfl, _⟩ := h
    rfl
  obtain ⟨x, dx, dd, dn, nl, st, k, rfl, h, hk, q⟩ := h
  refine ⟨_, (pss_cons (ps_expr (pe_dpop1 (pe_fld (pv 0) rfl) (pv 1) ⟨rfl, rfl, rfl, rfl⟩))
    (pss_one (ps_ret (pe_dpop1 (pe_fld (pv 0) rfl) (pv 1) ⟨rfl, rfl, rfl, rfl⟩)))), ?_⟩
  obtain ⟨kd, e1, d1⟩ := h.du
  obtain ⟨kn, e2, d2⟩ := h.nu
  obtain ⟨v1, g1, _⟩ := d1.some hk
  obtain ⟨v2, g2, a, rfl, ha⟩ := d2.some hk
  have e2' : upd H dd (.dK (dropK kd (Sum.inl k))) dn = some (.dK kn) := by rw [upd_ne h.ne.symm]; exact e2
  refine ⟨_, rfl, x, CH, dx, _, _, rfl, h.ob, T.cl, T.n1, hf_due, dd, rfl, .inl ⟨kd, .inl e1⟩, _, rfl, kd, Sum.inl k, v1, e1, rfl, g1, ?_⟩
  refine ⟨_, rfl, x, CH, dx, _, _, rfl, by rw [upd_ne h.n3.1]; exact h.ob, T.cl, T.n2, hf_num, dn, rfl, .inl ⟨kn, .inl e2'⟩, _, rfl, kn, Sum.inl k, .ref a, e2', rfl, g2, ?_⟩
  exact q a ha _ ((fr_upd (by simp)).trans (fr_upd (by simp))) (h.drop e1 d1 e2 d2)
theorem scLose : FnScope ["self", "sender", "start"] ["self", "sender", "start"] (defScope sHands_lose) := ⟨rfl, rfl, rfl, by decide +kernel, rfl, by decide +kernel, by decide +kernel⟩
theorem ok_lose {f fL : Addr} {fd dL : FuncData} (F : Fun K "lose" "Hands.lose" sHands_lose f fd) (T : TH K mg CH)
    (DL : MDef K CH "let_go" "Hands.let_go" sHands_let_go ["self", "sender"] fL dL) (GL : FnOk P w K mg base (CXs P w) 1 fL dL ["self", "sender"] (spLetGo CH)) : FnOk P w K mg base (CXs P w) 2 f fd ["self", "sender", "start"] (spLose CH) := by
  refine F.okX scLose (fun vs H Q E h => ?_) (fun cdv A outer s H vs Q E hr h => ?_)
  · obtain ⟨x, dx, dd, dn, nl, st, k, p, rfl, _⟩ := h
    rfl
  obtain ⟨x, dx, dd, dn, nl, st, k, p, rfl, h, hl, q⟩ := h
  have hu := hu_of hr
  refine ⟨_, (pss_one (ps_if (pt_cmp (pc_din hu (pv 1) (pe_fld (pv 0) rfl)))
      (pss_cons (ps_expr (pe_meth (pv 0) T.cl DL.m GL hr DL.b .nil pass_on (pa_cons (pv 1) pa_nil)))
      (pss_one (ps_expr (pe_bm PySem.F.plainAttrs_list PySem.F.slot_list_append PySem.F.type_list_append mt_append (pe_fld (pv 0) rfl) (pa_cons (pe_tup (pa_cons (pe_str (x := "lost")) (pa_cons (pv 1) (pa_cons (pv 2) pa_nil)))) pa_nil)))))
      pss_nil)), ?_⟩
  obtain ⟨kd, e1, d1⟩ := h.du
  refine ⟨_, rfl, _, rfl, x, CH, dx, _, _, rfl, h.ob, T.cl, T.n1, hf_due, dd, _, rfl, DGet.k (k := Sum.inl k) e1, _, rfl, ?_⟩
  unfold Hs.lose at q
  by_cases hk : k ∈ st.ks
  · rw [if_pos hk] at q
    obtain ⟨v1, g1, _⟩ := d1.some hk
    rw [g1]
    refine ifT rfl ?_
    refine ⟨_, rfl, x, dx, _, rfl, h.ob, hf_no (by decide +kernel) (by decide +kernel) (by decide +kernel), _, rfl, x, dx, dd, dn, nl, st, k, rfl, h, hk, fun a ha H1 f1 h1 => ?_⟩
    obtain ⟨vs, e3, d3⟩ := h1.nw
    refine ⟨_, rfl, x, CH, dx, _, _, rfl, h1.ob, T.cl, T.n3, hf_news, .inl ⟨rfl, _, SqL.of e3⟩, _, rfl, _, rfl, (by show 3 ≤ sizeLine; decide), fun t ht => ?_⟩
    have s2 := same_new ht (.tup [.str "lost", .int k, .int p])
    have h2 := h1.mono s2
    have d3' := reps_mono (off_same (es := [dd, dn, nl]) s2) d3
    refine ⟨nl, _, _, rfl, rfl, s2 _ _ e3, (by rw [HandsAt.news_len d3]; exact small (by show st.news.length ≤ _; omega)), ?_⟩
    refine q _ ((f1.trans (fr_new s2)).trans (fr_upd (by simp))) (h2.tell (s2 _ _ e3) d3' ?_)
    exact rep_tup (h1.new ht) (.cons (.str _) (.cons (.int _) (.cons (.int _) .nil)))
  · rw [if_neg hk] at q
    rw [d1.none hk]
    exact ifF rfl (q H (Same.refl _) h)
theorem scKeep : FnScope ["self", "sender", "numbers", "start"] ["self", "sender", "numbers", "start"] (defScope sHands_keep) := ⟨rfl, rfl, rfl, by decide +kernel, rfl, by decide +kernel, by decide +kernel⟩
theorem cut_tail {c : Int} {r : List Int} : cutV ((c :: r).map V.int) (some 1) none = r.map V.int := by
  rw [cutV_ints]
  have e : cutI (c :: r) (some ((1 : Nat) : Int)) none = r := cut_from
  exact congrArg (List.map V.int) e
theorem at_head {c : Int} {r : List Int} : atI ((c :: r).map V.int) 0 = some (V.int c) := atI_nat (j := 0) rfl
theorem ok_keep {f fH fO : Addr} {fd dH dO : FuncData} (F : Fun K "keep" "Hands.keep" sHands_keep f fd) (T : TH K mg CH)
    (DH : MDef K CH "hold" "Hands.hold" sHands_hold ["self", "sender", "numbers", "due"] fH dH) (GH : FnOk P w K mg base (CXs P w) 1 fH dH ["self", "sender", "numbers", "due"] (spHold CH))
    (DO : MDef K CH "lose" "Hands.lose" sHands_lose ["self", "sender", "start"] fO dO) (GO : FnOk P w K mg base (CXs P w) 2 fO dO ["self", "sender", "start"] (spLose CH)) : FnOk P w K mg base (CXs P w) 3 f fd ["self", "sender", "numbers", "start"] (spKeep CH) := by
  refine F.okX scKeep (fun vs H Q E h => ?_) (fun cdv A outer s H vs Q E hr h => ?_)
  · obtain ⟨x, dx, dd, dn, nl, a, st, k, p, ns, W, M, rfl, _⟩ := h
    rfl
  obtain ⟨x, dx, dd, dn, nl, a, st, k, p, ns, W, M, rfl, h, ok, hW, hM, ha, q⟩ := h
  have hu := hu_of hr
  have hr1 : Room 1 _ := hr.mono (by decide)
  have ha' : H a = some (.lst (ns.map V.int)) := off_sub _ _ ha
  refine ⟨_, (pss_cons (ps_if (PW.pt (pw_and (pt_truth (pv 2) (fun _ => rfl)) (pw_and1 (pt_cmpR op_eq (pe_ix ix_list (pv 2) pe_int (fun _ _ => rfl)) (pe_dget1 hu (pe_fld (pv 0) rfl) (pv 1) ⟨rfl, rfl, rfl, rfl⟩) (nomark _)))))
      (pss_cons (ps_expr (pe_meth (pv 0) T.cl DH.m GH hr1 DH.b .nil pass_on (pa_cons (pv 1) (pa_cons (pe_op op_cat (pe_dget hu (pe_fld (pv 0) rfl) (pv 1) (fun _ _ => rfl)) (pe_slice sl_list (pv 2) (po_some pe_int) po_none)) (pa_cons (pe_op op_add (pe_ix ix_list (pv 2) pe_int (fun _ _ => rfl)) pe_int) pa_nil)))))
      (pss_one (ps_ret pe_bl)))
      pss_nil)
    (pss_cons (ps_expr (pe_meth (pv 0) T.cl DO.m GO hr DO.b .nil pass_on (pa_cons (pv 1) (pa_cons (pv 3) pa_nil))))
    (pss_cons (ps_if (PW.pt (pw_and (pt_truth (pv 2) (fun _ => rfl)) (pw_and1 (pt_cmpR op_eq (pe_ix ix_list (pv 2) pe_int (fun _ _ => rfl)) pe_int (nomark _)))))
      (pss_cons (ps_expr (pe_meth (pv 0) T.cl DH.m GH hr1 DH.b .nil pass_on (pa_cons (pv 1) (pa_cons (pe_slice sl_list (pv 2) (po_some pe_int) po_none) (pa_cons pe_int pa_nil)))))
      (pss_one (ps_ret pe_bl)))
      pss_nil)
    (pss_one (ps_ret pe_bl))))), ?_⟩
  refine seq_by (t := tIfS _ _ _) (fun σ H2 => σ = [some (.ref x), some (.int k), some (.ref a), some (.int p)] ∧ H2 = H ∧ ¬ (k ∈ st.ks ∧ ns.head? = some (st.f k).1)) ?_ ?_
  rotate_left
  · intro nx hnx
    refine ⟨_, rfl, _, .inl ⟨_, SqL.of ha', rfl⟩, ?_⟩
    cases ns with
    | nil => exact ifF rfl (ifF rfl (hnx _ _ ⟨rfl, rfl, by rintro ⟨_, z⟩; cases z⟩))
    | cons c r =>
      refine ifT rfl ?_
      obtain ⟨kd, e1, d1⟩ := h.du
      obtain ⟨kn, e2, d2⟩ := h.nu
      refine ⟨_, rfl, a, _, _, _, rfl, rfl, SqL.of ha', at_head, _, rfl, x, CH, dx, _, _, rfl, h.ob, T.cl, T.n1, hf_due, dd, rfl, .inl ⟨kd, .inl e1⟩, _, rfl, _, DGet.k (k := Sum.inl k) e1, ?_⟩
      by_cases hk : k ∈ st.ks
      rotate_left
      · rw [d1.none hk]
        exact ⟨rfl, _, rfl, ifF (decide_eq_false (fun z => by cases z)) (hnx _ _ ⟨rfl, rfl, fun z => hk z.1⟩)⟩
      obtain ⟨v1, g1, ev⟩ := d1.some hk
      subst ev
      rw [g1]
      refine ⟨rfl, _, rfl, ?_⟩
      by_cases hc : c = (st.f k).1
      rotate_left
      · exact ifF (decide_eq_false (fun z => hc (V.int.inj z))) (hnx _ _ ⟨rfl, rfl, fun z => hc (Option.some.inj z.2)⟩)
      refine ifT (decide_eq_true (congrArg V.int hc)) ?_
      obtain ⟨v2, g2, b, rfl, hb⟩ := d2.some hk
      have hb' : H b = some (.lst ((st.f k).2.map V.int)) := off_sub _ _ hb
      have g2' : DGet H dn (V.int k) (some (.ref b)) := by rw [← g2]; exact DGet.k (k := Sum.inl k) e2
      refine ⟨_, rfl, x, dx, _, rfl, h.ob, hf_no (by decide +kernel) (by decide +kernel) (by decide +kernel), _, rfl, _, rfl, x, CH, dx, _, _, rfl, h.ob, T.cl, T.n2, hf_num, _, rfl, dn, _, rfl, g2', _, rfl, _, rfl, a, _, rfl, SqL.of ha', fun p1 hp1 => ?_⟩
      rw [cut_tail]
      have s1 := same_new hp1 (.lst (r.map V.int))
      have hW' := ok.c k hk
      have hWn : W + (r.length + 1) ≤ 90000 := hW
      refine ⟨b, p1, _, _, rfl, rfl, s1 _ _ hb', upd_same, by rw [List.length_map, List.length_map]; exact small' (by omega), fun p2 hp2 => ?_⟩
      have s2 := same_new hp2 (.lst ((st.f k).2.map V.int ++ r.map V.int))
      have s12 := s1.trans s2
      have h2 := h.mono s12
      refine ⟨_, rfl, a, _, _, _, rfl, rfl, SqL.of (s12 _ _ ha'), at_head, _, _, rfl, rfl, ?_⟩
      have hks := ok.a
      refine ⟨x, dx, dd, dn, nl, p2, st, k, _, (st.f k).2 ++ r, rfl, h2, by omega, ?_, fun H3 f3 h3 => ?_⟩
      · rw [(h.mono s1).new hp2, List.map_append]
      have ek : st.keep k (c :: r) p = (st.hold k ((st.f k).2 ++ r) ((st.f k).1 + 1), true) := if_pos ⟨hk, congrArg some hc⟩
      rw [ek] at q
      rw [hc] at h3
      exact q H3 ((fr_new s12).trans f3) h3
  rintro σ2 H2 ⟨rfl, rfl, hno⟩
  have hks := ok.a
  have hne := ok.b
  refine ⟨_, rfl, x, dx, _, rfl, h.ob, hf_no (by decide +kernel) (by decide +kernel) (by decide +kernel), _, rfl, _, rfl, x, dx, dd, dn, nl, st, k, p, rfl, h, by omega, fun H1 f1 h1 => ?_⟩
  have ha1 : Off [dd, dn, nl] H1 a = some (.lst (ns.map V.int)) := f1 _ _ ha
  have ha1' : H1 a = some (.lst (ns.map V.int)) := off_sub _ _ ha1
  refine ⟨_, rfl, _, .inl ⟨_, SqL.of ha1', rfl⟩, ?_⟩
  unfold Hs.keep at q
  rw [if_neg hno] at q
  cases ns with
  | nil => exact ifF rfl (ifF rfl (q H1 f1 h1))
  | cons c r =>
    refine ifT rfl ?_
    refine ⟨_, rfl, a, _, _, _, rfl, rfl, SqL.of ha1', at_head, rfl, _, rfl, ?_⟩
    by_cases hc : c = 0
    rotate_left
    · rw [if_neg (c := (c :: r).head? = some 0) (fun z => hc (Option.some.inj z))] at q
      exact ifF (decide_eq_false (fun z => hc (V.int.inj z))) (q H1 f1 h1)
    rw [if_pos (c := (c :: r).head? = some 0) (congrArg some hc)] at q
    refine ifT (decide_eq_true (congrArg V.int hc)) ?_
    refine ⟨_, rfl, x, dx, _, rfl, h1.ob, hf_no (by decide +kernel) (by decide +kernel) (by decide +kernel), _, rfl, _, rfl, _, rfl, a, _, rfl, SqL.of ha1', fun p1 hp1 => ?_⟩
    rw [cut_tail]
    have s1 := same_new hp1 (.lst (r.map V.int))
    have h2 := h1.mono s1
    have okl : HsOk (st.lose k p) W (M + 1) := ok.lose
    have hka := okl.a
    refine ⟨x, dx, dd, dn, nl, p1, st.lose k p, k, 1, r, rfl, h2, by omega, h1.new hp1, fun H3 f3 h3 => ?_⟩
    exact q H3 ((f1.trans (fr_new s1)).trans f3) h3
theorem scHTake : FnScope ["self", "label", "numbers", "start", "place", "sender", "kept"] ["self", "label", "numbers", "start", "place"] (defScope sHands_take) := ⟨rfl, rfl, rfl, by decide +kernel, rfl, by decide +kernel, by decide +kernel⟩
theorem ok_htake {f fK fL : Addr} {fd dK dL : FuncData} (F : Fun K "take" "Hands.take" sHands_take f fd) (T : TH K mg CH)
    (DK : MDef K CH "keep" "Hands.keep" sHands_keep ["self", "sender", "numbers", "start"] fK dK) (GK : FnOk P w K mg base (CXs P w) 3 fK dK ["self", "sender", "numbers", "start"] (spKeep CH))
    (DL : MDef K CH "let_go" "Hands.let_go" sHands_let_go ["self", "sender"] fL dL) (GL : FnOk P w K mg base (CXs P w) 1 fL dL ["self", "sender"] (spLetGo CH)) : FnOk P w K mg base (CXs P w) 4 f fd ["self", "label", "numbers", "start", "place"] (spHTake CH) := by
  refine F.okX scHTake (fun vs H Q E h => ?_) (fun cdv A outer s H vs Q E hr h => ?_)
  · obtain ⟨x, dx, dd, dn, nl, a, st, l, s, p, ns, W, M, rfl, _⟩ := h
    rfl
  obtain ⟨x, dx, dd, dn, nl, a, st, l, s', p, ns, W, M, rfl, h, ok, hW, hM, ha, q⟩ := h
  have hr1 : Room 1 _ := hr.mono (by decide)
  refine ⟨_, (pss_cons (ps_set (i := 5) scHTake.nd rfl (Or.inl rfl) (pe_op op_fdiv (pv 1) pe_int))
    (pss_cons (ps_set (i := 6) scHTake.nd rfl (Or.inl rfl) (pe_meth (pv 0) T.cl DK.m GK hr DK.b .nil pass_on (pa_cons (pv 5) (pa_cons (pv 2) (pa_cons (pv 3) pa_nil)))))
    (pss_one (ps_if (PW.pt (pw_and (pt_val (pv 6)) (pw_and1 (pt_cmpR op_eq (pe_op op_mod (pv 1) pe_int) pe_int (nomark _)))))
      (pss_one (ps_expr (pe_bm PySem.F.plainAttrs_list PySem.F.slot_list_append PySem.F.type_list_append mt_append (pe_fld (pv 0) rfl) (pa_cons (pe_tup (pa_cons (pe_str (x := "parcel")) (pa_cons (pv 5) (pa_cons (pe_meth (pv 0) T.cl DL.m GL hr1 DL.b .nil pass_on (pa_cons (pv 5) pa_nil)) (pa_cons (pv 4) pa_nil))))) pa_nil))))
      pss_nil)))), ?_⟩
  refine ⟨_, rfl, _, _, rfl, rfl, ⟨by decide, by decide⟩, ?_⟩
  refine ⟨_, rfl, x, dx, _, rfl, h.ob, hf_no (by decide +kernel) (by decide +kernel) (by decide +kernel), _, rfl, _, rfl, _, rfl, x, dx, dd, dn, nl, a, st, l / 2, s', ns, W, M, rfl, h, ok, hW, hM, ha, fun H1 f1 h1 => ?_⟩
  have okk : HsOk (st.keep (l / 2) ns s').1 (W + ns.length + 1) (M + 1) := ok.keep
  have hmem : (st.keep (l / 2) ns s').2 = true → l / 2 ∈ (st.keep (l / 2) ns s').1.ks := Hs.keep_mem
  unfold Hs.take at q
  generalize st.keep (l / 2) ns s' = kp at q h1 okk hmem
  obtain ⟨st1, b⟩ := kp
  refine ⟨_, rfl, _, rfl, ?_⟩
  cases b with
  | false =>
    rw [if_neg (fun z => by cases z.1)] at q
    exact ifF rfl (ifF rfl (q H1 f1 h1))
  | true =>
    refine ifT rfl ?_
    refine ⟨_, rfl, _, _, rfl, rfl, (by show (0 : Int) < 2; decide), rfl, _, rfl, ?_⟩
    by_cases hl : l % 2 = 1
    rotate_left
    · rw [if_neg (fun z => hl z.2)] at q
      exact ifF (decide_eq_false (fun z => hl (V.int.inj z))) (q H1 f1 h1)
    rw [if_pos ⟨rfl, hl⟩] at q
    refine ifT (decide_eq_true (congrArg V.int hl)) ?_
    obtain ⟨vs, e3, d3⟩ := h1.nw
    refine ⟨_, rfl, x, CH, dx, _, _, rfl, h1.ob, T.cl, T.n3, hf_news, .inl ⟨rfl, _, SqL.of e3⟩, _, rfl, ?_⟩
    refine ⟨_, rfl, x, dx, _, rfl, h1.ob, hf_no (by decide +kernel) (by decide +kernel) (by decide +kernel), _, rfl, x, dx, dd, dn, nl, st1, l / 2, rfl, h1, hmem rfl, fun b hb H2 f2 h2 => ?_⟩
    refine ⟨_, rfl, (by show 4 ≤ sizeLine; decide), fun t ht => ?_⟩
    obtain ⟨vs2, e4, d4⟩ := h2.nw
    have s2 := same_new ht (.tup [.str "parcel", .int (l / 2), .ref b, .int p])
    have h3 := h2.mono s2
    have d4' := reps_mono (off_same (es := [dd, dn, nl]) s2) d4
    have hb2 := (f2.trans (fr_new (dd := dd) (dn := dn) (nl := nl) s2)) _ _ hb
    have hnl := okk.b
    refine ⟨nl, _, _, rfl, rfl, s2 _ _ e4, (by rw [HandsAt.news_len d4]; exact small (by show st1.news.length ≤ _; simp only at hnl; omega)), ?_⟩
    refine q _ (((f1.trans f2).trans (fr_new s2)).trans (fr_upd (by simp))) (h3.tell (s2 _ _ e4) d4' ?_)
    exact rep_tup (h2.new ht) (.cons (.str _) (.cons (.int _) (.cons (rep_ints hb2) (.cons (.int _) .nil))))
end
section
variable {P : Program} {w : World} {K : PySem.W.Frag} {mg : Str → Option Value} {base : Heap} {CH : Addr}
theorem len3 {α : Type} {vs : List α} (h : vs.length = 3) : ∃ a b c, vs = [a, b, c] := by
  cases vs with
  | nil => cases h
  | cons a r =>
    obtain ⟨b, c, rfl⟩ := len2 (vs := r) (by simpa using h)
    exact ⟨a, b, c, rfl⟩
theorem len5 {α : Type} {vs : List α} (h : vs.length = 5) : ∃ a b c d e, vs = [a, b, c, d, e] := by
  cases vs with
  | nil => cases h
  | cons a r =>
    cases r with
    | nil => cases h
    | cons b r =>
      obtain ⟨c, d, e, rfl⟩ := len3 (vs := r) (by simpa using h)
      exact ⟨a, b, c, d, e, rfl⟩
theorem rep_evbox_inv {H : Hp} {v : V} {l s p : Int} {ns : List Int} (r : Rep H v (evD (.box l ns s p))) : ∃ t a, v = .ref t ∧ H t = some (.tup [.str "box", .int l, .ref a, .int s, .int p]) ∧ H a = some (.lst (ns.map V.int)) := by
  obtain ⟨t, vs, rfl, h, hl, hs⟩ := rep_tup_inv r
  obtain ⟨v0, v1, v2, v3, v4, rfl⟩ := len5 hl
  have e0 := rep_str_inv (hs 0 v0 _ rfl rfl)
  have e1 := rep_int_inv (hs 1 v1 _ rfl rfl)
  obtain ⟨a, e2, ha⟩ := rep_ints_inv (hs 2 v2 _ rfl rfl)
  have e3 := rep_int_inv (hs 3 v3 _ rfl rfl)
  have e4 := rep_int_inv (hs 4 v4 _ rfl rfl)
  subst e0 e1 e2 e3 e4
  exact ⟨t, a, rfl, h, ha⟩
theorem rep_flt_inv {H : Hp} {v : V} {x y : Str} {p : Int} (r : Rep H v (.tup [.str x, .str y, .int p])) : ∃ t, v = .ref t ∧ H t = some (.tup [.str x, .str y, .int p]) := by
  obtain ⟨t, vs, rfl, h, hl, hs⟩ := rep_tup_inv r
  obtain ⟨v0, v1, v2, rfl⟩ := len3 hl
  have e0 := rep_str_inv (hs 0 v0 _ rfl rfl)
  have e1 := rep_str_inv (hs 1 v1 _ rfl rfl)
  have e2 := rep_int_inv (hs 2 v2 _ rfl rfl)
  subst e0 e1 e2
  exact ⟨t, rfl, h⟩
theorem ev_cases (e : Ev) : (∃ l ns s p, e = .box l ns s p) ∨ ∃ (wd : Str) (p : Int), evD e = .tup [.str "fault", .str wd, .int p] ∧ fltD e = [.tup [.str wd, .int p]] ∧ (∀ st : Hs, st.ev e = st) ∧ bxW e = 0 := by
  cases e with
  | box l ns s p => exact .inl ⟨l, ns, s, p, rfl⟩
  | stray p => exact .inr ⟨"stray", p, rfl, rfl, fun _ => rfl, rfl⟩
  | escape p => exact .inr ⟨"escape", p, rfl, rfl, fun _ => rfl, rfl⟩
  | great p => exact .inr ⟨"great", p, rfl, rfl, fun _ => rfl, rfl⟩
  | check p => exact .inr ⟨"check", p, rfl, rfl, fun _ => rfl, rfl⟩
  | cut p => exact .inr ⟨"cut", p, rfl, rfl, fun _ => rfl, rfl⟩
  | fin p => exact .inr ⟨"end", p, rfl, rfl, fun _ => rfl, rfl⟩
theorem take_next {es : List Ev} {i : Nat} {e : Ev} (h : es[i]? = some e) : es.take (i + 1) = es.take i ++ [e] := by
  rw [List.take_add_one, h]; rfl
theorem bxWs_take (es : List Ev) (i : Nat) : bxWs (es.take i) ≤ bxWs es := by
  have h := bxWs_append (es.take i) (es.drop i)
  rw [List.take_append_drop] at h
  omega
theorem run_ok (es : List Ev) (i : Nat) : HsOk (Hs.nil.run (es.take i)) (0 + bxWs (es.take i)) (0 + 2 * (es.take i).length) := HsOk.run _ HsOk.nil
theorem scBehind : FnScope ["told", "hands", "one"] ["told"] (defScope s_hands_behind) := ⟨rfl, rfl, rfl, by decide +kernel, rfl, by decide +kernel, by decide +kernel⟩
theorem ok_behind {f fI fT : Addr} {fd dI dT : FuncData} (F : Fun K "hands_behind" "hands_behind" s_hands_behind f fd) (T : TH K mg CH) (M : Mk K CH fI) (bI : Binds K dI ["self"] []) (GI : FnOk P w K mg base (CXs P w) 1 fI dI ["self"] (spHInit CH))
    (DT : MDef K CH "take" "Hands.take" sHands_take ["self", "label", "numbers", "start", "place"] fT dT) (GT : FnOk P w K mg base (CXs P w) 4 fT dT ["self", "label", "numbers", "start", "place"] (spHTake CH)) : FnOk P w K mg base (CXs P w) 5 f fd ["told"] (spBehind CH) := by
  refine F.okX scBehind (fun vs H Q E h => ?_) (fun cdv A outer s H vs Q E hr h => ?_)
  · obtain ⟨v, es, rfl, _⟩ := h
    rfl
  obtain ⟨v, es, rfl, hv, hW, hL, q⟩ := h
  have hr2 : Room 2 _ := hr.mono (by decide)
  refine ⟨_, (pss_cons (ps_set (i := 1) scBehind.nd rfl (Or.inl rfl) (pe_make0 M GI hr2 rfl T.m bI .nil pass_on))
    (pss_cons (ps_for passes_def rfl (pi_list (pv 0)) (pg_name (i := 2) scBehind.nd rfl (Or.inl rfl))
      (pss_one (ps_if (pt_cmpR op_eq (pe_ix ix_tup (pv 2) pe_int (fun _ _ => rfl)) (pe_str (x := "box")) (nomark _))
        (pss_one (ps_expr (pe_meth (pv 1) T.cl DT.m GT hr DT.b .nil pass_on (pa_cons (pe_ix ix_tup (pv 2) pe_int (fun _ _ => rfl)) (pa_cons (pe_ix ix_tup (pv 2) pe_int (fun _ _ => rfl)) (pa_cons (pe_ix ix_tup (pv 2) pe_int (fun _ _ => rfl)) (pa_cons (pe_ix ix_tup (pv 2) pe_int (fun _ _ => rfl)) pa_nil)))))))
        pss_nil)))
    (pss_one (ps_ret (pv 1))))), ?_⟩
  obtain ⟨a, vs, rfl, ha, hl, hs⟩ := rep_list_inv hv
  rw [List.length_map] at hl
  refine fun x dx hx hdx hne => ⟨x, dx, rfl, upd_same, fun dd dn nl H1 hd hn hnl kp h1 => ⟨rfl, ?_⟩⟩
  have s01 : Same H (upd (upd H dx (.own x)) x (.ins CH dx [])) := (same_new hdx _).trans (same_new (by rw [upd_ne hne.symm]; exact hx) _)
  have hd0 := s01.free hd
  have hn0 := s01.free hn
  have hl0 := s01.free hnl
  have sB : Same H (Off [dd, dn, nl] H1) := fun b o e => by
    rw [off_get (by simp only [List.mem_cons, List.not_mem_nil, or_false, not_or]; exact ⟨ne_of_none e hd0, ne_of_none e hn0, ne_of_none e hl0⟩)]
    exact kp b o (ne_of_none e hx) (s01 _ _ e)
  refine ⟨_, rfl, a, rfl, ⟨_, SqL.of (off_sub _ _ (sB _ _ ha))⟩, for_list (K := K) (a := a) (xs := vs) (fun i σ H2 => ∃ o, σ = [some (.ref a), some (.ref x), o] ∧ Same H (Off [dd, dn, nl] H2) ∧ HandsAt CH H2 x dx dd dn nl (Hs.nil.run (es.take i)))
    ⟨none, rfl, sB, h1⟩ (fun i σ H2 _ ⟨_, _, s2, _⟩ => SqL.of (off_sub _ _ (s2 _ _ ha))) ?_ ?_⟩
  · rintro i v σ H2 hi ⟨o, rfl, s2, h2⟩
    have hil : i < es.length := by rw [← hl]; exact (List.getElem?_eq_some_iff.mp hi).1
    obtain ⟨e, he⟩ : ∃ e, es[i]? = some e := ⟨_, List.getElem?_eq_getElem hil⟩
    have hre := hs i v (evD e) hi (by rw [List.getElem?_map, he]; rfl)
    have et := take_next he
    have hok := run_ok es i
    have hbw := bxWs_take es (i + 1)
    rw [et, bxWs_append] at hbw
    have htl : (es.take i).length ≤ es.length := List.length_take_le' _ _
    rcases ev_cases e with ⟨l, ns, s', p, rfl⟩ | ⟨wd, p, ed, _, est, _⟩
    · obtain ⟨t, b, rfl, ht, hb⟩ := rep_evbox_inv hre
      have ht2 := off_sub _ _ (s2 _ _ ht)
      have hw : bxWs (es.take i) + (ns.length + 1) ≤ bxWs es := hbw
      refine ⟨_, rfl, t, _, _, _, rfl, rfl, SqT.of ht2, rfl, rfl, _, rfl, ifT (by decide +kernel) ?_⟩
      refine ⟨_, rfl, x, dx, _, rfl, h2.ob, hf_no (by decide +kernel) (by decide +kernel) (by decide +kernel), _, rfl, t, _, _, _, rfl, rfl, SqT.of ht2, rfl, _, rfl, t, _, _, _, rfl, rfl, SqT.of ht2, rfl, _, rfl, t, _, _, _, rfl, rfl, SqT.of ht2, rfl, _, rfl, t, _, _, _, rfl, rfl, SqT.of ht2, rfl, ?_⟩
      refine ⟨x, dx, dd, dn, nl, b, _, l, s', p, ns, _, _, rfl, h2, hok, by omega, by omega, s2 _ _ hb, fun H3 f3 h3 => ?_⟩
      exact ⟨_, rfl, s2.trans f3, by rw [et, Hs.run_snoc]; exact h3⟩
    · rw [ed] at hre
      obtain ⟨t, rfl, ht⟩ := rep_flt_inv hre
      have ht2 := off_sub _ _ (s2 _ _ ht)
      refine ⟨_, rfl, t, _, _, _, rfl, rfl, SqT.of ht2, rfl, rfl, _, rfl, ifF (by decide +kernel) ?_⟩
      exact ⟨_, rfl, s2, by rw [et, Hs.run_snoc, est]; exact h2⟩
  · rintro σ H2 ⟨o, rfl, s2, h2⟩
    rw [hl, List.take_length] at h2
    exact ⟨_, rfl, q x dx dd dn nl H2 (s2.trans off_sub) hx h2⟩
theorem scUnpacked : FnScope ["told"] ["told"] (defScope s_unpacked) := ⟨rfl, rfl, rfl, by decide +kernel, rfl, by decide +kernel, by decide +kernel⟩
theorem ok_unpacked {f g : Addr} {fd gd : FuncData} (F : Fun K "unpacked" "unpacked" s_unpacked f fd) (T : TH K mg CH) (D : Def K mg "hands_behind" s_hands_behind ["told"] g gd) (G : FnOk P w K mg base (CXs P w) 5 g gd ["told"] (spBehind CH)) :
    FnOk P w K mg base (CXs P w) 6 f fd ["told"] spUnpacked := by
  refine F.okX scUnpacked (fun vs H Q E h => ?_) (fun cdv A outer s H vs Q E hr h => ?_)
  · obtain ⟨v, es, rfl, _⟩ := h
    rfl
  obtain ⟨v, es, rfl, hv, hW, hL, q⟩ := h
  refine ⟨_, (pss_one (ps_ret (pe_fld (pe_call G hr rfl D.m D.F.kp D.b .nil pass_on (pa_cons (pv 0) pa_nil)) rfl))), ?_⟩
  refine ⟨_, rfl, v, es, rfl, hv, hW, hL, fun x dx dd dn nl H1 s1 nx h1 => ?_⟩
  obtain ⟨vs, e3, d3⟩ := h1.nw
  exact ⟨x, CH, dx, _, _, rfl, h1.ob, T.cl, T.n3, hf_news, q _ H1 s1 (rep_lst e3 (reps_mono off_sub d3))⟩
theorem scWaiting : FnScope ["told"] ["told"] (defScope s_waiting) := ⟨rfl, rfl, rfl, by decide +kernel, rfl, by decide +kernel, by decide +kernel⟩
theorem ok_waiting {f g : Addr} {fd gd : FuncData} (F : Fun K "waiting" "waiting" s_waiting f fd) (T : TH K mg CH) (mS : mg "sorted" = none) (D : Def K mg "hands_behind" s_hands_behind ["told"] g gd) (G : FnOk P w K mg base (CXs P w) 5 g gd ["told"] (spBehind CH)) :
    FnOk P w K mg base (CXs P w) 6 f fd ["told"] spWaiting := by
  refine F.okX scWaiting (fun vs H Q E h => ?_) (fun cdv A outer s H vs Q E hr h => ?_)
  · obtain ⟨v, es, rfl, _⟩ := h
    rfl
  obtain ⟨v, es, rfl, hv, hW, hL, h64, q⟩ := h
  refine ⟨_, (pss_one (ps_ret (pe_callB (call_sortedD hr.hd) rfl mS PyProof.Rows.boot_sorted (pa_cons (pe_fld (pe_call G hr rfl D.m D.F.kp D.b .nil pass_on (pa_cons (pv 0) pa_nil)) rfl) pa_nil)))), ?_⟩
  refine ⟨_, rfl, v, es, rfl, hv, hW, hL, fun x dx dd dn nl H1 s1 nx h1 => ?_⟩
  obtain ⟨kd, e1, d1⟩ := h1.du
  exact ⟨x, CH, dx, _, _, rfl, h1.ob, T.cl, T.n1, hf_due, dd, kd, _, rfl, .inl e1, d1.1, h64, fun l ns' hl hp hs => q l _ ns' (s1.trans (same_new hl _)) hp hs upd_same⟩
end
section
variable {P : Program} {w : World} {K : PySem.W.Frag} {mg : Str → Option Value} {base : Heap} {C0 C1 C2 C3 : Addr}
def spAt (K : PySem.W.Frag) : Sp := fun vs H Q _ => ∃ (a : Addr) (ns : List Int) (k : Nat), vs = [.ref a, .int k] ∧ SqL K H a (ns.map V.int) ∧ Q (.int (cell ns k)) H
theorem scAt : FnScope ["_law_script", "_law_k"] ["_law_script", "_law_k"] (defScope sAt) := ⟨rfl, rfl, rfl, by decide +kernel, rfl, by decide +kernel, by decide +kernel⟩
theorem ok_at {f : Addr} {fd : FuncData} (F : Fun K "_law_at" "_law_at" sAt f fd) (ml : mg "len" = none) : FnOk P w K mg base (CXs P w) 1 f fd ["_law_script", "_law_k"] (spAt K) := by
  refine F.okX scAt (fun vs H Q E h => ?_) (fun cdv A outer s H vs Q E hr h => ?_)
  · obtain ⟨a, ns, k, rfl, _⟩ := h
    rfl
  obtain ⟨a, ns, k, rfl, ha, q⟩ := h
  refine ⟨_, pss_cons (ps_if (pt_cmpR op_lt (pv 1) (pe_callB call_len_seq rfl ml PySem.boot_len (pa_cons (pv 0) pa_nil)) (nomark _)) (pss_one (ps_ret (pe_ix ix_list (pv 0) (pv 1) (fun _ _ => rfl)))) pss_nil)
    (pss_one (ps_ret pe_int)), ?_⟩
  refine ⟨_, rfl, _, rfl, a, _, rfl, .inl ha, _, _, rfl, rfl, _, rfl, ?_⟩
  refine ite2 (fun c => ?_) (fun c => ?_)
  · have c' : ((k : Nat) : Int) < (((ns.map V.int).length : Nat) : Int) := of_decide_eq_true c
    rw [List.length_map] at c'
    have hk : k < ns.length := by omega
    have e : cell ns k = ns[k] := by unfold cell; rw [List.getElem?_eq_getElem hk]; rfl
    rw [e] at q
    exact ⟨_, rfl, _, rfl, a, _, _, _, rfl, rfl, ha, atI_nat (by rw [List.getElem?_map, List.getElem?_eq_getElem hk]; rfl), q⟩
  · have c' : ¬ ((k : Nat) : Int) < (((ns.map V.int).length : Nat) : Int) := of_decide_eq_false (Bool.eq_false_iff.mpr c)
    rw [List.length_map] at c'
    have e : cell ns k = 0 := by unfold cell; rw [List.getElem?_eq_none (by omega)]; rfl
    rw [e] at q
    exact q

end
section
variable {P : Program} {w : World} {K : PySem.W.Frag} {mg : Str → Option Value} {base : Heap} {C0 C1 C2 C3 : Addr}
/-! ### _law_check -/
def spLCheck : Sp := fun vs H Q _ => ∃ (a : Addr) (ns : List Int), vs = [.ref a] ∧ H a = some (.lst (ns.map V.int)) ∧ ns.length ≤ 1000000 ∧ ∀ r, H r = none → Q (.ref r) (upd H r (.lst [.int (sum ns % 256), .int (two ns % 256)]))
theorem scLCheck : FnScope ["_law_numbers", "_law_one", "_law_two", "_law_k"] ["_law_numbers"] (defScope sLCheck) := ⟨rfl, rfl, rfl, by decide +kernel, rfl, by decide +kernel, by decide +kernel⟩
theorem ok_lcheck {f : Addr} {fd : FuncData} (F : Fun K "_law_check" "_law_check" sLCheck f fd) (B : Blt K mg) : FnOk P w K mg base (CXs P w) 1 f fd ["_law_numbers"] spLCheck := by
  refine F.okX scLCheck (fun vs H Q E h => ?_) (fun cdv A outer s H vs Q E hr h => ?_)
  · obtain ⟨a, ns, rfl, _⟩ := h
    rfl
  obtain ⟨a, ns, rfl, ha, hl, q⟩ := h
  refine ⟨_, pss_cons (ps_set (i := 1) scLCheck.nd rfl (Or.inl rfl) pe_int)
    (pss_cons (ps_set (i := 2) scLCheck.nd rfl (Or.inl rfl) pe_int)
    (pss_cons (ps_for passes_def rfl (pi_range1 rfl B.range (pa_cons (pe_callB call_len_seq rfl B.len PySem.boot_len (pa_cons (pv 0) pa_nil)) pa_nil)) (pg_name (i := 3) scLCheck.nd rfl (Or.inl rfl))
      (pss_cons (ps_set (i := 1) scLCheck.nd rfl (Or.inl rfl) (pe_op op_add (pv 1) (pe_ix ix_list (pv 0) (pv 3) (fun _ _ => rfl))))
      (pss_one (ps_set (i := 2) scLCheck.nd rfl (Or.inl rfl) (pe_op op_add (pv 2) (pe_op op_mul (pe_op op_sub (pe_callB call_len_seq rfl B.len PySem.boot_len (pa_cons (pv 0) pa_nil)) (pv 3)) (pe_ix ix_list (pv 0) (pv 3) (fun _ _ => rfl))))))))
    (pss_one (ps_ret (pe_lst (pa_cons (pe_op op_mod (pv 1) pe_int) (pa_cons (pe_op op_mod (pv 2) pe_int) pa_nil))))))), ?_⟩
  refine ⟨_, rfl, a, _, rfl, .inl (SqL.of ha), _, rfl, by omega, by rw [List.length_map]; omega, for_range (lo := 0) (n := _) (fun i σ H2 => ∃ o t v, σ = [some (.ref a), some (.int o), some (.int t), v] ∧ H2 = H ∧ o + sum (ns.drop i) = sum ns ∧ t + two (ns.drop i) = two ns)
    ⟨0, 0, none, rfl, rfl, by rw [List.drop_zero]; omega, by rw [List.drop_zero]; omega⟩ ?_ ?_⟩
  · rintro i σ H2 hi ⟨o, t, v, rfl, rfl, h1, h2⟩
    have hi' : i < ns.length := by
      have : (((ns.map V.int).length : Nat) : Int).toNat = ns.length := by rw [List.length_map]; omega
      omega
    have hn : ns[i]? = some ns[i] := List.getElem?_eq_getElem hi'
    have ei : (0 : Int) + (i : Int) = ((i : Nat) : Int) := by omega
    have ax : atI (ns.map V.int) (0 + (i : Int)) = some (.int ns[i]) := by rw [ei]; exact atI_nat (by rw [List.getElem?_map, hn]; rfl)
    refine ⟨_, rfl, _, rfl, _, rfl, a, _, _, _, rfl, rfl, SqL.of ha, ax, _, _, rfl, rfl, ?_⟩
    refine ⟨_, rfl, _, rfl, a, _, rfl, .inl (SqL.of ha), _, rfl, _, _, rfl, rfl, _, rfl, _, rfl, a, _, _, _, rfl, rfl, SqL.of ha, ax, _, _, rfl, rfl, .inl ⟨?_, ?_⟩, _, _, rfl, rfl, ?_⟩
    · rw [List.length_map]; omega
    · rw [List.length_map]; omega
    refine ⟨_, _, _, rfl, rfl, law_sum hn h1, ?_⟩
    have := law_two hn h2
    rw [List.length_map, ei]
    exact this
  · rintro σ H2 ⟨o, t, v, rfl, rfl, h1, h2⟩
    have en : (((ns.map V.int).length : Nat) : Int).toNat = ns.length := by rw [List.length_map]; omega
    rw [en, List.drop_length] at h1 h2
    have h1' : o = sum ns := by have : o + 0 = sum ns := h1; omega
    have h2' : t = two ns := by have : t + 0 = two ns := h2; omega
    subst h1' h2'
    exact ⟨_, rfl, _, _, rfl, rfl, (by show (0 : Int) < 256; decide), _, rfl, _, _, rfl, rfl, (by show (0 : Int) < 256; decide), (by show 2 ≤ sizeLine; decide), fun p hp => q p hp⟩

/-! ### _law_wire -/
def spWire : Sp := fun vs H Q _ => ∃ (a : Addr) (ns : List Int), vs = [.ref a] ∧ H a = some (.lst (ns.map V.int)) ∧ ns.length ≤ 400000 ∧ ∀ r H', Same H H' → H r = none → H' r = some (.lst ((esc ns).map V.int)) → Q (.ref r) H'
theorem scWire : FnScope ["_law_numbers", "_law_made", "_law_number"] ["_law_numbers"] (defScope sWire) := ⟨rfl, rfl, rfl, by decide +kernel, rfl, by decide +kernel, by decide +kernel⟩
theorem ok_wire {f : Addr} {fd : FuncData} (F : Fun K "_law_wire" "_law_wire" sWire f fd) : FnOk P w K mg base (CXs P w) 1 f fd ["_law_numbers"] spWire := by
  refine F.okX scWire (fun vs H Q E h => ?_) (fun cdv A outer s H vs Q E hr h => ?_)
  · obtain ⟨a, ns, rfl, _⟩ := h
    rfl
  obtain ⟨a, ns, rfl, ha, hl, q⟩ := h
  refine ⟨_, pss_cons (ps_set (i := 1) scWire.nd rfl (Or.inl rfl) (pe_lst pa_nil))
    (pss_cons (ps_for passes_def rfl (pi_list (pv 0)) (pg_name (i := 2) scWire.nd rfl (Or.inl rfl))
      (pss_one (ps_if (PW.pt (pw_or (pt_cmpR op_eq (pv 2) pe_int (nomark _)) (pw_or1 (pt_cmpR op_eq (pv 2) pe_int (nomark _)))))
        (pss_one (ps_set (i := 1) scWire.nd rfl (Or.inl rfl) (pe_op op_cat (pv 1) (pe_lst (pa_cons pe_int (pa_cons (pe_op op_sub (pv 2) pe_int) pa_nil))))))
        (pss_one (ps_expr (pe_bm PySem.F.plainAttrs_list PySem.F.slot_list_append PySem.F.type_list_append mt_append (pv 1) (pa_cons (pv 2) pa_nil)))))))
    (pss_one (ps_ret (pv 1)))), ?_⟩
  refine ⟨(by show 0 ≤ sizeLine; decide), fun m0 hm0 => ?_⟩
  refine ⟨_, rfl, a, rfl, ⟨_, SqL.of (same_new hm0 _ _ _ ha)⟩, for_list (K := K) (a := a) (xs := ns.map V.int) (fun i σ H2 => ∃ m n, σ = [some (.ref a), some (.ref m), n] ∧ Same H H2 ∧ H m = none ∧ H2 m = some (.lst ((esc (ns.take i)).map V.int))) ⟨m0, none, rfl, same_new hm0 _, hm0, upd_same⟩
    (fun i σ H2 _ ⟨_, _, _, s2, _⟩ => SqL.of (s2 _ _ ha)) ?_ ?_⟩
  · rintro i x σ H2 hx ⟨m, n0, rfl, s2, nm, hm2⟩
    obtain ⟨n, hn, rfl⟩ := int_at hx
    have hil : i < ns.length := (List.getElem?_eq_some_iff.mp hn).1
    have h1 := esc_len (ns.take i)
    rw [List.length_take] at h1
    -- 125 or 126
    have esc_way : (n = 125 ∨ n = 126) → ∀ (D : Ends), (∀ m' H3, Same H H3 → H m' = none → H3 m' = some (.lst ((esc (ns.take (i + 1))).map V.int)) → D.nx [some (.ref a), some (.ref m'), some (.int n)] H3) →
        tAsg (tOp rCat (tVar 1) (tLst (tCons (tC (.int 125)) (tCons (tOp (rI0 fun i j => .int (i - j)) (tVar 2) (tC (.int 124))) tNil)))) (gName 1) D [some (.ref a), some (.ref m), some (.int n)] H2 := by
      intro hc D hD
      refine ⟨_, rfl, _, rfl, _, _, rfl, rfl, (by show 2 ≤ sizeLine; decide), fun p hp => ?_⟩
      have npm : m ≠ p := ne_of_none hm2 hp
      have s3 : Same H (upd H2 p (.lst [.int 125, .int (n - 124)])) := same_upd s2 (s2.free hp) _
      refine ⟨m, p, _, _, rfl, rfl, by rw [upd_ne npm]; exact hm2, upd_same, ?_, fun r hr' => ?_⟩
      · rw [List.length_map]
        show _ + 2 ≤ sizeLine
        exact small' (by omega)
      · have hr2 : H r = none := s3.free hr'
        refine hD r _ (same_upd s3 hr2 _) hr2 ?_
        rw [upd_same, esc_step hn, List.map_append, escOf_law hc]
        rfl
    refine ⟨_, rfl, rfl, _, rfl, ?_⟩
    refine ite2 (fun c => ?_) (fun c => ?_)
    · refine iteT ?_
      exact esc_way (.inl (V.int.inj (of_decide_eq_true c))) _ fun m' H3 s3 n3 e3 => ⟨m', _, rfl, s3, n3, e3⟩
    · have n1 : n ≠ 125 := fun z => (of_decide_eq_false (Bool.eq_false_iff.mpr c)) (by rw [z])
      refine ⟨_, rfl, rfl, _, rfl, ?_⟩
      refine ite2 (fun c' => ?_) (fun c' => ?_)
      · exact esc_way (.inr (V.int.inj (of_decide_eq_true c'))) _ fun m' H3 s3 n3 e3 => ⟨m', _, rfl, s3, n3, e3⟩
      · have n2 : n ≠ 126 := fun z => (of_decide_eq_false (Bool.eq_false_iff.mpr c')) (by rw [z])
        refine ⟨_, rfl, .inl ⟨rfl, _, SqL.of hm2⟩, _, rfl, m, _, _, rfl, rfl, hm2, ?_, ?_⟩
        · rw [List.length_map]; exact small (by omega)
        · refine ⟨m, _, rfl, same_upd s2 nm _, nm, ?_⟩
          rw [upd_same, esc_step hn, List.map_append, escOf_else n1 n2]
          rfl
  · rintro σ H2 ⟨m, n0, rfl, s2, nm, hm2⟩
    rw [List.length_map, List.take_length] at hm2
    exact ⟨_, rfl, q m H2 s2 nm hm2⟩
end
/-! ### _law_so: two values of the same data -/
structure SoK (K : PySem.W.Frag) (mg : Str → Option Value) : Prop where
  isi : mg "isinstance" = none
  list : mg "list" = none
  tuple : mg "tuple" = none
  str : mg "str" = none
  bool : mg "bool" = none
  int : mg "int" = none
  len : mg "len" = none
  range : mg "range" = none
  al : PySem.W.kitAny K (.type "list") [.type "list", .type "tuple"] = some true
  at_ : PySem.W.kitAny K (.type "tuple") [.type "list", .type "tuple"] = some true
  as_ : PySem.W.kitAny K (.type "str") [.type "list", .type "tuple"] = some false
  ab : PySem.W.kitAny K (.type "bool") [.type "list", .type "tuple"] = some false
  an : PySem.W.kitAny K (.type "NoneType") [.type "list", .type "tuple"] = some false
  ai : PySem.W.kitAny K (.type "int") [.type "list", .type "tuple"] = some false
  ll : PySem.W.kitOne K (.type "list") (.type "list") = some true
  lt : PySem.W.kitOne K (.type "list") (.type "tuple") = some false
  tl : PySem.W.kitOne K (.type "tuple") (.type "list") = some false
  tt : PySem.W.kitOne K (.type "tuple") (.type "tuple") = some true
  ss : PySem.W.kitOne K (.type "str") (.type "str") = some true
  bs : PySem.W.kitOne K (.type "bool") (.type "str") = some false
  ns : PySem.W.kitOne K (.type "NoneType") (.type "str") = some false
  is : PySem.W.kitOne K (.type "int") (.type "str") = some false
  bb : PySem.W.kitOne K (.type "bool") (.type "bool") = some true
  nb : PySem.W.kitOne K (.type "NoneType") (.type "bool") = some false
  ib : PySem.W.kitOne K (.type "int") (.type "bool") = some false
  ii : PySem.W.kitOne K (.type "int") (.type "int") = some true
theorem bootTuple : bootBuiltins "tuple" = some (.type "tuple") := by decide +kernel
theorem bootStr : bootBuiltins "str" = some (.type "str") := by decide +kernel
section
variable {P : Program} {w : World} {K : PySem.W.Frag} {mg : Str → Option Value} {base : Heap} {C0 C1 C2 C3 : Addr}
/-- a list or a tuple -/
def Sq (K : PySem.W.Frag) (H : Hp) (v : V) (xs : List V) : Prop := ∃ a, v = .ref a ∧ (SqL K H a xs ∨ SqT K H a xs)
theorem Sq.ix {K : PySem.W.Frag} {H : Hp} {v u : V} {xs : List V} {i : Int} {Q : VK} (h : Sq K H v xs) (e : atI xs i = some u) (q : Q u H) : rIx K v (.int i) H Q := by
  obtain ⟨a, rfl, h | h⟩ := h
  · exact .inl ⟨a, xs, i, u, rfl, rfl, h, e, q⟩
  · exact .inr (.inl ⟨a, xs, i, u, rfl, rfl, h, e, q⟩)
structure Pr where
  p : Addr
  x : V
  y : V
  d : D
def spSo : Sp := fun vs H Q _ => ∃ (x y : V) (d : D), vs = [x, y] ∧ Rep H x d ∧ Rep H y d ∧ d.size ≤ 1000000 ∧ ∀ H', Same H H' → Q (.bl true) H'
theorem scSo : FnScope ["_law_found", "_law_due", "_law_todo", "_law_one", "_law_other", "_law_k"] ["_law_found", "_law_due"] (defScope sSo) := ⟨rfl, rfl, rfl, by decide +kernel, rfl, by decide +kernel, by decide +kernel⟩
theorem ok_so {f : Addr} {fd : FuncData} (F : Fun K "_law_so" "_law_so" sSo f fd) (S : SoK K mg) : FnOk P w K mg base (CXs P w) 1 f fd ["_law_found", "_law_due"] spSo := by
  refine F.okX scSo (fun vs H Q E h => ?_) (fun cdv A outer s H vs Q E hr h => ?_)
  · obtain ⟨x, y, d, rfl, _⟩ := h
    rfl
  obtain ⟨x, y, d, rfl, hx, hy, hd, q⟩ := h
  have hu := hr.units0
  refine ⟨_, pss_cons (ps_set (i := 2) scSo.nd rfl (Or.inl rfl) (pe_lst (pa_cons (pe_tup (pa_cons (pv 0) (pa_cons (pv 1) pa_nil))) pa_nil)))
    (pss_cons (ps_while passes_def (pt_cmpR (op_neN hu) (pv 2) (pe_lst pa_nil) (nomark _))
      (pss_cons (ps_asg (pe_bm0 PySem.F.plainAttrs_list PySem.F.slot_list_pop PySem.F.type_list_pop mt_pop (pv 2)) (pg_tup rfl (pgs_cons (pg_name (i := 3) scSo.nd rfl (Or.inl rfl)) (pgs_cons (pg_name (i := 4) scSo.nd rfl (Or.inl rfl)) pgs_nil))))
      (pss_one (ps_if (pt_val (pe_callB call_isT rfl S.isi PyProof.Rows.boot_isinstance (pa_cons (pv 4) (pa_cons (pe_tup (pa_cons (pe_bltn (v := .ty "list") rfl S.list PyProof.Rows.boot_list rfl) (pa_cons (pe_bltn (v := .ty "tuple") rfl S.tuple bootTuple rfl) pa_nil))) pa_nil))))
        (pss_cons (ps_if (pt_cmpR op_ne (pe_isT S.isi rfl (pv 3) rfl S.list PyProof.Rows.boot_list) (pe_isT S.isi rfl (pv 4) rfl S.list PyProof.Rows.boot_list) (nomark _)) (pss_one (ps_ret pe_bl)) pss_nil)
        (pss_cons (ps_if (pt_cmpR op_ne (pe_isT S.isi rfl (pv 3) rfl S.tuple bootTuple) (pe_isT S.isi rfl (pv 4) rfl S.tuple bootTuple) (nomark _)) (pss_one (ps_ret pe_bl)) pss_nil)
        (pss_cons (ps_if (pt_cmpR op_ne (pe_callB call_len_seq rfl S.len PySem.boot_len (pa_cons (pv 3) pa_nil)) (pe_callB call_len_seq rfl S.len PySem.boot_len (pa_cons (pv 4) pa_nil)) (nomark _)) (pss_one (ps_ret pe_bl)) pss_nil)
        (pss_one (ps_for passes_def rfl (pi_range1 rfl S.range (pa_cons (pe_callB call_len_seq rfl S.len PySem.boot_len (pa_cons (pv 4) pa_nil)) pa_nil)) (pg_name (i := 5) scSo.nd rfl (Or.inl rfl))
          (pss_one (ps_expr (pe_bm PySem.F.plainAttrs_list PySem.F.slot_list_append PySem.F.type_list_append mt_append (pv 2) (pa_cons (pe_tup (pa_cons (pe_ix ix_seq (pv 3) (pv 5) (fun _ _ => rfl)) (pa_cons (pe_ix ix_seq (pv 4) (pv 5) (fun _ _ => rfl)) pa_nil))) pa_nil)))))))))
        (pss_one (ps_if (pt_val (pe_isT S.isi rfl (pv 4) rfl S.str bootStr))
          (pss_one (ps_if (PW.pt (pw_or (pt_not (pt_val (pe_isT S.isi rfl (pv 3) rfl S.str bootStr))) (pw_or1 (pt_cmpR op_ne (pv 3) (pv 4) (nomark _))))) (pss_one (ps_ret pe_bl)) pss_nil))
          (pss_one (ps_if (pt_val (pe_isT S.isi rfl (pv 4) rfl S.bool bootBool))
            (pss_one (ps_if (PW.pt (pw_or (pt_not (pt_val (pe_isT S.isi rfl (pv 3) rfl S.bool bootBool))) (pw_or1 (pt_cmpR op_ne (pv 3) (pv 4) (nomark _))))) (pss_one (ps_ret pe_bl)) pss_nil))
            (pss_one (ps_if (pt_cmpR op_isN (pv 4) pe_non (nomark _))
              (pss_one (ps_if (pt_cmpR op_notN (pv 3) pe_non (nomark _)) (pss_one (ps_ret pe_bl)) pss_nil))
              (pss_one (ps_if (PW.pt (pw_or (pt_not (pt_val (pe_isT S.isi rfl (pv 3) rfl S.int PyProof.Rows.boot_int))) (pw_or (pt_val (pe_isT S.isi rfl (pv 3) rfl S.bool bootBool)) (pw_or1 (pt_cmpR op_ne (pv 3) (pv 4) (nomark _)))))) (pss_one (ps_ret pe_bl)) pss_nil))))))))))))
    (pss_one (ps_ret pe_bl))), ?_⟩
  refine ⟨_, rfl, _, rfl, (by show 2 ≤ sizeLine; decide), fun p0 hp0 => ⟨(by show 1 ≤ sizeLine; decide), fun T hT => ?_⟩⟩
  have nT : H T = none := (same_new hp0 _).free hT
  have s1 : Same H (upd (upd H p0 (.tup [x, y])) T (.lst [.ref p0])) := (same_new hp0 _).trans (same_new hT _)
  have ne0 : p0 ≠ T := ne_of_none upd_same hT
  refine ⟨fun m σ H2 => ∃ (prs : List Pr) (o1 o2 kk : Option V), σ = [some x, some y, some (.ref T), o1, o2, kk] ∧ Same H H2 ∧ H2 T = some (.lst (prs.map fun r => .ref r.p)) ∧ (∀ r ∈ prs, H2 r.p = some (.tup [r.x, r.y]) ∧ Rep H r.x r.d ∧ Rep H r.y r.d) ∧ D.sizes (prs.map (·.d)) = m ∧ m ≤ 1000000,
    ⟨d.size, [⟨p0, x, y, d⟩], none, none, none, rfl, s1, upd_same, ?_, ?_, hd⟩, ?_⟩
  · intro r hr'
    have e : r = ⟨p0, x, y, d⟩ := by simpa using hr'
    subst e
    exact ⟨by rw [upd_ne ne0, upd_same], hx, hy⟩
  · show d.size + 0 = d.size; omega
  rintro m σ H2 ⟨prs, o1, o2, kk, rfl, s2, hT2, hps, hm, hm2⟩
  refine ⟨_, rfl, (by show 0 ≤ sizeLine; decide), fun pe hpe => ?_⟩
  have s3 : Same H2 (upd H2 pe (.lst [])) := same_new hpe _
  refine ⟨T, pe, _, rfl, rfl, SqL.of (s3 _ _ hT2), SqL.of upd_same, _, rfl, ?_⟩
  rcases List.eq_nil_or_concat prs with e | ⟨ini, ⟨p, u, v, d'⟩, e⟩
  · subst e
    refine iteF ?_
    exact q _ (s2.trans s3)
  subst e
  have hne : (!((List.concat ini ⟨p, u, v, d'⟩).map fun r => V.ref r.p).isEmpty) = true := by
    rw [List.concat_eq_append, List.map_append]
    cases ini <;> rfl
  rw [hne]
  refine iteT ?_
  rw [List.concat_eq_append] at hT2 hps hm
  generalize hH3 : upd H2 pe (.lst []) = H3 at s3
  have hT3 : H3 T = some (.lst ((ini.map fun r => .ref r.p) ++ [.ref p])) := by
    have := s3 _ _ hT2
    rw [List.map_append] at this
    exact this
  obtain ⟨hp, hu1, hv1⟩ := hps ⟨p, u, v, d'⟩ (List.mem_append_right _ (List.Mem.head _))
  have hsz : D.sizes (ini.map (·.d)) + d'.size = m := by
    rw [List.map_append, D.sizes_append] at hm
    have : D.sizes (ini.map (·.d)) + (d'.size + 0) = m := hm
    omega
  have hdp := D.size_pos d'
  refine ⟨fun σ' H' => ∃ m', m' < m ∧ ∃ (prs : List Pr) (o1 o2 kk : Option V), σ' = [some x, some y, some (.ref T), o1, o2, kk] ∧ Same H H' ∧ H' T = some (.lst (prs.map fun r => .ref r.p)) ∧ (∀ r ∈ prs, H' r.p = some (.tup [r.x, r.y]) ∧ Rep H r.x r.d ∧ Rep H r.y r.d) ∧ D.sizes (prs.map (·.d)) = m' ∧ m' ≤ 1000000, fun _ _ z => z, ?_⟩
  -- one, other = todo.pop()
  refine ⟨_, rfl, .inl ⟨rfl, _, SqL.of hT3⟩, T, _, .ref p, rfl, rfl, hT3, by simp, ?_⟩
  rw [List.dropLast_concat]
  have pT : p ≠ T := ne_of hp hT2 (by intro z; cases z)
  have s4 : Same H (upd H3 T (.lst (ini.map fun r => .ref r.p))) := same_upd (s2.trans s3) nT _
  refine ⟨p, _, rfl, SqT.of (by rw [upd_ne pT]; exact s3 _ _ hp), rfl, _, _, rfl, _, _, rfl, rfl, ?_⟩
  generalize hH4 : upd H3 T (.lst (ini.map fun r => .ref r.p)) = H4 at s4
  have hT4 : H4 T = some (.lst (ini.map fun r => .ref r.p)) := by rw [← hH4]; exact upd_same
  have hps4 : ∀ r ∈ ini, H4 r.p = some (.tup [r.x, r.y]) ∧ Rep H r.x r.d ∧ Rep H r.y r.d := fun r hr' => by
    obtain ⟨h1, h2, h3⟩ := hps r (List.mem_append_left _ hr')
    have rT : r.p ≠ T := ne_of h1 hT2 (by intro z; cases z)
    exact ⟨by rw [← hH4, upd_ne rT]; exact s3 _ _ h1, h2, h3⟩
  -- nothing more to compare within it
  have flat : ∀ (H5 : Hp), Same H4 H5 → d'.size = 1 → ∃ m', m' < m ∧ ∃ (prs : List Pr) (o1 o2 kk' : Option V), [some x, some y, some (V.ref T), some u, some v, kk] = [some x, some y, some (.ref T), o1, o2, kk'] ∧ Same H H5 ∧ H5 T = some (.lst (prs.map fun r => .ref r.p)) ∧ (∀ r ∈ prs, H5 r.p = some (.tup [r.x, r.y]) ∧ Rep H r.x r.d ∧ Rep H r.y r.d) ∧ D.sizes (prs.map (·.d)) = m' ∧ m' ≤ 1000000 :=
    fun H5 s5 h1 => ⟨D.sizes (ini.map (·.d)), by omega, ini, _, _, _, rfl, s4.trans s5, s5 _ _ hT4, fun r hr' => ⟨s5 _ _ (hps4 r hr').1, (hps4 r hr').2⟩, rfl, by omega⟩
  -- its items
  have kids : ∀ (vs ws : List V) (ds : List D) (H5 : Hp), Same H4 H5 → Sq K H5 u vs → Sq K H5 v ws → (∀ H6, Same H H6 → Sq K H6 u vs ∧ Sq K H6 v ws) → vs.length = ds.length → ws.length = ds.length → (∀ (i : Nat) z t, vs[i]? = some z → ds[i]? = some t → Rep H z t) → (∀ (i : Nat) z t, ws[i]? = some z → ds[i]? = some t → Rep H z t) → D.sizes ds + 1 = d'.size →
      ∀ D' : Ends, D'.nx = (fun σ' H' => ∃ m', m' < m ∧ ∃ (prs : List Pr) (o1 o2 kk : Option V), σ' = [some x, some y, some (.ref T), o1, o2, kk] ∧ Same H H' ∧ H' T = some (.lst (prs.map fun r => .ref r.p)) ∧ (∀ r ∈ prs, H' r.p = some (.tup [r.x, r.y]) ∧ Rep H r.x r.d ∧ Rep H r.y r.d) ∧ D.sizes (prs.map (·.d)) = m' ∧ m' ≤ 1000000) →
      tSeq (tIfS (tTest (tOp rNe (tCB (fun xs H Q => ∃ p ys, xs = [.ref p] ∧ (SqL K H p ys ∨ SqT K H p ys) ∧ Q (.int ys.length) H) (tCons (tVar 3) tNil)) (tCB (fun xs H Q => ∃ p ys, xs = [.ref p] ∧ (SqL K H p ys ∨ SqT K H p ys) ∧ Q (.int ys.length) H) (tCons (tVar 4) tNil)))) (tRet (tC (.bl false))) tNext)
        (tFor (iRng1 (tCons (tCB (fun xs H Q => ∃ p ys, xs = [.ref p] ∧ (SqL K H p ys ∨ SqT K H p ys) ∧ Q (.int ys.length) H) (tCons (tVar 4) tNil)) tNil)) (gName 5)
          (tDrop (tBM K "list" rAppend (tVar 2) (tCons (tTup (tCons (tOp (rIx K) (tVar 3) (tVar 5)) (tCons (tOp (rIx K) (tVar 4) (tVar 5)) tNil))) tNil)))) D' [some x, some y, some (.ref T), some u, some v, kk] H5 := by
    intro vs ws ds H5 s5 hsu hsv hst hlv hlw hrv hrw hds D' hD'
    obtain ⟨au, eu, hu5⟩ := id hsu
    obtain ⟨av, ev, hv5⟩ := id hsv
    refine ⟨_, rfl, au, vs, by rw [eu], hu5, _, rfl, av, ws, by rw [ev], hv5, rfl, _, rfl, ?_⟩
    refine iteNS (by rw [hlv, hlw]) ?_
    have hlen : ws.length ≤ 1000000 := by have := D.sizes_len ds; omega
    refine ⟨_, rfl, av, ws, by rw [ev], hv5, _, rfl, by omega, by omega, for_range (lo := 0) (n := _) (fun i σ' H' => ∃ (prs : List Pr) (kk : Option V), σ' = [some x, some y, some (.ref T), some u, some v, kk] ∧ Same H H' ∧ H' T = some (.lst (prs.map fun r => .ref r.p)) ∧ (∀ r ∈ prs, H' r.p = some (.tup [r.x, r.y]) ∧ Rep H r.x r.d ∧ Rep H r.y r.d) ∧ prs.length = ini.length + i ∧ D.sizes (prs.map (·.d)) = D.sizes (ini.map (·.d)) + D.sizes (ds.take i))
      ⟨ini, kk, rfl, s4.trans s5, s5 _ _ hT4, fun r hr' => ⟨s5 _ _ (hps4 r hr').1, (hps4 r hr').2⟩, by omega, by show _ = _ + 0; omega⟩ ?_ ?_⟩
    · rintro i σ' H6 hi ⟨prs, kk', rfl, s6, hT6, hps6, hl6, hz6⟩
      have hi' : i < ds.length := by omega
      obtain ⟨z1, e1⟩ : ∃ z, vs[i]? = some z := ⟨vs[i]'(by omega), List.getElem?_eq_getElem (by omega)⟩
      obtain ⟨z2, e2⟩ : ∃ z, ws[i]? = some z := ⟨ws[i]'(by omega), List.getElem?_eq_getElem (by omega)⟩
      obtain ⟨t, et⟩ : ∃ t, ds[i]? = some t := ⟨ds[i], List.getElem?_eq_getElem hi'⟩
      have ei : (0 : Int) + (i : Int) = ((i : Nat) : Int) := by omega
      obtain ⟨q1, q2⟩ := hst H6 s6
      have htk : ds.take (i + 1) = ds.take i ++ [t] := take_succ et
      have hzz : D.sizes (ds.take (i + 1)) = D.sizes (ds.take i) + t.size := by
        rw [htk, D.sizes_append]; show _ + (t.size + 0) = _; omega
      refine ⟨_, rfl, .inl ⟨rfl, _, SqL.of hT6⟩, _, rfl, _, rfl, q1.ix (by rw [ei]; exact atI_nat e1) ⟨_, rfl, _, rfl, q2.ix (by rw [ei]; exact atI_nat e2) ⟨(by show 2 ≤ sizeLine; decide), fun pn hpn => ?_⟩⟩⟩
      have nTp : T ≠ pn := ne_of_none hT6 hpn
      refine ⟨T, _, _, rfl, rfl, by rw [upd_ne nTp]; exact hT6, ?_, prs ++ [⟨pn, z1, z2, t⟩], _, rfl, same_upd (same_upd s6 (s6.free hpn) _) nT _, by rw [upd_same, List.map_append]; rfl, ?_, by rw [List.length_append, hl6]; show _ + _ + 1 = _; omega, ?_⟩
      · rw [List.length_map, hl6]
        have h1 := D.sizes_len (ini.map (·.d))
        rw [List.length_map] at h1
        have h2 := D.sizes_len ds
        exact small (by omega)
      · intro r hr'
        rcases List.mem_append.mp hr' with z | z
        · obtain ⟨h1, h2, h3⟩ := hps6 r z
          have r1 : r.p ≠ T := ne_of h1 hT6 (by intro z; cases z)
          have r2 : r.p ≠ pn := ne_of_none h1 hpn
          exact ⟨by rw [upd_ne r1, upd_ne r2]; exact h1, h2, h3⟩
        · have z' : r = ⟨pn, z1, z2, t⟩ := by simpa using z
          subst z'
          exact ⟨by rw [upd_ne nTp.symm, upd_same], hrv i z1 t e1 et, hrw i z2 t e2 et⟩
      · rw [List.map_append, D.sizes_append, hz6, hzz]
        show _ + (t.size + 0) = _
        omega
    · rintro σ' H6 ⟨prs, kk', rfl, s6, hT6, hps6, hl6, hz6⟩
      rw [hD']
      have en : ((ws.length : Int)).toNat = ds.length := by omega
      rw [en, List.take_length] at hz6
      exact ⟨D.sizes (prs.map (·.d)), by omega, prs, _, _, _, rfl, s6, hT6, hps6, rfl, by omega⟩
  have tyw : ∀ {H5 : Hp} {z : V} {e : D} {t : Value}, True := trivial
  cases hv1 with
  | int i =>
    cases hu1
    refine ⟨_, rfl, (by show 2 ≤ sizeLine; decide), fun tp htp => ⟨_, tp, _, _, _, _, rfl, upd_same, rfl, .int i, S.ai, _, rfl, ?_⟩⟩
    refine iteF ?_
    refine ⟨_, rfl, _, _, _, _, _, rfl, rfl, .int i, S.is, _, rfl, ?_⟩
    refine iteF ?_
    refine ⟨_, rfl, _, _, _, _, _, rfl, rfl, .int i, S.ib, _, rfl, ?_⟩
    refine iteF ?_
    refine ⟨_, rfl, rfl, _, rfl, ?_⟩
    refine iteF ?_
    refine ⟨_, rfl, _, _, _, _, _, rfl, rfl, .int i, S.ii, _, rfl, ?_⟩
    refine iteF ?_
    refine ⟨_, rfl, _, _, _, _, _, rfl, rfl, .int i, S.ib, _, rfl, ?_⟩
    refine iteF ?_
    refine ⟨_, rfl, _, rfl, rfl, _, rfl, ?_⟩
    refine iteNS rfl ?_
    exact flat _ (same_new htp _) rfl
  | str c =>
    cases hu1
    refine ⟨_, rfl, (by show 2 ≤ sizeLine; decide), fun tp htp => ⟨_, tp, _, _, _, _, rfl, upd_same, rfl, .str c, S.as_, _, rfl, ?_⟩⟩
    refine iteF ?_
    refine ⟨_, rfl, _, _, _, _, _, rfl, rfl, .str c, S.ss, _, rfl, ?_⟩
    refine iteT ?_
    refine ⟨_, rfl, _, _, _, _, _, rfl, rfl, .str c, S.ss, _, rfl, ?_⟩
    refine iteF ?_
    refine ⟨_, rfl, _, rfl, rfl, _, rfl, ?_⟩
    refine iteNS rfl ?_
    exact flat _ (same_new htp _) rfl
  | bl b =>
    cases hu1
    refine ⟨_, rfl, (by show 2 ≤ sizeLine; decide), fun tp htp => ⟨_, tp, _, _, _, _, rfl, upd_same, rfl, .bl b, S.ab, _, rfl, ?_⟩⟩
    refine iteF ?_
    refine ⟨_, rfl, _, _, _, _, _, rfl, rfl, .bl b, S.bs, _, rfl, ?_⟩
    refine iteF ?_
    refine ⟨_, rfl, _, _, _, _, _, rfl, rfl, .bl b, S.bb, _, rfl, ?_⟩
    refine iteT ?_
    refine ⟨_, rfl, _, _, _, _, _, rfl, rfl, .bl b, S.bb, _, rfl, ?_⟩
    refine iteF ?_
    refine ⟨_, rfl, _, rfl, rfl, _, rfl, ?_⟩
    refine iteNS rfl ?_
    exact flat _ (same_new htp _) rfl
  | non =>
    cases hu1
    refine ⟨_, rfl, (by show 2 ≤ sizeLine; decide), fun tp htp => ⟨_, tp, _, _, _, _, rfl, upd_same, rfl, .non, S.an, _, rfl, ?_⟩⟩
    refine iteF ?_
    refine ⟨_, rfl, _, _, _, _, _, rfl, rfl, .non, S.ns, _, rfl, ?_⟩
    refine iteF ?_
    refine ⟨_, rfl, _, _, _, _, _, rfl, rfl, .non, S.nb, _, rfl, ?_⟩
    refine iteF ?_
    refine ⟨_, rfl, rfl, _, rfl, ?_⟩
    refine iteT ?_
    refine ⟨_, rfl, rfl, _, rfl, ?_⟩
    refine iteF ?_
    exact flat _ (same_new htp _) rfl
  | @lst b ws ds hb hlw hrw =>
    cases hu1 with
    | @lst a vs _ ha hlv hrv =>
    refine ⟨_, rfl, (by show 2 ≤ sizeLine; decide), fun tp htp => ⟨_, tp, _, _, _, _, rfl, upd_same, rfl, .lst (same_new htp _ _ _ (s4 _ _ hb)), S.al, _, rfl, ?_⟩⟩
    have s5 := same_new htp (.tup [.ty "list", .ty "tuple"])
    have ha5 := s5 _ _ (s4 _ _ ha)
    have hb5 := s5 _ _ (s4 _ _ hb)
    refine iteT ?_
    refine ⟨_, rfl, _, _, _, _, _, rfl, rfl, .lst ha5, S.ll, _, rfl, _, _, _, _, _, rfl, rfl, .lst hb5, S.ll, rfl, _, rfl, ?_⟩
    refine iteNS rfl ?_
    refine ⟨_, rfl, _, _, _, _, _, rfl, rfl, .lst ha5, S.lt, _, rfl, _, _, _, _, _, rfl, rfl, .lst hb5, S.lt, rfl, _, rfl, ?_⟩
    refine iteNS rfl ?_
    exact kids vs ws ds _ s5 ⟨a, rfl, .inl (SqL.of ha5)⟩ ⟨b, rfl, .inl (SqL.of hb5)⟩ (fun H6 s6 => ⟨⟨a, rfl, .inl (SqL.of (s6 _ _ ha))⟩, ⟨b, rfl, .inl (SqL.of (s6 _ _ hb))⟩⟩) hlv hlw hrv hrw rfl _ rfl
  | @tup b ws ds hb hlw hrw =>
    cases hu1 with
    | @tup a vs _ ha hlv hrv =>
    refine ⟨_, rfl, (by show 2 ≤ sizeLine; decide), fun tp htp => ⟨_, tp, _, _, _, _, rfl, upd_same, rfl, .tup (same_new htp _ _ _ (s4 _ _ hb)), S.at_, _, rfl, ?_⟩⟩
    have s5 := same_new htp (.tup [.ty "list", .ty "tuple"])
    have ha5 := s5 _ _ (s4 _ _ ha)
    have hb5 := s5 _ _ (s4 _ _ hb)
    refine iteT ?_
    refine ⟨_, rfl, _, _, _, _, _, rfl, rfl, .tup ha5, S.tl, _, rfl, _, _, _, _, _, rfl, rfl, .tup hb5, S.tl, rfl, _, rfl, ?_⟩
    refine iteNS rfl ?_
    refine ⟨_, rfl, _, _, _, _, _, rfl, rfl, .tup ha5, S.tt, _, rfl, _, _, _, _, _, rfl, rfl, .tup hb5, S.tt, rfl, _, rfl, ?_⟩
    refine iteNS rfl ?_
    exact kids vs ws ds _ s5 ⟨a, rfl, .inr (SqT.of ha5)⟩ ⟨b, rfl, .inr (SqT.of hb5)⟩ (fun H6 s6 => ⟨⟨a, rfl, .inr (SqT.of (s6 _ _ ha))⟩, ⟨b, rfl, .inr (SqT.of (s6 _ _ hb))⟩⟩) hlv hlw hrv hrw rfl _ rfl
end
section
variable {P : Program} {w : World} {K : PySem.W.Frag} {mg : Str → Option Value} {base : Heap} {C0 C1 C2 C3 : Addr}
/-! ### _law_inside -/
def spInside : Sp := fun vs H Q _ => ∃ (v : V) (b : Int × List Int), vs = [v] ∧ Rep H v (boxD b) ∧ b.2.length ≤ 65535 ∧ ∀ r H', Same H H' → H r = none → H' r = some (.lst ((inside b.1 b.2).map V.int)) → Q (.ref r) H'
theorem scInside : FnScope ["_law_box", "_law_many", "_law_numbers"] ["_law_box"] (defScope sInside) := ⟨rfl, rfl, rfl, by decide +kernel, rfl, by decide +kernel, by decide +kernel⟩
theorem ok_inside {f g : Addr} {fd gd : FuncData} (F : Fun K "_law_inside" "_law_inside" sInside f fd) (ml : mg "len" = none) (D : Def K mg "_law_check" sLCheck ["_law_numbers"] g gd) (G : FnOk P w K mg base (CXs P w) 1 g gd ["_law_numbers"] spLCheck) :
    FnOk P w K mg base (CXs P w) 2 f fd ["_law_box"] spInside := by
  refine F.okX scInside (fun vs H Q E h => ?_) (fun cdv A outer s H vs Q E hr h => ?_)
  · obtain ⟨v, b, rfl, _⟩ := h
    rfl
  obtain ⟨v, b, rfl, hv, hl, q⟩ := h
  obtain ⟨t, l, rfl, ht, hll⟩ := rep_box_inv hv
  refine ⟨_, pss_cons (ps_set (i := 1) scInside.nd rfl (Or.inl rfl) (pe_callB call_len_seq rfl ml PySem.boot_len (pa_cons (pe_ix ix_tup (pv 0) pe_int (fun _ _ => rfl)) pa_nil)))
    (pss_cons (ps_set (i := 2) scInside.nd rfl (Or.inl rfl) (pe_op op_cat (pe_lst (pa_cons (pe_op op_fdiv (pv 1) pe_int) (pa_cons (pe_op op_mod (pv 1) pe_int) (pa_cons (pe_ix ix_tup (pv 0) pe_int (fun _ _ => rfl)) pa_nil)))) (pe_ix ix_tup (pv 0) pe_int (fun _ _ => rfl))))
    (pss_one (ps_ret (pe_op op_cat (pv 2) (pe_call G hr rfl D.m D.F.kp D.b .nil pass_on (pa_cons (pv 2) pa_nil)))))), ?_⟩
  refine ⟨_, rfl, t, _, _, _, rfl, rfl, SqT.of ht, rfl, l, _, rfl, .inl (SqL.of hll), ?_⟩
  rw [List.length_map]
  refine ⟨_, rfl, _, _, rfl, rfl, ⟨by decide, by decide⟩, _, rfl, _, _, rfl, rfl, (by show (0 : Int) < 256; decide), _, rfl, t, _, _, _, rfl, rfl, SqT.of ht, rfl, (by show 3 ≤ sizeLine; decide), fun p1 hp1 => ?_⟩
  have s1 := same_new hp1 (.lst [V.int ((b.2.length : Int) / 256), .int ((b.2.length : Int) % 256), .int b.1])
  refine ⟨_, rfl, t, _, _, _, rfl, rfl, SqT.of (s1 _ _ ht), rfl, p1, l, _, _, rfl, rfl, upd_same, s1 _ _ hll, by rw [List.length_map]; exact small' (by show 3 + _ ≤ _; omega), fun p2 hp2 => ?_⟩
  have s2 := s1.trans (same_new hp2 (.lst ((pre b.1 b.2).map V.int)))
  have e2 : upd (upd H p1 (.lst [V.int ((b.2.length : Int) / 256), .int ((b.2.length : Int) % 256), .int b.1])) p2 (.lst ([V.int ((b.2.length : Int) / 256), .int ((b.2.length : Int) % 256), .int b.1] ++ b.2.map V.int)) p2 = some (.lst ((pre b.1 b.2).map V.int)) := by
    rw [upd_same]; unfold pre; rw [List.map_append]; rfl
  have hpl := pre_len b.1 b.2
  refine ⟨_, rfl, _, rfl, p2, pre b.1 b.2, rfl, e2, by omega, fun p3 hp3 => ?_⟩
  refine ⟨p2, p3, _, _, rfl, rfl, same_new hp3 _ _ _ e2, upd_same, by rw [List.length_map]; exact small' (by show _ + 2 ≤ _; omega), fun p4 hp4 => ?_⟩
  have s3 := (same_new hp1 (.lst [V.int ((b.2.length : Int) / 256), .int ((b.2.length : Int) % 256), .int b.1])).trans (same_new hp2 (.lst ([V.int ((b.2.length : Int) / 256), .int ((b.2.length : Int) % 256), .int b.1] ++ b.2.map V.int)))
  have s4 := s3.trans (same_new hp3 (.lst [.int (sum (pre b.1 b.2) % 256), .int (two (pre b.1 b.2) % 256)]))
  refine q p4 _ (s4.trans (same_new hp4 _)) (s4.free hp4) ?_
  rw [upd_same]; unfold inside chk; rw [List.map_append]; rfl

end
section
variable {P : Program} {w : World} {K : PySem.W.Frag} {mg : Str → Option Value} {base : Heap} {C0 C1 C2 C3 : Addr}
/-! ### _law_boxed -/
theorem cut_take {xs : List Int} {k : Int} (h : 0 ≤ k) : cutI xs none (some k) = xs.take k.toNat := by
  obtain ⟨j, rfl⟩ : ∃ j : Nat, k = (j : Int) := ⟨k.toNat, by omega⟩
  unfold cutI
  rw [HT.sIx_nat]
  show (xs.drop 0).take (min j xs.length - 0) = _
  rw [List.drop_zero, Nat.sub_zero, Int.toNat_natCast]
  by_cases h : j ≤ xs.length
  · rw [Nat.min_eq_left h]
  · rw [Nat.min_eq_right (by omega), List.take_length, List.take_of_length_le (by omega)]
theorem cut_drop {xs : List Int} {k : Int} (h : 0 ≤ k) : cutI xs (some k) none = xs.drop k.toNat := by
  obtain ⟨j, rfl⟩ : ∃ j : Nat, k = (j : Int) := ⟨k.toNat, by omega⟩
  unfold cutI
  rw [HT.sIx_nat]
  show (xs.drop (min j xs.length)).take (xs.length - min j xs.length) = _
  have e : (xs.drop (min j xs.length)).take (xs.length - min j xs.length) = xs.drop (min j xs.length) := List.take_of_length_le (by rw [List.length_drop]; exact Nat.le_refl _)
  rw [e, Int.toNat_natCast]
  by_cases h : j ≤ xs.length
  · rw [Nat.min_eq_left h]
  · rw [List.drop_eq_nil_of_le (by omega), List.drop_eq_nil_of_le (by omega)]
def spBoxed : Sp := fun vs H Q _ => ∃ (v : V) (many sd : Int) (xs : List Int), vs = [v, .int many] ∧ Rep H v (boxD (sd, xs)) ∧ 1 ≤ many ∧ xs.length ≤ 10000 ∧
  ∀ r vs H', LsAt H r H' ((boxed sd many.toNat xs).map boxD) vs → Q (.ref r) H'
theorem scBoxed : FnScope ["_law_parcel", "_law_many", "_law_rest", "_law_made", "_law_going", "_law_part"] ["_law_parcel", "_law_many"] (defScope sBoxed) := ⟨rfl, rfl, rfl, by decide +kernel, rfl, by decide +kernel, by decide +kernel⟩
theorem ok_boxed {f : Addr} {fd : FuncData} (F : Fun K "_law_boxed" "_law_boxed" sBoxed f fd) (B : Blt K mg) : FnOk P w K mg base (CXs P w) 1 f fd ["_law_parcel", "_law_many"] spBoxed := by
  refine F.okX scBoxed (fun vs H Q E h => ?_) (fun cdv A outer s H vs Q E hr h => ?_)
  · obtain ⟨v, many, sd, xs, rfl, _⟩ := h
    rfl
  obtain ⟨v, many, sd, xs, rfl, hv, hm, hl, q⟩ := h
  obtain ⟨t, l, rfl, ht, hll⟩ := rep_box_inv hv
  have hu := hr.units0
  refine ⟨_, (pss_cons (ps_set (i := 2) scBoxed.nd rfl (Or.inl rfl) (pe_callTy call_list_of rfl B.list PyProof.Rows.boot_list (pa_cons (pe_ix ix_tup (pv 0) pe_int (fun _ _ => rfl)) pa_nil)))
    (pss_cons (ps_set (i := 3) scBoxed.nd rfl (Or.inl rfl) (pe_lst pa_nil))
    (pss_cons (ps_set (i := 4) scBoxed.nd rfl (Or.inl rfl) pe_bl)
    (pss_cons (ps_while passes_def (pt_val (pv 4))
      (pss_cons (ps_set (i := 5) scBoxed.nd rfl (Or.inl rfl) (pe_slice sl_list (pv 2) po_none (po_some (pv 1))))
      (pss_cons (ps_set (i := 2) scBoxed.nd rfl (Or.inl rfl) (pe_slice sl_list (pv 2) (po_some (pv 1)) po_none))
      (pss_cons (ps_set (i := 4) scBoxed.nd rfl (Or.inl rfl) (pe_cmpR (op_neN hu) (pv 2) (pe_lst pa_nil) (nomark _)))
      (pss_one (ps_expr (pe_bm PySem.F.plainAttrs_list PySem.F.slot_list_append PySem.F.type_list_append mt_append (pv 3) (pa_cons (pe_tup (pa_cons (pe_op op_add (pe_op op_mul pe_int (pe_ix ix_tup (pv 0) pe_int (fun _ _ => rfl))) (pe_callTy call_int1 rfl B.int PyProof.Rows.boot_int (pa_cons (pe_not (pv 4)) pa_nil))) (pa_cons (pe_op op_cat (pe_lst (pa_cons (pe_callB call_len_seq rfl B.len PySem.boot_len (pa_cons (pv 3) pa_nil)) pa_nil)) (pv 5)) pa_nil))) pa_nil))))))))
    (pss_one (ps_ret (pv 3))))))), ?_⟩
  refine ⟨_, rfl, t, _, _, _, rfl, rfl, SqT.of ht, rfl, l, _, rfl, .inl (SqL.of hll), fun r0 hr0 => ?_⟩
  refine ⟨(by show 0 ≤ sizeLine; decide), fun m hm0 => ?_⟩
  have s1 := same_new hr0 (.lst (xs.map V.int))
  have l0 := LsAt.new s1 hm0
  refine ⟨fun n σ H2 => ∃ (rs : Addr) (ys : List Int) (go : Bool) (k : Nat) (bs : List (Int × List Int)) (vs : List V) (o5 : Option V), σ = [some (.ref t), some (.int many), some (.ref rs), some (.ref m), some (.bl go), o5] ∧ LsAt H m H2 (bs.map boxD) vs ∧ rs ≠ m ∧ H2 rs = some (.lst (ys.map V.int)) ∧ bs.length = k ∧
      boxed sd many.toNat xs = bs ++ (if go = true then boxedF sd many.toNat (ys.length + 1) k ys else []) ∧ n = (if go = true then ys.length + 1 else 0) ∧ k + n ≤ 10001,
    ⟨_, r0, xs, true, 0, [], [], none, rfl, l0, ne_of_none upd_same hm0, same_new hm0 _ _ _ upd_same, rfl, by rw [if_pos rfl]; rfl, rfl, by rw [if_pos rfl]; omega⟩, ?_⟩
  rintro n σ H2 ⟨rs, ys, go, k, bs, vs, o5, rfl, l2, ne, hrs, hbk, htot, hn, hk⟩
  refine ⟨_, rfl, _, rfl, ?_⟩
  cases go with
  | false =>
    refine iteF ?_
    rw [if_neg Bool.false_ne_true, List.append_nil] at htot
    exact ⟨_, rfl, q m vs H2 (by rw [htot]; exact l2)⟩
  | true =>
    refine iteT ?_
    rw [if_pos rfl] at htot hn
    refine ⟨_, fun _ _ z => z, ?_⟩
    refine ⟨_, rfl, _, rfl, _, rfl, rs, _, rfl, SqL.of hrs, fun p1 hp1 => ?_⟩
    rw [cutV_ints, cut_take (by omega)]
    have t1 := same_new hp1 (.lst ((ys.take many.toNat).map V.int))
    refine ⟨_, rfl, _, rfl, _, rfl, rs, _, rfl, SqL.of (t1 _ _ hrs), fun p2 hp2 => ?_⟩
    rw [cutV_ints, cut_drop (by omega)]
    have t2 := same_new hp2 (.lst ((ys.drop many.toNat).map V.int))
    have e2 : upd (upd H2 p1 (.lst ((ys.take many.toNat).map V.int))) p2 (.lst ((ys.drop many.toNat).map V.int)) p2 = some (.lst ((ys.drop many.toNat).map V.int)) := upd_same
    have e1 : upd (upd H2 p1 (.lst ((ys.take many.toNat).map V.int))) p2 (.lst ((ys.drop many.toNat).map V.int)) p1 = some (.lst ((ys.take many.toNat).map V.int)) := t2 _ _ upd_same
    have l3 := l2.mono (t1.trans t2)
    have ne2 : p2 ≠ m := Ne.symm (ne_of_none (t1 _ _ l2.a_) hp2)
    generalize upd (upd H2 p1 (.lst ((ys.take many.toNat).map V.int))) p2 (.lst ((ys.drop many.toNat).map V.int)) = H3 at e1 e2 l3
    refine ⟨_, rfl, (by show 0 ≤ sizeLine; decide), fun pe hpe => ⟨p2, pe, _, rfl, rfl, SqL.of (same_new hpe _ _ _ e2), SqL.of upd_same, ?_⟩⟩
    have l4 := l3.mono (same_new hpe (.lst []))
    have e1' := same_new hpe (.lst []) _ _ e1
    have e2' := same_new hpe (.lst []) _ _ e2
    have ht4 := l4.s _ _ ht
    generalize upd H3 pe (.lst []) = H4 at l4 e1' e2' ht4
    have hlen := l2.len
    rw [List.length_map, hbk] at hlen
    -- the box
    generalize hgo : (!((ys.drop many.toNat).map V.int).isEmpty) = go'
    change gName 4 (V.bl go') _ _ _
    refine ⟨_, rfl, .inl ⟨rfl, _, SqL.of l4.a_⟩, ?_⟩
    refine ⟨_, rfl, t, _, _, _, rfl, rfl, SqT.of ht4, rfl, _, _, rfl, rfl, .inl ⟨by decide, by decide⟩, _, rfl, _, rfl, .inr ⟨_, rfl, _, _, rfl, rfl, ?_⟩⟩
    have hlm : (vs.length : Int) = (k : Int) := by omega
    refine ⟨_, rfl, m, _, rfl, .inl (SqL.of l4.a_), (by show 1 ≤ sizeLine; decide), fun p3 hp3 => ?_⟩
    have t3 := same_new hp3 (.lst [V.int (vs.length : Nat)])
    refine ⟨_, rfl, p3, p1, _, _, rfl, rfl, upd_same, t3 _ _ e1', by rw [List.length_map, List.length_take]; exact small' (by show 1 + _ ≤ _; omega), fun p4 hp4 => (⟨(by show 2 ≤ sizeLine; decide), fun tt htt => ?_⟩)⟩
    have l5 := l4.mono t3
    have t4 := same_new hp4 (.lst ([V.int (vs.length : Nat)] ++ (ys.take many.toNat).map V.int))
    have l6 := l5.mono t4
    have e4 : upd (upd H4 p3 (.lst [V.int (vs.length : Nat)])) p4 (.lst ([V.int (vs.length : Nat)] ++ (ys.take many.toNat).map V.int)) p4 = some (.lst (((k : Int) :: ys.take many.toNat).map V.int)) := by
      rw [upd_same, hlm]; rfl
    have n4 : Off [m] (upd (upd H4 p3 (.lst [V.int (vs.length : Nat)])) p4 (.lst ([V.int (vs.length : Nat)] ++ (ys.take many.toNat).map V.int))) p4 = some (.lst (((k : Int) :: ys.take many.toNat).map V.int)) := by
      rw [off_get (by simpa using Ne.symm (ne_of_none l5.a_ hp4))]; exact e4
    have e2'' := t4 _ _ (t3 _ _ e2')
    generalize upd (upd H4 p3 (.lst [V.int (vs.length : Nat)])) p4 (.lst ([V.int (vs.length : Nat)] ++ (ys.take many.toNat).map V.int)) = H6 at htt l6 e4 n4 e2''
    have l7 := l6.mono (same_new htt (.tup [.int (2 * sd + (if (!go') = true then 1 else 0)), .ref p4]))
    refine ⟨m, _, _, rfl, rfl, l7.a_, small (by omega), ?_⟩
    have lab : Rep (Off [m] (upd H6 tt (.tup [.int (2 * sd + (if (!go') = true then 1 else 0)), .ref p4]))) (.ref tt) (boxD (2 * sd + (if (!go') = true then 1 else 0), (k : Int) :: ys.take many.toNat)) :=
      rep_tup (off_new1 l6.a_ htt) (.cons (.int _) (.cons (rep_ints (off_same (same_new htt _) _ _ n4)) .nil))
    have l8 := l7.push lab
    have hdl : (ys.drop many.toNat).length ≤ ys.length := by rw [List.length_drop]; omega
    have key : ∃ n' : Nat, n' < n ∧ boxed sd many.toNat xs = (bs ++ [(2 * sd + (if (!go') = true then 1 else 0), (k : Int) :: ys.take many.toNat)]) ++ (if go' = true then boxedF sd many.toNat ((ys.drop many.toNat).length + 1) (k + 1) (ys.drop many.toNat) else []) ∧ n' = (if go' = true then (ys.drop many.toNat).length + 1 else 0) := by
      cases hd : ys.drop many.toNat with
      | nil =>
        rw [hd] at hgo
        have hg : go' = false := by rw [← hgo]; rfl
        subst hg
        refine ⟨0, by omega, ?_, rfl⟩
        rw [htot]
        unfold boxedF
        rw [if_pos hd, if_neg Bool.false_ne_true, List.append_nil]
        rfl
      | cons y r =>
        rw [hd] at hgo
        have hg : go' = true := by rw [← hgo]; rfl
        subst hg
        have hlt : (ys.drop many.toNat).length < ys.length := by
          have h1 : (ys.drop many.toNat).length = r.length + 1 := by rw [hd]; rfl
          rw [List.length_drop] at h1 ⊢; omega
        rw [← hd]
        refine ⟨(ys.drop many.toNat).length + 1, by omega, ?_, by rw [if_pos rfl]⟩
        rw [htot, if_pos rfl]
        have hu1 : boxedF sd many.toNat (ys.length + 1) k ys = (2 * sd, (k : Int) :: ys.take many.toNat) :: boxedF sd many.toNat ys.length (k + 1) (ys.drop many.toNat) := by
          show (if ys.drop many.toNat = [] then _ else _) = _
          rw [if_neg (by rw [hd]; exact List.cons_ne_nil _ _)]
        rw [hu1, boxedF_fuel sd many.toNat (by omega) ys.length ((ys.drop many.toNat).length + 1) (k + 1) (ys.drop many.toNat) hlt (by omega), List.append_assoc]
        show _ = bs ++ ([(2 * sd + 0, (k : Int) :: ys.take many.toNat)] ++ _)
        rw [Int.add_zero]; rfl
    obtain ⟨n', h1, h2, h3⟩ := key
    exact ⟨n', h1, p2, ys.drop many.toNat, go', k + 1, _, _, _, rfl, by rw [List.map_append]; exact l8, ne2, by rw [upd_ne ne2]; exact same_new htt _ _ _ e2'', by rw [List.length_append, hbk]; rfl, h2, h3, by omega⟩
end
end BB

set_option Elab.async false
set_option linter.all false
set_option maxRecDepth 100000
set_option maxHeartbeats 4000000
namespace BB
open PySem L2
section
variable {P : Program} {w : World} {K : PySem.W.Frag} {mg : Str → Option Value} {base : Heap}
theorem no_test {σ : St} {H : Hp} {A B : Hp → Prop} (h : if true = true then A H else B H) : tNoTest σ H (fun b H2 => if b = true then A H2 else B H2) := h
theorem All2.at {α β : Type} {R : α → β → Prop} {xs : List α} {ys : List β} (h : All2 R xs ys) : ∀ {i : Nat} {x : α} {y : β}, xs[i]? = some x → ys[i]? = some y → R x y := by
  induction h with
  | nil => intro i x y h1; cases h1
  | cons r _ ih =>
    intro i x y h1 h2
    cases i with
    | zero => cases h1; cases h2; exact r
    | succ i => exact ih (i := i) h1 h2
theorem boxed_ne {sd : Int} {m : Nat} (hm : 1 ≤ m) {xs : List Int} {b : Int × List Int} (h : b ∈ boxed sd m xs) : b.2 ≠ [] := by
  rw [boxed_eq sd hm] at h
  obtain ⟨c, _, rfl⟩ := List.mem_map.mp h
  exact List.cons_ne_nil _ _
/-- a box is no list that is being made -/
theorem off_box {H : Hp} {D : Addr} {ys : List V} {v : V} {b : Int × List Int} (hD : H D = some (.lst ys)) (hy : ∀ n r, ys ≠ V.int n :: r) (hb : b.2 ≠ []) (r : Rep H v (boxD b)) : Rep (Off [D] H) v (boxD b) := by
  obtain ⟨t, l, rfl, ht, hl⟩ := rep_box_inv r
  have n1 : t ≠ D := fun z => by rw [z, hD] at ht; cases ht
  have n2 : l ≠ D := fun z => by
    rw [z, hD] at hl
    cases e : b.2 with
    | nil => exact hb e
    | cons c q =>
      rw [e] at hl
      exact hy _ _ (HO.lst.inj (Option.some.inj hl))
  exact rep_box (by rw [off_get (by simpa using n1)]; exact ht) (by rw [off_get (by simpa using n2)]; exact hl)
theorem off_boxes {H : Hp} {D : Addr} {ys : List V} (hD : H D = some (.lst ys)) (hy : ∀ n r, ys ≠ V.int n :: r) : ∀ {bs : List (Int × List Int)} {vs : List V}, (∀ b ∈ bs, b.2 ≠ []) → All2 (Rep H) vs (bs.map boxD) → All2 (Rep (Off [D] H)) vs (bs.map boxD) := by
  intro bs
  induction bs with
  | nil => intro vs _ h; cases h; exact .nil
  | cons b r ih =>
    intro vs hb h
    rw [List.map_cons] at h ⊢
    cases h with
    | cons h1 h2 => exact .cons (off_box hD hy (hb b (List.Mem.head _)) h1) (ih (fun c hc => hb c (List.mem_cons_of_mem _ hc)) h2)
theorem no_int {H : Hp} {ds : List D} {vs : List V} (h : All2 (Rep H) vs ds) (hd : ∀ d ∈ ds, ∀ n, d ≠ D.int n) : ∀ n r, vs ≠ V.int n :: r := by
  intro n r e
  subst e
  cases h with
  | cons h1 _ => cases h1; exact hd _ (List.Mem.head _) n rfl
theorem LsAt.from {H H1 H2 : Hp} {e : Addr} {ds : List D} {vs : List V} (s : Same H H1) (h : LsAt H1 e H2 ds vs) : LsAt H e H2 ds vs := ⟨s.trans h.s, s.free h.n, h.a_, h.v⟩
end
end BB

set_option Elab.async false
set_option linter.all false
set_option maxRecDepth 100000
set_option maxHeartbeats 4000000
namespace BB
open PySem L2
section
variable {P : Program} {w : World} {K : PySem.W.Frag} {mg : Str → Option Value} {base : Heap}
/-! ### _law_sent_off: some parcels of senders that differ -/
theorem ifs_by {tc : TT} {t u : TS} {D : Ends} {σ : St} {H : Hp} (J : Bool → Hp → Prop) (h1 : ∀ H1, J true H1 → t D σ H1) (h2 : ∀ H1, J false H1 → u D σ H1) (h : ∀ Q : Bool → Hp → Prop, (∀ b H1, J b H1 → Q b H1) → tc σ H Q) : tIfS tc t u D σ H := by
  refine h _ fun b H1 j => ?_
  cases b with
  | true => rw [if_pos rfl]; exact h1 H1 j
  | false => rw [if_neg Bool.false_ne_true]; exact h2 H1 j
theorem inV_ints (s : Int) : ∀ ss : List Int, inV (.int s) (ss.map V.int) = decide (s ∈ ss)
  | [] => by rw [decide_eq_false (fun h => nomatch h)]; rfl
  | x :: r => by
    show (eqV (.int x) (.int s) || inV (.int s) (r.map V.int)) = _
    rw [inV_ints s r]
    by_cases h : x = s
    · subst h
      rw [decide_eq_true (p := x ∈ x :: r) (List.Mem.head _)]
      have : eqV (.int x) (.int x) = true := by first | exact beq_self_eq_true _ | simp [eqV]
      rw [this, Bool.true_or]
    · have h1 : eqV (.int x) (.int s) = false := by first | exact beq_eq_false_iff_ne.mpr h | simp [eqV, h]
      rw [h1, Bool.false_or]
      by_cases h2 : s ∈ r
      · rw [decide_eq_true h2, decide_eq_true (List.mem_cons_of_mem _ h2)]
      · rw [decide_eq_false h2, decide_eq_false (fun z => (List.mem_cons.mp z).elim (fun y => h y.symm) h2)]
theorem flat_ints (ss : List Int) : (ss.map V.int).all flatV = true := by
  rw [List.all_map]
  exact List.all_eq_true.mpr fun _ _ => rfl
def okSd (p : Int × List Int) : Prop := (0 ≤ p.1 ∧ p.1 ≤ 127) ∧ Belt p.2
def spSentOff : Sp := fun vs H Q _ => ∃ (a : Addr) (so : Int) (ns : List Int), vs = [.ref a, .int so] ∧ H a = some (.lst (ns.map V.int)) ∧ ns.length ≤ 1000 ∧
  ∀ r cs H', Same H H' → H r = none → NewBx H cs → BoxesAt H' r cs → cs ≠ [] → (∀ c ∈ cs, okSd c.p) → (cs.map Bx.b).Nodup → cs.length ≤ 5 → wt (cs.map Bx.p) ≤ max 1 ns.length → Q (.ref r) H'
theorem scSentOff : FnScope ["_law_cells", "_law_sort", "_law_parcels", "_law_cell", "_law_sender"] ["_law_cells", "_law_sort"] (defScope sSentOff) := ⟨rfl, rfl, rfl, by decide +kernel, rfl, by decide +kernel, by decide +kernel⟩
/-- another parcel without numbers -/
theorem more_par {H H3 : Hp} {r t l : Addr} {cs : List Bx} {sd : Int} {n : Nat} (s2 : Same H H3) (hr0 : H r = none) (nb : NewBx H cs) (bx : BoxesAt H3 r cs) (okp : ∀ c ∈ cs, okSd c.p) (hnd : (cs.map Bx.b).Nodup) (hw : wt (cs.map Bx.p) ≤ n) (hs : 0 ≤ sd ∧ sd ≤ 127) (hni : sd ∉ cs.map Bx.b)
    (hl : H3 l = none) (ht : upd H3 l (.lst []) t = none) :
    Same H (upd (upd (upd H3 l (.lst [])) t (.tup [.int sd, .ref l])) r (.lst ((cs.map fun c => V.ref c.t) ++ [.ref t]))) ∧ NewBx H (cs ++ [⟨t, l, sd, []⟩]) ∧
      BoxesAt (upd (upd (upd H3 l (.lst [])) t (.tup [.int sd, .ref l])) r (.lst ((cs.map fun c => V.ref c.t) ++ [.ref t]))) r (cs ++ [⟨t, l, sd, []⟩]) ∧ (∀ c ∈ cs ++ [(⟨t, l, sd, []⟩ : Bx)], okSd c.p) ∧ ((cs ++ [(⟨t, l, sd, []⟩ : Bx)]).map Bx.b).Nodup ∧ wt ((cs ++ [(⟨t, l, sd, []⟩ : Bx)]).map Bx.p) ≤ n + 1 := by
  have u1 := same_new hl (.lst [])
  have u2 := same_new ht (.tup [.int sd, .ref l])
  have nt : H3 t = none := u1.free ht
  have s5 := s2.trans (u1.trans u2)
  have e1 : upd (upd H3 l (.lst [])) t (.tup [.int sd, .ref l]) t = some (.tup [.int sd, .ref l]) := upd_same
  have e2 : upd (upd H3 l (.lst [])) t (.tup [.int sd, .ref l]) l = some (.lst (([] : List Int).map V.int)) := u2 _ _ upd_same
  have bx5 := bx.mono (u1.trans u2)
  refine ⟨same_upd s5 hr0 _, fun d hd => ?_, bx5.snoc (c := ⟨t, l, sd, []⟩) e1 e2 (Ne.symm (ne_of_none bx.at_ hl)) (fun d hd => ne_of_none (bx.each d hd).2 hl), fun d hd => ?_, ?_, ?_⟩
  · rcases List.mem_append.mp hd with z | z
    · exact nb d z
    · have z' : d = ⟨t, l, sd, []⟩ := by simpa using z
      subst z'
      exact ⟨s2.free nt, s2.free hl⟩
  · rcases List.mem_append.mp hd with z | z
    · exact okp d z
    · have z' : d = ⟨t, l, sd, []⟩ := by simpa using z
      subst z'
      exact ⟨hs, fun x hx => nomatch hx⟩
  · rw [List.map_append, List.nodup_append]
    refine ⟨hnd, by simp, fun x hx y hy => ?_⟩
    have ey : y = sd := by simpa using hy
    subst ey
    exact fun z => hni (by rw [← z]; exact hx)
  · rw [List.map_append, wt_append]
    show wt (cs.map Bx.p) + (0 + 1 + 0) ≤ n + 1
    omega
theorem ok_sentOff {f : Addr} {fd : FuncData} (F : Fun K "_law_sent_off" "_law_sent_off" sSentOff f fd) (B : Blt K mg) : FnOk P w K mg base (CXs P w) 1 f fd ["_law_cells", "_law_sort"] spSentOff := by
  refine F.okX scSentOff (fun vs H Q E h => ?_) (fun cdv A outer s H vs Q E hr h => ?_)
  · obtain ⟨a, so, ns, rfl, _⟩ := h
    rfl
  obtain ⟨a, so, ns, rfl, ha, hl, q⟩ := h
  have hu := hr.units0
  refine ⟨_, (pss_cons (ps_set (i := 2) scSentOff.nd rfl (Or.inl rfl) (pe_lst pa_nil))
    (pss_cons (ps_for passes_def rfl (pi_list (pv 0)) (pg_name (i := 3) scSentOff.nd rfl (Or.inl rfl))
      (pss_one (ps_if (PW.pt (pw_or (PW.pt (pw_and (pt_cmpR op_eq (pe_op op_mod (pv 3) pe_int) pe_int (nomark _)) (pw_and1 (pt_cmpR op_lt (pe_callB call_len_seq rfl B.len PySem.boot_len (pa_cons (pv 2) pa_nil)) pe_int (nomark _))))) (pw_or1 (pt_cmpR (op_eqN hu) (pv 2) (pe_lst pa_nil) (nomark _)))))
        (pss_cons (ps_set (i := 4) scSentOff.nd rfl (Or.inl rfl) (pe_op op_mod (pe_op op_add (pe_op op_fdiv (pv 3) pe_int) (pe_callB call_len_seq rfl B.len PySem.boot_len (pa_cons (pv 2) pa_nil))) pe_int))
        (pss_cons (ps_if (pt_cmpR op_eq (pe_op op_mod (pv 1) pe_int) pe_int (nomark _))
          (pss_one (ps_set (i := 4) scSentOff.nd rfl (Or.inl rfl) (pe_ix ix_list (pe_lst (pa_cons pe_int (pa_cons pe_int (pa_cons pe_int (pa_cons pe_int (pa_cons pe_int pa_nil)))))) (pe_callB call_len_seq rfl B.len PySem.boot_len (pa_cons (pv 2) pa_nil)) (fun _ _ => rfl))))
          pss_nil)
        (pss_one (ps_if (pt_cmpR op_notIn_seq (pv 4) (pe_lc [] [] ⟨rfl, by decide +kernel, by decide +kernel, rfl, by decide +kernel, frees_of (sc := defScope sSentOff) rfl (by decide +kernel), rfl, by decide +kernel⟩ rfl (pi_list (pv 2)) (fun _ _ _ _ _ => pf_nil) (fun _ _ _ _ _ => (pe_ix (ix_tupK K rfl) (pv 0) pe_int (fun _ _ => rfl)))) rfl)
          (pss_one (ps_expr (pe_bm PySem.F.plainAttrs_list PySem.F.slot_list_append PySem.F.type_list_append mt_append (pv 2) (pa_cons (pe_tup (pa_cons (pv 4) (pa_cons (pe_lst pa_nil) pa_nil))) pa_nil))))
          pss_nil))))
        (pss_one (ps_expr (pe_bm PySem.F.plainAttrs_list PySem.F.slot_list_append PySem.F.type_list_append mt_append (pe_ix ix_tup (pe_ix ix_list (pv 2) (pe_un un_neg pe_int) (fun _ _ => rfl)) pe_int (fun _ _ => rfl)) (pa_cons (pe_ix ix_list (pe_lst (pa_cons (pe_op op_mod (pe_op op_fdiv (pv 3) pe_int) pe_int) (pa_cons pe_int (pa_cons pe_int (pa_cons pe_int (pa_cons pe_int pa_nil)))))) (pe_op op_mod (pe_op op_fdiv (pv 3) pe_int) pe_int) (fun _ _ => rfl)) pa_nil)))))))
    (pss_cons (ps_if (pt_cmpR (op_eqN hu) (pv 2) (pe_lst pa_nil) (nomark _))
      (pss_one (ps_expr (pe_bm PySem.F.plainAttrs_list PySem.F.slot_list_append PySem.F.type_list_append mt_append (pv 2) (pa_cons (pe_tup (pa_cons pe_int (pa_cons (pe_lst pa_nil) pa_nil))) pa_nil))))
      pss_nil)
    (pss_one (ps_ret (pv 2)))))), ?_⟩
  refine ⟨(by show 0 ≤ sizeLine; decide), fun r hr0 => ?_⟩
  have ha0 := same_new hr0 (.lst []) _ _ ha
  refine ⟨_, rfl, a, rfl, ⟨_, SqL.of ha0⟩, for_list (K := K) (a := a) (xs := ns.map V.int) (fun i σ H2 => ∃ (cs : List Bx) (c m : Option V), σ = [some (.ref a), some (.int so), some (.ref r), c, m] ∧ Same H H2 ∧ NewBx H cs ∧ BoxesAt H2 r cs ∧ (∀ c ∈ cs, okSd c.p) ∧ (cs.map Bx.b).Nodup ∧ cs.length ≤ 5 ∧ wt (cs.map Bx.p) ≤ i ∧ (i = 0 ∨ cs ≠ []))
    ⟨[], none, none, rfl, same_new hr0 _, (fun c hc => nomatch hc), ⟨upd_same, (fun c hc => nomatch hc), by simp⟩, (fun c hc => nomatch hc), by simp, Nat.zero_le _, Nat.le_refl _, .inl rfl⟩ (fun i σ H2 _ ⟨_, _, _, _, s2, _⟩ => SqL.of (s2 _ _ ha)) ?_ ?_⟩
  · rintro i x σ H2 hx ⟨cs, c0, m0, rfl, s2, nb, bx, okp, hnd, hc5, hw, hi0⟩
    obtain ⟨c, hn, rfl⟩ := int_at hx
    have hil : i < ns.length := (List.getElem?_eq_some_iff.mp hn).1
    have hlc : ((cs.map fun c => V.ref c.t).length : Int) = (cs.length : Int) := by rw [List.length_map]
    refine ifs_by (fun b H3 => Same H2 H3 ∧ (b = true → cs.length < 5) ∧ (b = false → cs ≠ [])) ?_ ?_ ?_
    rotate_left
    · -- a number more
      rintro H3 ⟨s3, _, hne⟩
      have hne := hne rfl
      rcases List.eq_nil_or_concat cs with e | ⟨ini, d, e⟩
      · exact absurd e hne
      rw [List.concat_eq_append] at e
      subst e
      obtain ⟨n, hnm, hat⟩ := pickI [c / 5 % 256, 125, 126, 0, 255] (k := c / 3 % 5) (by omega) (by show c / 3 % 5 < 5; omega)
      have okn : 0 ≤ n ∧ n ≤ 255 := by
        simp only [List.mem_cons, List.not_mem_nil, or_false] at hnm
        omega
      have bx3 := bx.mono s3
      have hd := bx3.each d (List.mem_append_right _ (List.Mem.head _))
      have bx3a := bx3.at_
      rw [List.map_append] at bx3a
      refine ⟨_, rfl, _, rfl, r, _, _, _, rfl, rfl, SqL.of bx3a, atI_last _ _, d.t, _, _, _, rfl, rfl, SqT.of hd.1, rfl, .inl ⟨rfl, _, SqL.of hd.2⟩, ?_⟩
      refine ⟨_, rfl, _, _, rfl, rfl, ⟨by decide, by decide⟩, _, _, rfl, rfl, (by show (0 : Int) < 256; decide), (by show 5 ≤ sizeLine; decide), fun p2 hp2 => ?_⟩
      have s4 := s3.trans (same_new hp2 (.lst [V.int (c / 5 % 256), .int 125, .int 126, .int 0, .int 255]))
      have e2 : upd H3 p2 (.lst [V.int (c / 5 % 256), .int 125, .int 126, .int 0, .int 255]) p2 = some (.lst ([c / 5 % 256, 125, 126, 0, 255].map V.int)) := upd_same
      generalize hH4 : upd H3 p2 (.lst [V.int (c / 5 % 256), .int 125, .int 126, .int 0, .int 255]) = H4 at s4 e2
      have bx4 := bx.mono s4
      have hd4 := bx4.each d (List.mem_append_right _ (List.Mem.head _))
      refine ⟨_, rfl, _, _, rfl, rfl, ⟨by decide, by decide⟩, _, _, rfl, rfl, (by show (0 : Int) < 5; decide), p2, _, _, _, rfl, rfl, SqL.of e2, hat, ?_⟩
      have hdw : d.ns.length < wt ((ini ++ [d]).map Bx.p) := wt_mem (b := d.p) (List.mem_map_of_mem (List.mem_append_right _ (List.Mem.head _)))
      have em : d.ns.map V.int ++ [V.int n] = (d.ns ++ [n]).map V.int := by rw [List.map_append]; rfl
      refine ⟨d.l, _, _, rfl, rfl, hd4.2, by rw [List.length_map]; exact small (by omega), ini ++ [{ d with ns := d.ns ++ [n] }], _, _, rfl, same_upd (s2.trans s4) (nb d (List.mem_append_right _ (List.Mem.head _))).2 _, fun d' hd' => ?_, by rw [em]; exact bx4.last, fun d' hd' => ?_, ?_, ?_, ?_, .inr ?_⟩
      · rcases List.mem_append.mp hd' with z | z
        · exact nb d' (List.mem_append_left _ z)
        · have z' : d' = { d with ns := d.ns ++ [n] } := by simpa using z
          subst z'
          exact nb d (List.mem_append_right _ (List.Mem.head _))
      · rcases List.mem_append.mp hd' with z | z
        · exact okp d' (List.mem_append_left _ z)
        · have z' : d' = { d with ns := d.ns ++ [n] } := by simpa using z
          subst z'
          have o := okp d (List.mem_append_right _ (List.Mem.head _))
          exact ⟨o.1, belt_snoc o.2 okn⟩
      · rw [List.map_append] at hnd ⊢; exact hnd
      · rw [List.length_append] at hc5 ⊢; exact hc5
      · rw [List.map_append, wt_append] at hw ⊢
        have h1 : wt (ini.map Bx.p) + (d.ns.length + 1 + 0) ≤ i := hw
        show wt (ini.map Bx.p) + ((d.ns ++ [n]).length + 1 + 0) ≤ i + 1
        rw [List.length_append]
        show wt (ini.map Bx.p) + ((d.ns.length + 1) + 1 + 0) ≤ i + 1
        omega
      · exact fun z => by simp at z
    · -- which
      intro Q hQ
      have last : ∀ pe, H2 pe = none → Q ((cs.map fun c => V.ref c.t).isEmpty) (upd H2 pe (.lst [])) := fun pe hpe => by
        refine hQ _ _ ⟨same_new hpe _, fun z => ?_, fun z => ?_⟩
        · cases cs with
          | nil => show 0 < 5; decide
          | cons d r => cases z
        · cases cs with
          | nil => cases z
          | cons d r => exact List.cons_ne_nil _ _
      refine ⟨_, rfl, _, _, rfl, rfl, (by show (0 : Int) < 4; decide), rfl, _, rfl, ?_⟩
      by_cases h4 : c % 4 = 0
      · refine ifT (decide_eq_true (by show V.int (c % 4) = V.int 0; rw [h4])) ?_
        refine ⟨_, rfl, r, _, rfl, .inl (SqL.of bx.at_), _, _, rfl, rfl, _, rfl, ?_⟩
        rw [hlc]
        by_cases h5 : cs.length < 5
        · refine ifT (decide_eq_true (by omega)) (hQ _ _ ⟨Same.refl _, fun _ => h5, fun z => nomatch z⟩)
        · refine ifF (decide_eq_false (by omega)) ?_
          exact ⟨_, rfl, (by show 0 ≤ sizeLine; decide), fun pe hpe => ⟨r, pe, _, rfl, rfl, SqL.of (same_new hpe _ _ _ bx.at_), SqL.of upd_same, _, rfl, last pe hpe⟩⟩
      · refine ifF (decide_eq_false (fun z => h4 (V.int.inj z))) (ifF rfl ?_)
        exact ⟨_, rfl, (by show 0 ≤ sizeLine; decide), fun pe hpe => ⟨r, pe, _, rfl, rfl, SqL.of (same_new hpe _ _ _ bx.at_), SqL.of upd_same, _, rfl, last pe hpe⟩⟩
    -- a parcel more
    rintro H3 ⟨s3, h5, _⟩
    have h5 := h5 rfl
    have bx3 := bx.mono s3
    refine ⟨_, rfl, _, _, rfl, rfl, ⟨by decide, by decide⟩, _, rfl, r, _, rfl, .inl (SqL.of bx3.at_), _, _, rfl, rfl, _, _, rfl, rfl, (by show (0 : Int) < 128; decide), ?_⟩
    try dsimp only
    refine seq_by (t := tIfS _ _ _) (fun σ H4 => ∃ sd : Int, (0 ≤ sd ∧ sd ≤ 127) ∧ σ = [some (.ref a), some (.int so), some (.ref r), some (.int c), some (.int sd)] ∧ Same H2 H4) ?_ ?_
    rotate_left
    · intro nx hnx
      refine ⟨_, rfl, _, _, rfl, rfl, (by show (0 : Int) < 2; decide), rfl, _, rfl, ?_⟩
      refine ite2 (fun _ => ?_) (fun _ => hnx _ _ ⟨_, ⟨by omega, by omega⟩, rfl, s3⟩)
      refine ⟨(by show 5 ≤ sizeLine; decide), fun p hp => ?_⟩
      have u1 := same_new hp (.lst [V.int 0, .int 127, .int 63, .int 62, .int 1])
      obtain ⟨n, hnm, hat⟩ := pickI [0, 127, 63, 62, 1] (k := (cs.length : Int)) (by omega) (by show (cs.length : Int) < 5; omega)
      have okn : 0 ≤ n ∧ n ≤ 127 := by
        simp only [List.mem_cons, List.not_mem_nil, or_false] at hnm
        omega
      refine ⟨_, rfl, r, _, rfl, .inl (SqL.of (u1 _ _ bx3.at_)), p, _, _, _, rfl, rfl, SqL.of upd_same, by rw [hlc]; exact hat, hnx _ _ ⟨n, okn, rfl, s3.trans u1⟩⟩
    rintro σ4 H4 ⟨sd, hsd, rfl, s4⟩
    have bx4 := bx.mono s4
    refine ifs_by (fun b H5 => Same H2 H5 ∧ (b = true → sd ∉ cs.map Bx.b) ∧ (b = false → sd ∈ cs.map Bx.b)) ?_ ?_ ?_
    · rintro H5 ⟨s5, hni, _⟩
      have hni := hni rfl
      have bx5 := bx.mono s5
      refine ⟨_, rfl, .inl ⟨rfl, _, SqL.of bx5.at_⟩, ?_⟩
      refine ⟨_, rfl, (by show 0 ≤ sizeLine; decide), fun l hl5 => ⟨(by show 2 ≤ sizeLine; decide), fun t ht5 => ?_⟩⟩
      obtain ⟨m1, m2, m3, m4, m5, m6⟩ := more_par (s2.trans s5) hr0 nb bx5 okp hnd hw hsd hni hl5 ht5
      have bx6 := (bx5.mono (same_new hl5 (.lst []))).mono (same_new ht5 (.tup [.int sd, .ref l]))
      refine ⟨r, _, _, rfl, rfl, bx6.at_, by rw [List.length_map]; exact small (by omega), _, _, _, rfl, m1, m2, m3, m4, m5, by rw [List.length_append]; show cs.length + 1 ≤ 5; omega, m6, .inr (by simp)⟩
    · rintro H5 ⟨s5, _, hin⟩
      have hin := hin rfl
      refine ⟨cs, _, _, rfl, s2.trans s5, nb, bx.mono s5, okp, hnd, hc5, by omega, .inr (fun z => ?_)⟩
      subst z; cases hin
    · intro Q hQ
      refine ⟨_, rfl, _, rfl, r, rfl, ⟨_, SqL.of bx4.at_⟩, fun D hD => lc_list (K := K) (a := r) (xs := cs.map fun c => V.ref c.t) (fun j σ H5 => ∃ (o : Option V), σ = [o] ∧ Same H4 H5 ∧ H5 D = some (.lst (((cs.take j).map Bx.b).map V.int))) ⟨none, rfl, same_new hD _, upd_same⟩ (fun j σ H5 _ ⟨_, _, s5, _⟩ => SqL.of (s5 _ _ bx4.at_)) ?_ ?_⟩
      · rintro j x σ H5 hx ⟨o, rfl, s5, h5⟩
        have hj : j < cs.length := by have := (List.getElem?_eq_some_iff.mp hx).1; rw [List.length_map] at this; exact this
        have hd : cs[j]? = some cs[j] := List.getElem?_eq_getElem hj
        have hmem : cs[j] ∈ cs := List.getElem_mem hj
        generalize cs[j] = d at hd hmem
        have ex : x = V.ref d.t := by
          rw [List.getElem?_map, hd] at hx
          exact (Option.some.inj hx).symm
        subst ex
        refine no_test ?_
        rw [if_pos rfl]
        refine ⟨_, rfl, d.t, _, _, _, rfl, rfl, SqT.of (s5 _ _ (bx4.each d hmem).1), rfl, _, h5, ?_, _, rfl, same_upd s5 hD _, ?_⟩
        · rw [List.length_map, List.length_map, List.length_take]; exact small (by omega)
        · rw [upd_same, take_succ hd, List.map_append, List.map_append]; rfl
      · rintro σ5 H5 ⟨o, rfl, s5, h5⟩
        rw [List.length_map, List.take_length] at h5
        refine ⟨D, _, rfl, .inl (SqL.of h5), rfl, flat_ints _, _, rfl, ?_⟩
        have e : (if true = true then !inV (.int sd) ((cs.map Bx.b).map V.int) else inV (.int sd) ((cs.map Bx.b).map V.int)) = !decide (sd ∈ cs.map Bx.b) := by rw [if_pos rfl, inV_ints]
        refine hQ _ _ ⟨s4.trans s5, fun z => ?_, fun z => ?_⟩
        · rw [e] at z
          intro y
          rw [decide_eq_true y] at z; cases z
        · rw [e] at z
          by_cases y : sd ∈ cs.map Bx.b
          · exact y
          · rw [decide_eq_false y] at z; cases z
  · rintro σ H2 ⟨cs, c0, m0, rfl, s2, nb, bx, okp, hnd, hc5, hw, hi0⟩
    rw [List.length_map] at hw hi0
    dsimp only
    refine seq_by (t := tIfS _ _ _) (fun σ H4 => ∃ cs, σ = [some (.ref a), some (.int so), some (.ref r), c0, m0] ∧ Same H H4 ∧ NewBx H cs ∧ BoxesAt H4 r cs ∧ cs ≠ [] ∧ (∀ c ∈ cs, okSd c.p) ∧ (cs.map Bx.b).Nodup ∧ cs.length ≤ 5 ∧ wt (cs.map Bx.p) ≤ max 1 ns.length) ?_ ?_
    · rintro σ4 H4 ⟨cs, rfl, a1, a2, a3, a4, a5, a6, a7, a8⟩
      exact ⟨_, rfl, q r cs H4 a1 hr0 a2 a3 a4 a5 a6 a7 a8⟩
    · intro nx hnx
      refine ⟨_, rfl, (by show 0 ≤ sizeLine; decide), fun pe hpe => ⟨r, pe, _, rfl, rfl, SqL.of (same_new hpe _ _ _ bx.at_), SqL.of upd_same, _, rfl, ?_⟩⟩
      have bx3 := bx.mono (same_new hpe (.lst []))
      have s3 := s2.trans (same_new hpe (.lst []))
      generalize upd H2 pe (.lst []) = H3 at bx3 s3
      cases cs with
      | cons d rr =>
        refine ifF rfl (hnx _ _ ⟨d :: rr, rfl, s3, nb, bx3, List.cons_ne_nil _ _, okp, hnd, hc5, by omega⟩)
      | nil =>
        refine ifT rfl ?_
        refine ⟨_, rfl, .inl ⟨rfl, _, SqL.of bx3.at_⟩, ?_⟩
        refine ⟨(by show 0 ≤ sizeLine; decide), fun l hl5 => ⟨(by show 2 ≤ sizeLine; decide), fun t ht5 => ?_⟩⟩
        obtain ⟨m1, m2, m3, m4, m5, m6⟩ := more_par (sd := 5) (n := 0) s3 hr0 nb bx3 okp hnd (Nat.le_refl _) ⟨by decide, by decide⟩ (fun z => nomatch z) hl5 ht5
        have bx6 := (bx3.mono (same_new hl5 (.lst []))).mono (same_new ht5 (.tup [.int 5, .ref l]))
        refine ⟨r, _, _, rfl, rfl, bx6.at_, by show 0 < sizeLine; decide, hnx _ _ ⟨_, rfl, m1, m2, m3, by simp, m4, m5, by show 1 ≤ 5; decide, by omega⟩⟩
end
end BB

set_option Elab.async false
set_option linter.all false
set_option maxRecDepth 100000
set_option maxHeartbeats 4000000
namespace BB
open PySem L2
section
variable {P : Program} {w : World} {K : PySem.W.Frag} {mg : Str → Option Value} {base : Heap}
/-! ### _law_in_turns -/
def keysTo (rows : List (List Bxx)) (k : Nat) : List (Nat × Nat) := (List.range k).flatMap fun k => (List.range (rowOf rows k).length).map fun j => (j, k)
theorem keysTo_succ (rows : List (List Bxx)) (k : Nat) : keysTo rows (k + 1) = keysTo rows k ++ (List.range (rowOf rows k).length).map fun j => (j, k) := by
  unfold keysTo
  rw [List.range_succ, List.flatMap_append]
  show _ ++ (_ ++ []) = _
  rw [List.append_nil]
def keyD (rows : List (List Bxx)) (p : Nat × Nat) : D := .tup [.int (p.1 : Nat), .int (p.2 : Nat), boxD (boxAt rows p)]
theorem keyD_no (rows : List (List Bxx)) (ks : List (Nat × Nat)) : ∀ d ∈ ks.map (keyD rows), ∀ n, d ≠ D.int n := fun d hd n e => by
  obtain ⟨p, _, rfl⟩ := List.mem_map.mp hd
  cases e
theorem keys_first {rows : List (List Bxx)} (h0 : rows ≠ []) (h1 : ∀ r ∈ rows, r ≠ []) : (keysR rows)[0]? = some (0, 0) := by
  cases rows with
  | nil => exact absurd rfl h0
  | cons r rs =>
    cases r with
    | nil => exact absurd rfl (h1 [] (List.Mem.head _))
    | cons b bs =>
      unfold keysR
      rw [List.length_cons, List.range_succ_eq_map, List.flatMap_cons]
      show (((List.range (bs.length + 1)).map fun j => (j, 0)) ++ _)[0]? = _
      rw [List.range_succ_eq_map]
      rfl
theorem sorted_keys {rows : List (List Bxx)} {p : Array Nat} (hr : rows.length ≤ 1000) (hp : Perm0 (keysR rows).length p) (hu : UpS (fun i => code2 ((keysR rows).getD i (0, 0))) p (keysR rows).length) :
    p.toList.map (fun i => (keysR rows).getD i (0, 0)) = mixKeys rows := by
  refine keys_sorted hr ?_ ?_
  · refine (hp.pm.map _).trans ?_
    have e : (List.range (keysR rows).length).map (fun i => (keysR rows).getD i (0, 0)) = keysR rows := by
      apply List.ext_getElem?
      intro i
      rw [List.getElem?_map]
      by_cases h : i < (keysR rows).length
      · rw [List.getElem?_eq_getElem (by rw [List.length_range]; exact h), List.getElem_range, List.getElem?_eq_getElem h]
        show some ((keysR rows).getD i (0, 0)) = _
        rw [List.getD_eq_getElem?_getD, List.getElem?_eq_getElem h]; rfl
      · rw [List.getElem?_eq_none (by rw [List.length_range]; omega), List.getElem?_eq_none (by omega)]; rfl
    rw [e]
  · rw [List.pairwise_map, List.pairwise_iff_getElem]
    intro i j hi hj hij
    rw [Array.length_toList] at hi hj
    have e1 : ∀ k (hk : k < p.toList.length), p.getD k 0 = p.toList[k] := fun k hk => by
      rw [Array.length_toList] at hk
      rw [Array.getD_eq_getD_getElem?, Array.getElem?_eq_getElem hk, Array.getElem_toList]; rfl
    have := hu i j (Nat.le_of_lt hij) (by rw [← hp.sz]; exact hj)
    rw [e1 i (by rw [Array.length_toList]; exact hi), e1 j (by rw [Array.length_toList]; exact hj)] at this
    exact this
def spTurns : Sp := fun vs H Q _ => ∃ (v : V) (many : Int) (ps : List Bxx), vs = [v, .int many] ∧ Rep H v (boxesD ps) ∧ 1 ≤ many ∧ ps ≠ [] ∧ ps.length ≤ 100 ∧ (∀ p ∈ ps, p.2.length ≤ 1000) ∧ (keysR (rowsP many.toNat ps)).length < 64 ∧
  ∀ r vs H', LsAt H r H' ((mixP many.toNat ps).map boxD) vs → Q (.ref r) H'
theorem scTurns : FnScope ["_law_parcels", "_law_many", "_law_keyed", "_law_k", "_law_row", "_law_j"] ["_law_parcels", "_law_many"] (defScope sInTurns) := ⟨rfl, rfl, rfl, by decide +kernel, rfl, by decide +kernel, by decide +kernel⟩
theorem ok_turns {f g : Addr} {fd gd : FuncData} (F : Fun K "_law_in_turns" "_law_in_turns" sInTurns f fd) (B : Blt K mg) (ms : mg "sorted" = none) (D1 : Def K mg "_law_boxed" sBoxed ["_law_parcel", "_law_many"] g gd) (G1 : FnOk P w K mg base (CXs P w) 1 g gd ["_law_parcel", "_law_many"] spBoxed) :
    FnOk P w K mg base (CXs P w) 2 f fd ["_law_parcels", "_law_many"] spTurns := by
  refine F.okX scTurns (fun vs H Q E h => ?_) (fun cdv A outer s H vs Q E hr h => ?_)
  · obtain ⟨v, many, ps, rfl, _⟩ := h
    rfl
  obtain ⟨v, many, ps, rfl, hv, hm, hne, hpl, hpx, h64, q⟩ := h
  obtain ⟨a, pvs, rfl, ha, hpv⟩ := rep_list_all hv
  have hlen : pvs.length = ps.length := by rw [hpv.length_eq, List.length_map]
  refine ⟨_, (pss_cons (ps_set (i := 2) scTurns.nd rfl (Or.inl rfl) (pe_lst pa_nil))
    (pss_cons (ps_for passes_def rfl (pi_range1 rfl B.range (pa_cons (pe_callB call_len_seq rfl B.len PySem.boot_len (pa_cons (pv 0) pa_nil)) pa_nil)) (pg_name (i := 3) scTurns.nd rfl (Or.inl rfl))
      (pss_cons (ps_set (i := 4) scTurns.nd rfl (Or.inl rfl) (pe_call G1 hr rfl D1.m D1.F.kp D1.b .nil pass_on (pa_cons (pe_ix ix_list (pv 0) (pv 3) (fun _ _ => rfl)) (pa_cons (pv 1) pa_nil))))
      (pss_one (ps_for passes_def rfl (pi_range1 rfl B.range (pa_cons (pe_callB call_len_seq rfl B.len PySem.boot_len (pa_cons (pv 4) pa_nil)) pa_nil)) (pg_name (i := 5) scTurns.nd rfl (Or.inl rfl))
        (pss_one (ps_expr (pe_bm PySem.F.plainAttrs_list PySem.F.slot_list_append PySem.F.type_list_append mt_append (pv 2) (pa_cons (pe_tup (pa_cons (pv 5) (pa_cons (pv 3) (pa_cons (pe_ix ix_list (pv 4) (pv 5) (fun _ _ => rfl)) pa_nil)))) pa_nil))))))))
    (pss_one (ps_ret (pe_lc [] [] ⟨rfl, by decide +kernel, by decide +kernel, rfl, by decide +kernel, frees_of (sc := defScope sInTurns) rfl (by decide +kernel), rfl, by decide +kernel⟩ rfl (pi_list (pe_callB call_sortedT rfl ms PyProof.Rows.boot_sorted (pa_cons (pv 2) pa_nil))) (fun _ _ _ _ _ => pf_nil) (fun _ _ _ _ _ => (pe_ix (ix_tupK K rfl) (pv 0) pe_int (fun _ _ => rfl)))))))), ?_⟩
  obtain ⟨m, rfl⟩ : ∃ m : Nat, many = (m : Int) := ⟨many.toNat, by omega⟩
  have hm1 : 1 ≤ m := by omega
  rw [Int.toNat_natCast] at q h64
  unfold mixP at q
  have hrl : (rowsP m ps).length = ps.length := by unfold rowsP; rw [List.length_map]
  have hrk : ∀ k p, ps[k]? = some p → rowOf (rowsP m ps) k = boxed p.1 m p.2 := fun k p hp => by
    unfold rowOf rowsP
    rw [List.getD_eq_getElem?_getD, List.getElem?_map, hp]; rfl
  have hrne : ∀ r ∈ rowsP m ps, r ≠ [] := fun r hr0 => by
    unfold rowsP at hr0
    obtain ⟨p, _, rfl⟩ := List.mem_map.mp hr0
    intro e
    have h1 := boxed_len (sd := p.1) hm1 p.2
    rw [e] at h1
    have := nb_pos p.2.length m
    have h2 : (([] : List (Int × List Int))).length = 0 := rfl
    omega
  have hr0 : rowsP m ps ≠ [] := by
    intro e
    have := congrArg List.length e
    rw [hrl] at this
    exact hne (List.eq_nil_of_length_eq_zero this)
  generalize hrows : rowsP m ps = rows at q h64 hrl hrk hrne hr0
  have hall : ∀ ks' : List (Nat × Nat), (∃ l, keysR rows = ks' ++ l) → ks'.length < 64 := fun ks' ⟨l, e⟩ => by
    rw [e, List.length_append] at h64; omega
  -- keyed
  refine ⟨(by show 0 ≤ sizeLine; decide), fun kd hkd => ?_⟩
  have l0 := LsAt.new (Same.refl H) hkd
  refine ⟨_, rfl, a, _, rfl, .inl (SqL.of (l0.s _ _ ha)), _, rfl, by omega, by rw [hlen]; omega, for_range (lo := 0) (n := _) (fun k σ H2 => ∃ (o3 o4 o5 : Option V) (vs : List V), σ = [some (.ref a), some (.int (m : Int)), some (.ref kd), o3, o4, o5] ∧ LsAt H kd H2 ((keysTo rows k).map (keyD rows)) vs) ⟨none, none, none, [], rfl, l0⟩ ?_ ?_⟩
  · rintro k σ H2 hk ⟨o3, o4, o5, vs, rfl, la⟩
    have hk : k < ps.length := by rw [← hlen]; omega
    have e0 : (0 : Int) + (k : Int) = (k : Int) := by omega
    rw [e0]
    have hp : ps[k]? = some ps[k] := List.getElem?_eq_getElem hk
    have hmem : ps[k] ∈ ps := List.getElem_mem hk
    generalize ps[k] = p at hp hmem
    have hx : pvs[k]? = some (pvs[k]'(by omega)) := List.getElem?_eq_getElem (by omega)
    generalize pvs[k]'(by omega) = x at hx
    have hrx : Rep H x (boxD p) := hpv.at hx (by rw [List.getElem?_map, hp]; rfl)
    refine ⟨_, rfl, _, rfl, a, _, _, _, rfl, rfl, SqL.of (la.s _ _ ha), atI_nat hx, _, rfl, x, (m : Int), p.1, p.2, rfl, hrx.mono la.s, hm, Nat.le_trans (hpx p hmem) (by decide), fun r bvs H3 lb => ?_⟩
    rw [Int.toNat_natCast, ← hrk k p hp] at lb
    have hne2 : ∀ b ∈ rowOf rows k, b.2 ≠ [] := fun b hb => by rw [hrk k p hp] at hb; exact boxed_ne hm1 hb
    have la3 := la.mono lb.s
    have hbl : bvs.length = (rowOf rows k).length := by rw [lb.len, List.length_map]
    have nr : r ≠ kd := ne_isSome la.a_ lb.n
    have hr3 : Off [kd] H3 r = some (.lst bvs) := by rw [off_get (by simpa using nr)]; exact lb.a_
    have hb3 : All2 (Rep (Off [kd] H3)) bvs ((rowOf rows k).map boxD) := off_boxes la3.a_ (no_int la.v (keyD_no rows _)) hne2 (reps_mono off_sub lb.v)
    have hkk : (keysTo rows k ++ (List.range (rowOf rows k).length).map fun j => (j, k)).length < 64 := by
      rw [← keysTo_succ]
      refine hall _ ⟨(List.range (rows.length - (k + 1))).flatMap fun i => (List.range (rowOf rows (k + 1 + i)).length).map fun j => (j, k + 1 + i), ?_⟩
      have e : rows.length = (k + 1) + (rows.length - (k + 1)) := by omega
      unfold keysR keysTo
      conv => lhs; rw [e, List.range_add, List.flatMap_append, List.flatMap_map]
    refine ⟨_, rfl, r, _, rfl, .inl (SqL.of lb.a_), _, rfl, by omega, by rw [hbl]; rw [List.length_append, List.length_map, List.length_range] at hkk; omega, for_range (lo := 0) (n := _) (fun j σ H4 => ∃ (o5 : Option V) (us : List V), σ = [some (.ref a), some (.int (m : Int)), some (.ref kd), some (.int (k : Int)), some (.ref r), o5] ∧ LsAt H kd H4 ((keysTo rows k ++ (List.range j).map fun j => (j, k)).map (keyD rows)) us ∧ Same (Off [kd] H3) (Off [kd] H4))
      ⟨_, vs, rfl, by rw [List.range_zero, List.map_nil, List.append_nil]; exact la3, Same.refl _⟩ ?_ ?_⟩
    · rintro j σ H4 hj ⟨o5, us, rfl, l4, s4⟩
      have hj : j < bvs.length := by omega
      have e1 : (0 : Int) + (j : Int) = (j : Int) := by omega
      rw [e1]
      have hat : bvs[j]? = some bvs[j] := List.getElem?_eq_getElem hj
      have hjr : j < (rowOf rows k).length := by omega
      have hrj : (rowOf rows k)[j]? = some (boxAt rows (j, k)) := by
        unfold boxAt
        show _ = some ((rowOf rows k).getD j (0, []))
        rw [List.getD_eq_getElem?_getD, List.getElem?_eq_getElem hjr]; rfl
      have hbj := hb3.at hat (by rw [List.getElem?_map, hrj]; rfl)
      generalize bvs[j] = bj at hat hbj
      refine ⟨_, rfl, .inl ⟨rfl, _, SqL.of l4.a_⟩, ?_⟩
      refine ⟨_, rfl, _, rfl, _, rfl, _, rfl, r, _, _, _, rfl, rfl, SqL.of (off_sub _ _ (s4 _ _ hr3)), atI_nat hat, (by show 3 ≤ sizeLine; decide), fun t ht => ?_⟩
      have u1 := same_new ht (.tup [.int (j : Int), .int (k : Int), bj])
      have l5 := l4.mono u1
      have hul : us.length < 64 := by
        have h1 := l4.len
        rw [List.length_map, List.length_append, List.length_map, List.length_range] at h1
        rw [List.length_append, List.length_map, List.length_range] at hkk
        omega
      refine ⟨kd, _, _, rfl, rfl, l5.a_, small (by omega), _, us ++ [.ref t], rfl, ?_, ?_⟩
      · have ek : (keysTo rows k ++ (List.range (j + 1)).map fun j => (j, k)).map (keyD rows) = (keysTo rows k ++ (List.range j).map fun j => (j, k)).map (keyD rows) ++ [keyD rows (j, k)] := by
          rw [List.range_succ, List.map_append (l₁ := List.range j), ← List.append_assoc, List.map_append]; rfl
        rw [ek]
        refine l5.push (d := keyD rows (j, k)) (rep_tup (off_new1 l4.a_ ht) (.cons (.int _) (.cons (.int _) (.cons ?_ .nil))))
        exact hbj.mono (s4.trans (off_same u1))
      · rw [off_upd (by simp)]
        exact s4.trans (off_same u1)
    · rintro σ H4 ⟨o5, us, rfl, l4, s4⟩
      have e2 : ((bvs.length : Int)).toNat = (rowOf rows k).length := by rw [Int.toNat_natCast]; exact hbl
      refine ⟨_, _, _, us, rfl, ?_⟩
      rw [keysTo_succ]
      first
        | (rw [← hbl]; exact l4)
        | (rw [e2] at l4; exact l4)
  rintro σ H2 ⟨o3, o4, o5, vs, rfl, la⟩
  have la : LsAt H kd H2 ((keysR rows).map (keyD rows)) vs := by
    have e2 : ((pvs.length : Int)).toNat = rows.length := by rw [Int.toNat_natCast, hrl]; exact hlen
    have e3 : pvs.length = rows.length := by rw [hrl]; exact hlen
    first
      | (rw [e3] at la; exact la)
      | (rw [e2] at la; exact la)
  have hT : ∀ (i : Nat) v c, vs[i]? = some v → (keysR rows)[i]? = some c → ∃ t u, v = .ref t ∧ H2 t = some (.tup [.int (c.1 : Nat), .int (c.2 : Nat), u]) ∧ Rep H2 u (boxD (boxAt rows c)) := fun i v c h1 h2 => by
    have hz : Rep H2 v (keyD rows c) := ((reps_mono off_sub la.v).at h1 (by rw [List.getElem?_map, h2]; rfl))
    obtain ⟨t, us, rfl, ht, hl, hs⟩ := rep_tup_inv hz
    match us, hl, ht, hs with
    | [v0, v1, v2], _, ht, hs =>
      have e0 := rep_int_inv (hs 0 v0 _ rfl rfl)
      have e1 := rep_int_inv (hs 1 v1 _ rfl rfl)
      subst e0 e1
      exact ⟨t, v2, rfl, ht, hs 2 v2 _ rfl rfl⟩
  have hvl : vs.length = (keysR rows).length := by rw [la.len, List.length_map]
  have hmk : ∀ (i : Nat) c, (keysR rows)[i]? = some c → c.2 < rows.length := fun i c hc => (mem_keys.mp (List.mem_of_getElem? hc)).1
  refine ⟨_, rfl, kd, vs, keysR rows, rfl, SqL.of la.a_, hvl, h64, fun i v c h1 h2 => ?_, fun i c0 c h0 h1 h2 => ?_, keys_nodup rows, fun sl p hsl p1 p2 => ?_⟩
  · obtain ⟨t, u, e, ht, _⟩ := hT i v c h1 h2
    exact ⟨by have := hmk i c h2; omega, t, [u], e, ht⟩
  · rw [keys_first hr0 hrne] at h1
    cases h1
    have hi := (List.getElem?_eq_some_iff.mp h2).1
    have hne0 : c ≠ (0, 0) := fun z => by
      subst z
      have pw := List.pairwise_iff_getElem.mp (keys_nodup rows)
      obtain ⟨h3, e3⟩ := List.getElem?_eq_some_iff.mp (keys_first hr0 hrne)
      obtain ⟨h4, e4⟩ := List.getElem?_eq_some_iff.mp h2
      exact pw 0 i h3 h4 h0 (e3.trans e4.symm)
    obtain ⟨c1, c2⟩ := c
    show 1000 * 0 + 0 < 1000 * c1 + c2
    by_cases z1 : c1 = 0
    · by_cases z2 : c2 = 0
      · subst z1 z2; exact absurd rfl hne0
      · omega
    · omega
  have hsk := sorted_keys (by omega) p1 p2
  have hsl2 : (p.toList.map fun i => vs.getD i V.non).length = (mixKeys rows).length := by rw [← hsk, List.length_map, List.length_map]
  have hS : ∀ (i : Nat) x c, (p.toList.map fun i => vs.getD i V.non)[i]? = some x → (mixKeys rows)[i]? = some c → ∃ t u, x = .ref t ∧ H2 t = some (.tup [.int (c.1 : Nat), .int (c.2 : Nat), u]) ∧ Rep H2 u (boxD (boxAt rows c)) := fun i x c h1 h2 => by
    rw [← hsk, List.getElem?_map] at h2
    rw [List.getElem?_map] at h1
    cases e : p.toList[i]? with
    | none => rw [e] at h1; cases h1
    | some j =>
      rw [e] at h1 h2
      have hj : j < (keysR rows).length := List.mem_range.mp (p1.pm.mem_iff.mp (List.mem_of_getElem? e))
      have hx : vs[j]? = some x := by
        have := Option.some.inj h1
        rw [← this]
        show vs[j]? = some (vs.getD j V.non)
        rw [List.getD_eq_getElem?_getD, List.getElem?_eq_getElem (by omega)]; rfl
      have hc : (keysR rows)[j]? = some c := by
        have := Option.some.inj h2
        rw [← this]
        show (keysR rows)[j]? = some ((keysR rows).getD j (0, 0))
        rw [List.getD_eq_getElem?_getD, List.getElem?_eq_getElem hj]; rfl
      exact hT j x c hx hc
  have s2 := same_new hsl (.lst (p.toList.map fun i => vs.getD i V.non))
  have hsl3 : upd H2 sl (.lst (p.toList.map fun i => vs.getD i V.non)) sl = some (.lst (p.toList.map fun i => vs.getD i V.non)) := upd_same
  generalize upd H2 sl (.lst (p.toList.map fun i => vs.getD i V.non)) = H3 at s2 hsl3
  generalize (p.toList.map fun i => vs.getD i V.non) = xs at hsl3 hS hsl2
  refine ⟨sl, rfl, ⟨_, SqL.of hsl3⟩, fun D hD => lc_list (K := K) (a := sl) (xs := xs) (fun i σ H4 => ∃ (o : Option V) (us : List V), σ = [o] ∧ LsAt H3 D H4 ((((mixKeys rows).take i).map (boxAt rows)).map boxD) us ∧ Same H3 (Off [D] H4)) ⟨none, [], rfl, LsAt.new (Same.refl _) hD, same_off_new hD⟩ (fun i σ H4 _ ⟨_, _, _, l4, _⟩ => SqL.of (l4.s _ _ hsl3)) ?_ ?_⟩
  · rintro i x σ H4 hx ⟨o, us, rfl, l4, s4⟩
    have hi : i < (mixKeys rows).length := by rw [← hsl2]; exact (List.getElem?_eq_some_iff.mp hx).1
    have hc : (mixKeys rows)[i]? = some (mixKeys rows)[i] := List.getElem?_eq_getElem hi
    generalize (mixKeys rows)[i] = c at hc
    obtain ⟨t, u, rfl, ht, hu⟩ := hS i x c hx hc
    refine no_test ?_
    rw [if_pos rfl]
    have hul : us.length < 64 := by
      have h1 := l4.len
      rw [List.length_map, List.length_map, List.length_take] at h1
      have h2 := (mixKeys_perm rows).length_eq
      omega
    refine ⟨_, rfl, t, _, _, _, rfl, rfl, SqT.of (l4.s _ _ (s2 _ _ ht)), rfl, _, l4.a_, small (by omega), _, us ++ [u], rfl, ?_, by rw [off_upd (by simp)]; exact s4⟩
    have e : (((mixKeys rows).take (i + 1)).map (boxAt rows)).map boxD = (((mixKeys rows).take i).map (boxAt rows)).map boxD ++ [boxD (boxAt rows c)] := by
      rw [take_succ hc, List.map_append, List.map_append]; rfl
    rw [e]
    exact l4.push ((hu.mono s2).mono s4)
  · rintro σ H4 ⟨o, us, rfl, l4, s4⟩
    rw [hsl2, List.take_length, mix_boxes] at l4
    exact q D us H4 (l4.from (la.s.trans s2))
end
end BB

set_option Elab.async false
set_option linter.all false
set_option maxRecDepth 100000
set_option maxHeartbeats 4000000
namespace BB
open PySem L2
section
variable {P : Program} {w : World} {K : PySem.W.Frag} {mg : Str → Option Value} {base : Heap} {C3 : Addr}
/-! ### parcels and their boxes: bounds -/
theorem wt_sum : ∀ ps : List Bxx, (ps.map fun p => p.2.length + 1).sum = wt ps
  | [] => rfl
  | p :: r => by
    rw [List.map_cons, List.sum_cons, wt_sum r]; rfl
theorem wt_le {M : Nat} : ∀ {bs : List Bxx}, (∀ b ∈ bs, b.2.length ≤ M) → wt bs ≤ bs.length * (M + 1)
  | [], _ => Nat.zero_le _
  | b :: r, h => by
    have h1 := wt_le (M := M) fun c hc => h c (List.mem_cons_of_mem _ hc)
    have h2 := h b (List.Mem.head _)
    show b.2.length + 1 + wt r ≤ (r.length + 1) * (M + 1)
    rw [Nat.succ_mul]; omega
theorem boxed_ok {sd : Int} {m : Nat} (hm : 1 ≤ m) {xs : List Int} {b : Bxx} (ho : okSd (sd, xs)) (hl : xs.length ≤ 250) (h : b ∈ boxed sd m xs) : okBox b := by
  have hn : nb xs.length m ≤ 251 := Nat.le_trans (nb_len hm) (by omega)
  rw [boxed_eq sd hm] at h
  obtain ⟨c, hc, rfl⟩ := List.mem_map.mp h
  have hc := List.mem_range.mp hc
  obtain ⟨⟨o1, o2⟩, o3⟩ := ho
  refine ⟨?_, ?_⟩
  · show 0 ≤ (if c = nb xs.length m - 1 then 2 * sd + 1 else 2 * sd) ∧ (if c = nb xs.length m - 1 then 2 * sd + 1 else 2 * sd) ≤ 255
    simp only at o1 o2
    split <;> omega
  · intro x hx
    rcases List.mem_cons.mp hx with z | z
    · subst z; omega
    · exact o3 x (List.mem_of_mem_drop (List.mem_of_mem_take z))
theorem mix_facts {m : Nat} {ps : List Bxx} (hm : 1 ≤ m) (hok : ∀ p ∈ ps, okSd p) (hw : wt ps ≤ 63) : (keysR (rowsP m ps)).length < 64 ∧ wt (mixP m ps) ≤ 5000 ∧ ∀ b ∈ mixP m ps, okBox b ∧ b.2.length ≤ 64 := by
  have h1 : (keysR (rowsP m ps)).length < 64 := by
    have := keys_len_le hm ps
    rw [wt_sum] at this; omega
  have h2 : ∀ b ∈ mixP m ps, okBox b ∧ b.2.length ≤ 64 := fun b hb => by
    obtain ⟨r, hr, hbr⟩ := mem_mix hb
    unfold rowsP at hr
    obtain ⟨p, hp, rfl⟩ := List.mem_map.mp hr
    have hl := wt_mem hp
    have hb2 := boxed_each hm hbr
    exact ⟨boxed_ok hm (hok p hp) (by omega) hbr, by omega⟩
  refine ⟨h1, ?_, h2⟩
  have h3 := wt_le (M := 64) fun b hb => (h2 b hb).2
  have h4 : (mixP m ps).length < 64 := by unfold mixP; rw [mix_len]; exact h1
  have h5 : (mixP m ps).length * (64 + 1) ≤ 63 * 65 := Nat.mul_le_mul (by omega) (Nat.le_refl _)
  omega
/-! ### what is handed in: the parcels again -/
end
end BB

set_option Elab.async false
set_option linter.all false
set_option maxRecDepth 100000
set_option maxHeartbeats 4000000
namespace BB
open PySem L2
section
variable {P : Program} {w : World} {K : PySem.W.Frag} {mg : Str → Option Value} {base : Heap}
/-! ### what the laws say of mixed parcels -/
theorem sd_none {β : Type} {s : Int} (g : Bxx → β) : ∀ {ps : List Bxx}, (∀ p ∈ ps, p.1 ≠ s) → (ps.flatMap fun p => if p.1 = s then [g p] else []) = []
  | [], _ => rfl
  | p :: r, h => by
    rw [List.flatMap_cons, if_neg (h p (List.Mem.head _)), List.nil_append]
    exact sd_none g fun q hq => h q (List.mem_cons_of_mem _ hq)
theorem sd_one {β : Type} {p : Bxx} (g : Bxx → β) : ∀ {ps : List Bxx}, (ps.map (·.1)).Nodup → p ∈ ps → (ps.flatMap fun q => if q.1 = p.1 then [g q] else []) = [g p]
  | [], _, h => nomatch h
  | a :: r, hn, h => by
    rw [List.map_cons, List.nodup_cons] at hn
    rw [List.flatMap_cons]
    rcases List.mem_cons.mp h with z | z
    · subst z
      rw [if_pos rfl, sd_none g fun q hq e => hn.1 (List.mem_map.mpr ⟨q, hq, e⟩)]; rfl
    · have ne : a.1 ≠ p.1 := fun e => hn.1 (List.mem_map.mpr ⟨p, z, e.symm⟩)
      rw [if_neg ne, List.nil_append]
      exact sd_one g hn.2 z
theorem lineS_snoc (rows : List (List Bxx)) (sk : Nat × Nat) (xl : List Int) (L : List (Nat × Nat)) (q : Nat × Nat) : lineS rows sk xl (L ++ [q]) = lineS rows sk xl L ++ (if q = sk then xl else boxLine (boxAt rows q)) := by
  unfold lineS
  rw [List.flatMap_append]
  show _ ++ (_ ++ []) = _
  rw [List.append_nil]
theorem boxed_short {sd : Int} {m : Nat} (hm : 1 ≤ m) {xs : List Int} {b : Bxx} (h : b ∈ boxed sd m xs) : b.2.length ≤ m + 1 := by
  rw [boxed_eq sd hm] at h
  obtain ⟨c, _, rfl⟩ := List.mem_map.mp h
  show ((xs.drop (c * m)).take m).length + 1 ≤ m + 1
  rw [List.length_take]; omega
theorem mix_small {m : Nat} {ps : List Bxx} (hm : 1 ≤ m) (h5 : m ≤ 5) (hw : wt ps ≤ 63) : wt (mixP m ps) ≤ 441 ∧ ∀ b ∈ mixP m ps, b.2.length ≤ 6 := by
  have h1 : (keysR (rowsP m ps)).length < 64 := by
    have := keys_len_le hm ps
    rw [wt_sum] at this; omega
  have h2 : ∀ b ∈ mixP m ps, b.2.length ≤ 6 := fun b hb => by
    obtain ⟨r, hr, hbr⟩ := mem_mix hb
    unfold rowsP at hr
    obtain ⟨p, hp, rfl⟩ := List.mem_map.mp hr
    have := boxed_short hm hbr
    omega
  refine ⟨?_, h2⟩
  have h3 := wt_le (M := 6) h2
  have h4 : (mixP m ps).length < 64 := by unfold mixP; rw [mix_len]; exact h1
  have h5 : (mixP m ps).length * (6 + 1) ≤ 63 * 7 := Nat.mul_le_mul (by omega) (Nat.le_refl _)
  omega
theorem bxWs_le : ∀ es : List Ev, bxWs es ≤ evWs es
  | [] => Nat.le_refl _
  | e :: r => by
    have ih := bxWs_le r
    cases e with
    | box l ns s p => show ns.length + 1 + bxWs r ≤ (ns.length + 6) + evWs r; omega
    | _ => show 0 + bxWs r ≤ 4 + evWs r; omega
theorem told_small {most : Int} {ns : List Int} (h : ns.length ≤ 5600) : bxWs (told most ns) ≤ 40000 ∧ (told most ns).length ≤ 40000 := by
  have h1 := bxWs_le (told most ns)
  have h2 := told_sz most ns
  have h3 := told_len most ns
  omega
theorem told_of {most : Int} {rows : List (List Bxx)} {sk : Nat × Nat} {xl : List Int} {xe : Int → List Ev} {L : List (Nat × Nat)} (hx : ∀ st p, isOpn st = false → isOpn (run most st p xl).1 = false ∧ (run most st p xl).2 = xe p) (hb : ∀ q ∈ L, ((boxAt rows q).2.length : Int) ≤ most) : told most (lineS rows sk xl L) = evS rows sk xl xe 0 L := by
  obtain ⟨h1, h2⟩ := told_lineS hx L .rest 0 hb rfl
  unfold told endOf
  rw [h1, h2, if_neg Bool.false_ne_true, List.append_nil]
end
end BB

set_option Elab.async false
set_option linter.all false
set_option maxRecDepth 100000
set_option maxHeartbeats 4000000
namespace BB
open PySem L2
section
variable {P : Program} {w : World} {K : PySem.W.Frag} {mg : Str → Option Value} {base : Heap}
/-! ### one box missing or spoilt -/
theorem read_bad {most : Int} {I : List Int} (h2 : 2 ≤ I.length) (hm : lenOf I ≤ most) (hl : (I.length : Int) = lenOf I + 5) (hc : I.drop (I.length - 2) ≠ chk (I.take (I.length - 2))) {st : Sm} {p : Int} (ho : isOpn st = false) :
    run most st p (126 :: esc I) = (.rest, [.check (p + ((esc I).length : Int))]) := by
  show ((run most (step most st p 126).1 (p + 1) (esc I)).1, (step most st p 126).2 ++ (run most (step most st p 126).1 (p + 1) (esc I)).2) = _
  have e1 : step most st p 126 = (.opn [] false p, cutOf st p) := by unfold step cutOf; rw [if_pos rfl]
  rw [e1, run_runL most _ _ _ (esc_no126 _), isOpn_cut ho]
  have e2 := read_rest most p I [] (p + 1) (by intro z; rw [z] at h2; simp at h2) (by rw [List.nil_append]; exact h2) (by rw [List.nil_append]; exact hm) (by rw [List.nil_append]; exact hl)
  rw [e2, List.nil_append, more_bad p _ h2 hm hl hc]
  have e3 : p + 1 + ((esc I).length : Int) - 1 = p + ((esc I).length : Int) := by omega
  rw [e3]; rfl
theorem bad_last {lab x v most : Int} {ys A : List Int} (hI : inside lab ys = A ++ [x]) (hne : v ≠ x) (hm : (ys.length : Int) ≤ most) {st : Sm} {p : Int} (ho : isOpn st = false) :
    run most st p (126 :: esc (A ++ [v])) = (.rest, [.check (p + ((esc (A ++ [v])).length : Int))]) := by
  have hil := inside_len lab ys
  have hlen : (A ++ [v]).length = (inside lab ys).length := by rw [hI, List.length_append, List.length_append]; rfl
  have hA : A.length + 1 = (inside lab ys).length := by rw [hI, List.length_append]; rfl
  have e1 := lenOf_inside lab ys
  have h2 : lenOf (A ++ [v]) = lenOf (inside lab ys) := by rw [hI, lenOf_prefix (by omega), lenOf_prefix (by omega)]
  refine read_bad (by rw [hlen]; omega) (by rw [h2, e1]; exact hm) (by rw [h2, e1, hlen, hil]; omega) ?_ ho
  have hp := take_pre lab ys
  have hd := drop_pre lab ys
  rw [hlen]
  generalize hn : (inside lab ys).length - 2 = n at hp hd
  rw [hI] at hp hd
  have hA2 : n ≤ A.length := by omega
  have e1 : (A ++ [v]).take n = pre lab ys := by rw [← hp, List.take_append_of_le_length hA2, List.take_append_of_le_length hA2]
  rw [e1, ← hd, List.drop_append_of_le_length hA2, List.drop_append_of_le_length hA2]
  intro z
  exact hne (List.cons.inj (List.append_cancel_left z)).1
def hadOf : Told → List Bxx
  | .parcel s ns _ => [(s, ns)]
  | .lost _ _ => []
def lostOf : Told → List Int
  | .lost s _ => [s]
  | .parcel _ _ _ => []
/-- what the law says is had, at a box -/
def dueOf (ps : List Bxx) (gone : Int) (b : Bxx) : List Bxx := if b.1 % 2 = 1 ∧ b.1 / 2 ≠ gone then (ps.flatMap fun p => if p.1 = b.1 / 2 then [p] else []) else []
section
variable {m k0 c0 : Nat} {ps : List Bxx} {p0 : Bxx}
theorem box_half {q : Nat × Nat} {p : Bxx} (hm : 1 ≤ m) (hp : ps[q.2]? = some p) (hc : q.1 < nb p.2.length m) : (boxAt (rowsP m ps) q).1 / 2 = p.1 ∧ ((boxAt (rowsP m ps) q).1 % 2 = 1 ↔ q.1 + 1 = nb p.2.length m) := by
  have hb1 : (boxAt (rowsP m ps) q).1 = if q.1 + 1 = nb p.2.length m then 2 * p.1 + 1 else 2 * p.1 := congrArg Prod.fst (box_at hm hp hc)
  rw [hb1]
  by_cases h : q.1 + 1 = nb p.2.length m
  · rw [if_pos h]; exact ⟨by omega, fun _ => h, fun _ => by omega⟩
  · rw [if_neg h]; exact ⟨by omega, fun z => by omega, fun z => absurd z h⟩
theorem had_step {q : Nat × Nat} {p : Bxx} (hm : 1 ≤ m) (hnd : (ps.map (·.1)).Nodup) (hp0 : ps[k0]? = some p0) (hp : ps[q.2]? = some p) (hc : q.1 < nb p.2.length m) (st pl : Int) :
    (dlt m k0 c0 ps q st pl).flatMap hadOf = dueOf ps p0.1 (boxAt (rowsP m ps) q) := by
  obtain ⟨h2, ho⟩ := box_half hm hp hc
  unfold dueOf
  rw [h2]
  unfold dlt
  rw [hp]
  show (if q = (c0, k0) then [] else if q.2 = k0 then (if q.1 = c0 + 1 ∧ 0 < c0 then [Told.lost p.1 st] else []) else if q.1 + 1 = nb p.2.length m then [Told.parcel p.1 p.2 pl] else []).flatMap hadOf = _
  by_cases hk : q.2 = k0
  · have e : p = p0 := by rw [hk, hp0] at hp; exact (Option.some.inj hp).symm
    rw [if_neg (c := _ ∧ p.1 ≠ p0.1) (fun z => z.2 (by rw [e])), if_pos hk]
    split
    · rfl
    · split <;> rfl
  · rw [if_neg (c := q = (c0, k0)) (fun z => hk (congrArg Prod.snd z)), if_neg hk]
    have ne : p.1 ≠ p0.1 := fun z => hk (inj_sd hnd hp hp0 z)
    by_cases h : q.1 + 1 = nb p.2.length m
    · rw [if_pos h, if_pos ⟨ho.mpr h, ne⟩]
      exact (sd_one (fun p => p) hnd (List.mem_of_getElem? hp)).symm
    · rw [if_neg h, if_neg (fun z => h (ho.mp z.1))]; rfl
theorem had_all (hm : 1 ≤ m) (hnd : (ps.map (·.1)).Nodup) (hp0 : ps[k0]? = some p0) {xl : List Int} : ∀ (L : List (Nat × Nat)) (pp : Int), (∀ q ∈ L, ∃ p, ps[q.2]? = some p ∧ q.1 < nb p.2.length m) →
    (dltS m k0 c0 ps xl pp L).flatMap hadOf = (L.map (boxAt (rowsP m ps))).flatMap (dueOf ps p0.1)
  | [], _, _ => rfl
  | q :: r, pp, h => by
    obtain ⟨p, hp, hc⟩ := h q (List.Mem.head _)
    have ih := fun pp => had_all hm hnd hp0 (xl := xl) r pp fun x hx => h x (List.mem_cons_of_mem _ hx)
    rw [List.map_cons, List.flatMap_cons]
    by_cases hs : q = (c0, k0)
    · rw [show dltS m k0 c0 ps xl pp (q :: r) = _ from if_pos hs, ih]
      have e := had_step (c0 := c0) hm hnd hp0 hp hc 0 0
      have e2 : dlt m k0 c0 ps q 0 0 = [] := by
        unfold dlt
        rw [hp]
        exact if_pos hs
      rw [← e, e2]; rfl
    · rw [show dltS m k0 c0 ps xl pp (q :: r) = _ from if_neg hs, List.flatMap_append, had_step hm hnd hp0 hp hc, ih]
theorem lost_step {q : Nat × Nat} {p : Bxx} (hp0 : ps[k0]? = some p0) (hp : ps[q.2]? = some p) (st pl : Int) :
    (dlt m k0 c0 ps q st pl).flatMap lostOf = if q = (c0 + 1, k0) ∧ 0 < c0 then [p0.1] else [] := by
  unfold dlt
  rw [hp]
  show (if q = (c0, k0) then [] else if q.2 = k0 then (if q.1 = c0 + 1 ∧ 0 < c0 then [Told.lost p.1 st] else []) else if q.1 + 1 = nb p.2.length m then [Told.parcel p.1 p.2 pl] else []).flatMap lostOf = _
  by_cases hk : q.2 = k0
  · have e : p = p0 := by rw [hk, hp0] at hp; exact (Option.some.inj hp).symm
    by_cases h1 : q = (c0, k0)
    · rw [if_pos h1, if_neg (fun z => by have := congrArg Prod.fst (h1.symm.trans z.1); simp at this)]; rfl
    · rw [if_neg h1, if_pos hk]
      by_cases h2 : q.1 = c0 + 1 ∧ 0 < c0
      · rw [if_pos h2, if_pos ⟨Prod.ext h2.1 hk, h2.2⟩, e]; rfl
      · rw [if_neg h2, if_neg (fun z => h2 ⟨congrArg Prod.fst z.1, z.2⟩)]; rfl
  · rw [if_neg (c := q = (c0, k0)) (fun z => hk (congrArg Prod.snd z)), if_neg hk, if_neg (c := q = (c0 + 1, k0) ∧ 0 < c0) (fun z => hk (congrArg Prod.snd z.1))]
    split <;> rfl
theorem lost_all (hp0 : ps[k0]? = some p0) {xl : List Int} : ∀ (L : List (Nat × Nat)) (pp : Int), (∀ q ∈ L, ∃ p, ps[q.2]? = some p ∧ q.1 < nb p.2.length m) →
    (dltS m k0 c0 ps xl pp L).flatMap lostOf = L.flatMap fun q => if q = (c0 + 1, k0) ∧ 0 < c0 then [p0.1] else []
  | [], _, _ => rfl
  | q :: r, pp, h => by
    obtain ⟨p, hp, hc⟩ := h q (List.Mem.head _)
    have ih := fun pp => lost_all hp0 (xl := xl) r pp fun x hx => h x (List.mem_cons_of_mem _ hx)
    rw [List.flatMap_cons]
    by_cases hs : q = (c0, k0)
    · rw [show dltS m k0 c0 ps xl pp (q :: r) = _ from if_pos hs, ih, if_neg (fun z => by have := congrArg Prod.fst (hs.symm.trans z.1); simp at this)]; rfl
    · rw [show dltS m k0 c0 ps xl pp (q :: r) = _ from if_neg hs, List.flatMap_append, lost_step hp0 hp, ih]
theorem one_mem {a : Nat × Nat} {x : Int} {c : Prop} [Decidable c] : ∀ {L : List (Nat × Nat)}, L.Nodup → (L.flatMap fun q => if q = a ∧ c then [x] else []) = if a ∈ L ∧ c then [x] else []
  | [], _ => by rw [if_neg (fun z => nomatch z.1)]; rfl
  | b :: r, h => by
    rw [List.flatMap_cons, one_mem (List.nodup_cons.mp h).2]
    by_cases hc : c
    · by_cases hb : b = a
      · subst hb
        rw [if_pos ⟨rfl, hc⟩, if_neg (fun z => (List.nodup_cons.mp h).1 z.1), if_pos ⟨List.Mem.head _, hc⟩]; rfl
      · rw [if_neg (c := b = a ∧ c) (fun z => hb z.1), List.nil_append]
        by_cases hr : a ∈ r
        · rw [if_pos ⟨hr, hc⟩, if_pos ⟨List.mem_cons_of_mem _ hr, hc⟩]
        · rw [if_neg (fun z => hr z.1), if_neg (fun z => (List.mem_cons.mp z.1).elim (fun y => hb y.symm) hr)]
    · rw [if_neg (fun z => hc z.2), if_neg (fun z => hc z.2), if_neg (fun z => hc z.2)]; rfl
theorem key_in (hm : 1 ≤ m) (hp0 : ps[k0]? = some p0) (c : Nat) : (c, k0) ∈ mixKeys (rowsP m ps) ↔ c < nb p0.2.length m := by
  have hl : (rowsP m ps).length = ps.length := by unfold rowsP; rw [List.length_map]
  have hk := (List.getElem?_eq_some_iff.mp hp0).1
  rw [mem_mixKeys]
  show k0 < (rowsP m ps).length ∧ c < (rowOf (rowsP m ps) k0).length ↔ _
  rw [row_len hm hp0]
  exact ⟨fun z => z.2, fun z => ⟨by omega, z⟩⟩
theorem keys_ps (hm : 1 ≤ m) : ∀ q ∈ mixKeys (rowsP m ps), ∃ p, ps[q.2]? = some p ∧ q.1 < nb p.2.length m := fun q hq => by
  obtain ⟨pre, post, e⟩ := List.append_of_mem hq
  exact (mix_proper hm pre q post e).2
theorem lost_mix (hm : 1 ≤ m) (hp0 : ps[k0]? = some p0) {xl : List Int} (pp : Int) :
    (dltS m k0 c0 ps xl pp (mixKeys (rowsP m ps))).flatMap lostOf = if c0 + 1 < nb p0.2.length m ∧ 0 < c0 then [p0.1] else [] := by
  rw [lost_all hp0 _ pp (keys_ps hm), one_mem (mixKeys_nodup _)]
  by_cases h : c0 + 1 < nb p0.2.length m ∧ 0 < c0
  · rw [if_pos h, if_pos ⟨(key_in hm hp0 _).mpr h.1, h.2⟩]
  · rw [if_neg h, if_neg (fun z => h ⟨(key_in hm hp0 _).mp z.1, z.2⟩)]
theorem row_last (hm : 1 ≤ m) (hnd : (ps.map (·.1)).Nodup) (hp0 : ps[k0]? = some p0) (hnb : 0 < nb p0.2.length m) :
    ∃ R, ((mixKeys (rowsP m ps)).map (boxAt (rowsP m ps))).filter (fun b => decide (b.1 / 2 = p0.1)) = R ++ [boxAt (rowsP m ps) (nb p0.2.length m - 1, k0)] := by
  have hin := (key_in hm hp0 (nb p0.2.length m - 1)).mpr (by omega)
  obtain ⟨pre, post, e⟩ := List.append_of_mem hin
  have hs := mixKeys_sorted (rowsP m ps)
  have ha := keys_ps (ps := ps) hm
  rw [e] at hs ha ⊢
  refine ⟨(pre.map (boxAt (rowsP m ps))).filter (fun b => decide (b.1 / 2 = p0.1)), ?_⟩
  rw [List.map_append, List.filter_append, List.map_cons]
  have h1 := (box_half (q := (nb p0.2.length m - 1, k0)) hm hp0 (by show nb p0.2.length m - 1 < _; omega)).1
  rw [List.filter_cons_of_pos (by rw [h1]; exact decide_eq_true rfl)]
  congr 2
  rw [List.filter_eq_nil_iff]
  intro b hb
  obtain ⟨q, hq, rfl⟩ := List.mem_map.mp hb
  obtain ⟨p, hp, hc⟩ := ha q (List.mem_append_right _ (List.mem_cons_of_mem _ hq))
  rw [(box_half hm hp hc).1]
  intro z
  have hk := inj_sd hnd hp hp0 (of_decide_eq_true z)
  have hlt := (List.pairwise_cons.mp (List.pairwise_append.mp hs).2.1).1 q hq
  have ep : p = p0 := by rw [hk, hp0] at hp; exact (Option.some.inj hp).symm
  subst ep
  unfold klt at hlt
  simp only at hlt
  omega
end
/-! ### _law_all_but -/
def spAllBut : Sp := fun vs H Q _ => ∃ (v u : V) (gone : Int) (bs ps : List Bxx), vs = [v, u, .int gone] ∧ Rep H v (boxesD bs) ∧ Rep H u (boxesD ps) ∧ bs.length ≤ 100 ∧ ps.length ≤ 100 ∧
  ∀ r us H', LsAt H r H' ((bs.flatMap (dueOf ps gone)).map boxD) us → Q (.ref r) H'
theorem scAllBut : FnScope ["_law_mix", "_law_parcels", "_law_gone", "_law_made", "_law_box", "_law_parcel"] ["_law_mix", "_law_parcels", "_law_gone"] (defScope sAllBut) := ⟨rfl, rfl, rfl, by decide +kernel, rfl, by decide +kernel, by decide +kernel⟩
theorem ok_allBut {f : Addr} {fd : FuncData} (F : Fun K "_law_all_but" "_law_all_but" sAllBut f fd) : FnOk P w K mg base (CXs P w) 1 f fd ["_law_mix", "_law_parcels", "_law_gone"] spAllBut := by
  refine F.okX scAllBut (fun vs H Q E h => ?_) (fun cdv A outer s H vs Q E hr h => ?_)
  · obtain ⟨v, u, gone, bs, ps, rfl, _⟩ := h
    rfl
  obtain ⟨v, u, gone, bs, ps, rfl, rv, ru, hbl, hpl, q⟩ := h
  obtain ⟨mx, mvs, rfl, hmx, hmv⟩ := rep_list_all rv
  obtain ⟨r, pvs, rfl, hr7, hpv⟩ := rep_list_all ru
  have hml : mvs.length = bs.length := by rw [hmv.length_eq, List.length_map]
  have hvl : pvs.length = ps.length := by rw [hpv.length_eq, List.length_map]
  refine ⟨_, (pss_cons (ps_set (i := 3) scAllBut.nd rfl (Or.inl rfl) (pe_lst pa_nil))
    (pss_cons (ps_for passes_def rfl (pi_list (pv 0)) (pg_name (i := 4) scAllBut.nd rfl (Or.inl rfl))
      (pss_one (ps_if (PW.pt (pw_and (pt_cmpR op_eq (pe_op op_mod (pe_ix ix_tup (pv 4) pe_int (fun _ _ => rfl)) pe_int) pe_int (nomark _)) (pw_and1 (pt_cmpR op_ne (pe_op op_fdiv (pe_ix ix_tup (pv 4) pe_int (fun _ _ => rfl)) pe_int) (pv 2) (nomark _)))))
        (pss_one (ps_for passes_def rfl (pi_list (pv 1)) (pg_name (i := 5) scAllBut.nd rfl (Or.inl rfl))
          (pss_one (ps_if (pt_cmpR op_eq (pe_ix ix_tup (pv 5) pe_int (fun _ _ => rfl)) (pe_op op_fdiv (pe_ix ix_tup (pv 4) pe_int (fun _ _ => rfl)) pe_int) (nomark _))
            (pss_one (ps_expr (pe_bm PySem.F.plainAttrs_list PySem.F.slot_list_append PySem.F.type_list_append mt_append (pv 3) (pa_cons (pe_tup (pa_cons (pe_ix ix_tup (pv 5) pe_int (fun _ _ => rfl)) (pa_cons (pe_ix ix_tup (pv 5) pe_int (fun _ _ => rfl)) pa_nil))) pa_nil))))
            pss_nil))))
        pss_nil)))
    (pss_one (ps_ret (pv 3))))), ?_⟩
  refine ⟨(by show 0 ≤ sizeLine; decide), fun du hdu => ?_⟩
  have l0 := LsAt.new (Same.refl H) hdu
  have o0 : Same H (Off [du] (upd H du (.lst []))) := same_off_new hdu
  generalize upd H du (.lst []) = H8 at l0 o0
  try dsimp only
  refine ⟨_, rfl, mx, rfl, ⟨_, SqL.of (l0.s _ _ hmx)⟩, for_list (K := K) (a := mx) (xs := mvs) (fun i σ H9 => ∃ (o3 o8 : Option V) (vs : List V), σ = [some (.ref mx), some (.ref r), some (.int gone), some (.ref du), o3, o8] ∧
      LsAt H du H9 (((bs.take i).flatMap (dueOf ps gone)).map boxD) vs ∧ Same H (Off [du] H9) ∧ vs.length ≤ 100 * i)
    ⟨none, none, [], rfl, l0, o0, Nat.le_refl _⟩ (fun i σ H9 _ ⟨_, _, _, _, l9, _⟩ => SqL.of (l9.s _ _ hmx)) ?_ ?_⟩
  · rintro i x σ H9 hx ⟨o3, o8, vs, rfl, l9, s9, hvs⟩
    have hi : i < bs.length := by rw [← hml]; exact (List.getElem?_eq_some_iff.mp hx).1
    have hb : bs[i]? = some bs[i] := List.getElem?_eq_getElem hi
    generalize bs[i] = b at hb
    have etk : (bs.take (i + 1)).flatMap (dueOf ps gone) = (bs.take i).flatMap (dueOf ps gone) ++ dueOf ps gone b := by
      rw [take_succ hb, List.flatMap_append, List.flatMap_cons, List.flatMap_nil, List.append_nil]
    obtain ⟨t, l, rfl, ht, hl⟩ := rep_box_inv (hmv.at hx (by rw [List.getElem?_map, hb]; rfl))
    have h9 : ∀ {x o}, H x = some o → H9 x = some o := fun e => off_sub _ _ (s9 _ _ e)
    have skip : ¬ (b.1 % 2 = 1 ∧ b.1 / 2 ≠ gone) → ∃ (p3 p8 : Option V) (us : List V), [some (V.ref mx), some (.ref r), some (.int gone), some (.ref du), some (.ref t), o8] = [some (.ref mx), some (.ref r), some (.int gone), some (.ref du), p3, p8] ∧ LsAt H du H9 (((bs.take (i + 1)).flatMap (dueOf ps gone)).map boxD) us ∧ Same H (Off [du] H9) ∧ us.length ≤ 100 * (i + 1) := fun z => by
      refine ⟨_, _, vs, rfl, ?_, s9, by omega⟩
      have e : dueOf ps gone b = [] := if_neg z
      rw [etk, e, List.append_nil]
      exact l9
    refine ⟨_, rfl, t, _, _, _, rfl, rfl, SqT.of (h9 ht), rfl, _, _, rfl, rfl, (by show (0 : Int) < 2; decide), rfl, _, rfl, ?_⟩
    by_cases hodd : b.1 % 2 = 1
    rotate_left
    · refine ifF (decide_eq_false (fun z => hodd (V.int.inj z))) ?_
      exact skip (fun z => hodd z.1)
    refine ifT (decide_eq_true (by show V.int (b.1 % 2) = V.int 1; rw [hodd])) ?_
    refine ⟨_, rfl, t, _, _, _, rfl, rfl, SqT.of (h9 ht), rfl, _, _, rfl, rfl, ⟨by decide, by decide⟩, _, rfl, rfl, _, rfl, ?_⟩
    by_cases hg : b.1 / 2 = gone
    · refine ifF (by rw [show decide (V.int (b.1 / 2) = V.int gone) = true from decide_eq_true (by rw [hg])]; rfl) ?_
      exact skip (fun z => z.2 hg)
    refine ifT (by rw [show decide (V.int (b.1 / 2) = V.int gone) = false from decide_eq_false (fun z => hg (V.int.inj z))]; rfl) ?_
    have edl : dueOf ps gone b = ps.flatMap fun p => if p.1 = b.1 / 2 then [p] else [] := if_pos ⟨hodd, hg⟩
    refine ⟨_, rfl, r, rfl, ⟨_, SqL.of (h9 hr7)⟩, for_list (K := K) (a := r) (xs := pvs) (fun j σ HF => ∃ (o8 : Option V) (us : List V), σ = [some (.ref mx), some (.ref r), some (.int gone), some (.ref du), some (.ref t), o8] ∧
        LsAt H du HF (((bs.take i).flatMap (dueOf ps gone) ++ ((ps.take j).flatMap fun p => if p.1 = b.1 / 2 then [p] else [])).map boxD) us ∧ Same H (Off [du] HF) ∧ us.length ≤ 100 * i + j)
      ⟨_, vs, rfl, by rw [List.take_zero, List.flatMap_nil, List.append_nil]; exact l9, s9, by omega⟩ (fun j σ HF _ ⟨_, _, _, _, sF, _⟩ => SqL.of (off_sub _ _ (sF _ _ hr7))) ?_ ?_⟩
    · rintro j y σ HF hy ⟨o8', us, rfl, lF, sF, hus⟩
      have hj : j < ps.length := by rw [← hvl]; exact (List.getElem?_eq_some_iff.mp hy).1
      have hpj : ps[j]? = some ps[j] := List.getElem?_eq_getElem hj
      generalize ps[j] = pj at hpj
      obtain ⟨tj, lj, rfl, htj, hlj⟩ := rep_box_inv (hpv.at hy (by rw [List.getElem?_map, hpj]; rfl))
      have hF : ∀ {x o}, H x = some o → HF x = some o := fun e => off_sub _ _ (sF _ _ e)
      refine ⟨_, rfl, tj, _, _, _, rfl, rfl, SqT.of (hF htj), rfl, _, rfl, t, _, _, _, rfl, rfl, SqT.of (hF ht), rfl, _, _, rfl, rfl, ⟨by decide, by decide⟩, rfl, _, rfl, ?_⟩
      by_cases hs : pj.1 = b.1 / 2
      · refine ifT (decide_eq_true (by show V.int pj.1 = V.int (b.1 / 2); rw [hs])) ?_
        refine ⟨_, rfl, .inl ⟨rfl, _, SqL.of lF.a_⟩, ?_⟩
        refine ⟨_, rfl, tj, _, _, _, rfl, rfl, SqT.of (hF htj), rfl, _, rfl, tj, _, _, _, rfl, rfl, SqT.of (hF htj), rfl, (by show 2 ≤ sizeLine; decide), fun tn htn => ?_⟩
        have u1 := same_new htn (.tup [.int pj.1, .ref lj])
        have lG := lF.mono u1
        refine ⟨du, _, _, rfl, rfl, lG.a_, small (by omega), ?_⟩
        refine ⟨_, us ++ [.ref tn], rfl, ?_, by rw [off_upd (by simp)]; exact sF.trans (off_same u1), by rw [List.length_append]; show us.length + 1 ≤ _; omega⟩
        rw [take_succ hpj, List.flatMap_append, ← List.append_assoc, List.map_append]
        have e1 : ([pj].flatMap fun p => if p.1 = b.1 / 2 then [p] else []) = [pj] := by
          rw [List.flatMap_cons, if_pos hs]; rfl
        rw [e1]
        exact lG.push (rep_box (off_new1 lF.a_ htn) ((sF.trans (off_same u1)) _ _ hlj))
      · refine ifF (decide_eq_false (fun z => hs (V.int.inj z))) ?_
        refine ⟨_, us, rfl, ?_, sF, by omega⟩
        rw [take_succ hpj, List.flatMap_append]
        have e1 : ([pj].flatMap fun p => if p.1 = b.1 / 2 then [p] else []) = [] := by
          rw [List.flatMap_cons, if_neg hs]; rfl
        rw [e1, List.append_nil]
        exact lF
    · rintro σ HF ⟨o8', us, rfl, lF, sF, hus⟩
      rw [hvl, List.take_length, ← edl, ← etk] at lF
      exact ⟨_, _, us, rfl, lF, sF, by rw [hvl] at hus; omega⟩
  · rintro σ H9 ⟨o3, o8, vs, rfl, l9, s9, hvs⟩
    rw [hml, List.take_length] at l9
    exact ⟨_, rfl, q du vs H9 l9⟩
end
end BB

set_option Elab.async false
set_option linter.all false
set_option maxRecDepth 100000
set_option maxHeartbeats 4000000
namespace BB
open PySem L2
section
variable {P : Program} {w : World} {K : PySem.W.Frag} {mg : Str → Option Value} {base : Heap} {C1 : Addr}
/-! ### the law -/
def spLaw (K : PySem.W.Frag) : Sp := fun vs H Q _ => ∃ (a : Addr) (ns : List Int), vs = [.ref a] ∧ SqL K H a (ns.map V.int) ∧ ns.length ≤ 63 ∧ ∀ H', Q (.bl true) H'
theorem scLaw : FnScope ["_law_script", "_law_parcels", "_law_many", "_law_mix", "_law_spot", "_law_numbers", "_law_k", "_law_inner", "_law_told", "_law_found", "_law_still", "_law_gone", "_law_due", "_law_had", "_law_lost", "_law_one", "_law_row"] ["_law_script"] (defScope sLaw) := ⟨rfl, rfl, rfl, by decide +kernel, rfl, by decide +kernel, by decide +kernel⟩
theorem ixN_last {n : Nat} : ixN (n + 1) (-1) = some n := by
  unfold ixN
  rw [if_neg (by decide), if_pos (by omega)]
  congr 1
  omega
theorem set_lastV (A : List Int) (x v : Int) : ((A ++ [x]).map V.int).set A.length (.int v) = (A ++ [v]).map V.int := by
  rw [List.map_append, List.set_append_right _ _ (by rw [List.length_map]; exact Nat.le_refl _), List.length_map, Nat.sub_self, List.map_append]; rfl
theorem dlt_len (m k0 c0 : Nat) (ps : List Bxx) (q : Nat × Nat) (st pl : Int) : (dlt m k0 c0 ps q st pl).length ≤ 1 := by
  unfold dlt
  split
  · exact Nat.zero_le _
  · split
    · exact Nat.zero_le _
    · split
      · split
        · exact Nat.le_refl _
        · exact Nat.zero_le _
      · split
        · exact Nat.le_refl _
        · exact Nat.zero_le _
theorem dltS_len {m k0 c0 : Nat} {ps : List Bxx} {xl : List Int} : ∀ (L : List (Nat × Nat)) (p : Int), (dltS m k0 c0 ps xl p L).length ≤ L.length
  | [], _ => Nat.le_refl _
  | q :: r, p => by
    by_cases h : q = (c0, k0)
    · rw [show dltS m k0 c0 ps xl p (q :: r) = _ from if_pos h]
      exact Nat.le_trans (dltS_len r _) (Nat.le_succ _)
    · rw [show dltS m k0 c0 ps xl p (q :: r) = _ from if_neg h, List.length_append]
      exact Nat.le_trans (Nat.add_le_add (dlt_len _ _ _ _ _ _ _) (dltS_len r _)) (by rw [Nat.add_comm]; exact Nat.le_refl _)
theorem due_mem {ps : List Bxx} {g : Int} {b c : Bxx} (h : c ∈ dueOf ps g b) : c ∈ ps := by
  unfold dueOf at h
  split at h
  · obtain ⟨p, hp, hc⟩ := List.mem_flatMap.mp h
    split at hc
    · have e : c = p := by simpa using hc
      subst e; exact hp
    · cases hc
  · cases h
theorem ints_depths : ∀ ns : List Int, D.depths (ns.map D.int) ≤ (D.int 0).depth
  | [] => Nat.zero_le _
  | n :: r => Nat.max_le.mpr ⟨Nat.le_refl _, ints_depths r⟩
theorem boxD_depth (b : Bxx) : (boxD b).depth ≤ 20 := by
  have h := ints_depths b.2
  have h0 : (D.int 0).depth ≤ 3 := by decide
  have h1 : (intsD b.2).depth = D.depths (b.2.map D.int) + 1 ∨ (intsD b.2).depth ≤ D.depths (b.2.map D.int) + 3 := by
    first
      | exact .inl rfl
      | exact .inr (Nat.le_refl _)
  show D.depth (.tup [.int b.1, intsD b.2]) ≤ 20
  simp only [D.depth, D.depths] at *
  omega
theorem snoc_inv {α β : Type} {R : α → β → Prop} : ∀ {ds : List β} {vs : List α} {d : β}, All2 R vs (ds ++ [d]) → ∃ vs' z, vs = vs' ++ [z] ∧ R z d
  | [], _, _, .cons h .nil => ⟨[], _, rfl, h⟩
  | _ :: ds, _, _, .cons (a := x) h t => by
    obtain ⟨vs', z, e, r⟩ := snoc_inv (ds := ds) t
    exact ⟨x :: vs', z, by rw [e]; rfl, r⟩
theorem rep_lost_inv {H : Hp} {v : V} {s p : Int} (r : Rep H v (toldD (.lost s p))) : ∃ t, v = .ref t ∧ H t = some (.tup [.str "lost", .int s, .int p]) := by
  obtain ⟨t, vs, rfl, h, hl, hs⟩ := rep_tup_inv r
  obtain ⟨v0, v1, v2, rfl⟩ := len3 hl
  have e0 := rep_str_inv (hs 0 v0 _ rfl rfl)
  have e1 := rep_int_inv (hs 1 v1 _ rfl rfl)
  have e2 := rep_int_inv (hs 2 v2 _ rfl rfl)
  subst e0 e1 e2
  exact ⟨t, rfl, h⟩
theorem rep_par_inv {H : Hp} {v : V} {s p : Int} {ns : List Int} (r : Rep H v (toldD (.parcel s ns p))) : ∃ t l, v = .ref t ∧ H t = some (.tup [.str "parcel", .int s, .ref l, .int p]) ∧ H l = some (.lst (ns.map V.int)) := by
  obtain ⟨t, vs, rfl, h, hl, hs⟩ := rep_tup_inv r
  cases vs with
  | nil => cases hl
  | cons v0 r =>
    obtain ⟨v1, v2, v3, rfl⟩ := len3 (vs := r) (by simpa using hl)
    have e0 := rep_str_inv (hs 0 v0 _ rfl rfl)
    have e1 := rep_int_inv (hs 1 v1 _ rfl rfl)
    obtain ⟨a, e2, ha⟩ := rep_ints_inv (hs 2 v2 _ rfl rfl)
    have e3 := rep_int_inv (hs 3 v3 _ rfl rfl)
    subst e0 e1 e2 e3
    exact ⟨t, a, rfl, h, ha⟩
theorem kpp : decide (V.str "parcel" = V.str "parcel") = true := by decide +kernel
theorem klp : decide (V.str "lost" = V.str "parcel") = false := by decide +kernel
theorem off2_new {H : Hp} {d e t : Addr} {x y o : HO} (h1 : H d = some x) (h2 : H e = some y) (n : H t = none) : Off [d, e] (upd H t o) t = some o := by
  have n1 := ne_isSome h1 n
  have n2 := ne_isSome h2 n
  rw [off_get (by simp [n1, n2]), upd_same]
theorem ok_law {f fO fA fT fI fW fB fU fQ fX fS : Addr} {fd dO dA dT dI dW dB dU dQ dX dS : FuncData} {sB sU sQ : Stmt} {pB pU pQ : List Str} (F : Fun K "law" "law" sLaw f fd) (B : Blt K mg) (SK : SoK K mg)
    (DO : Def K mg "_law_sent_off" sSentOff ["_law_cells", "_law_sort"] fO dO) (GO : FnOk P w K mg base (CXs P w) 1 fO dO ["_law_cells", "_law_sort"] spSentOff)
    (DA : Def K mg "_law_at" sAt ["_law_script", "_law_k"] fA dA) (GA : FnOk P w K mg base (CXs P w) 1 fA dA ["_law_script", "_law_k"] (spAt K))
    (DT : Def K mg "_law_in_turns" sInTurns ["_law_parcels", "_law_many"] fT dT) (GT : FnOk P w K mg base (CXs P w) 2 fT dT ["_law_parcels", "_law_many"] spTurns)
    (DI : Def K mg "_law_inside" sInside ["_law_box"] fI dI) (GI : FnOk P w K mg base (CXs P w) 2 fI dI ["_law_box"] spInside)
    (DW : Def K mg "_law_wire" sWire ["_law_numbers"] fW dW) (GW : FnOk P w K mg base (CXs P w) 1 fW dW ["_law_numbers"] spWire)
    (DB : Def K mg "told_by" sB pB fB dB) (GB : FnOk P w K mg base (CXs P w) 10 fB dB pB (spToldBy C1))
    (DU : Def K mg "unpacked" sU pU fU dU) (GU : FnOk P w K mg base (CXs P w) 6 fU dU pU spUnpacked)
    (DQ : Def K mg "waiting" sQ pQ fQ dQ) (GQ : FnOk P w K mg base (CXs P w) 6 fQ dQ pQ spWaiting)
    (DX : Def K mg "_law_all_but" sAllBut ["_law_mix", "_law_parcels", "_law_gone"] fX dX) (GX : FnOk P w K mg base (CXs P w) 1 fX dX ["_law_mix", "_law_parcels", "_law_gone"] spAllBut)
    (DS : Def K mg "_law_so" sSo ["_law_found", "_law_due"] fS dS) (GS : FnOk P w K mg base (CXs P w) 1 fS dS ["_law_found", "_law_due"] spSo) :
    FnOk P w K mg base (CXs P w) 12 f fd ["_law_script"] (spLaw K) := by
  refine F.okX scLaw (fun vs H Q E h => ?_) (fun cdv A outer s H vs Q E hr h => ?_)
  · obtain ⟨a, ns, rfl, _⟩ := h
    rfl
  obtain ⟨a, ns, rfl, ha, h63, q⟩ := h
  have hr1 : Room 1 _ := hr.mono (by decide)
  have hr2 : Room 2 _ := hr.mono (by decide)
  have hr6 : Room 6 _ := hr.mono (by decide)
  have hr10 : Room 10 _ := hr.mono (by decide)
  have hu := hr.units0
  have hu64 := hr.units
  refine ⟨_, (pss_cons (ps_set (i := 1) scLaw.nd rfl (Or.inl rfl) (pe_call GO hr1 rfl DO.m DO.F.kp DO.b .nil pass_on (pa_cons (pe_slice sl_list (pv 0) (po_some pe_int) (po_some pe_int)) (pa_cons (pe_call GA hr1 rfl DA.m DA.F.kp DA.b .nil pass_on (pa_cons (pv 0) (pa_cons pe_int pa_nil))) pa_nil))))
    (pss_cons (ps_set (i := 2) scLaw.nd rfl (Or.inl rfl) (pe_op op_add pe_int (pe_op op_mod (pe_call GA hr1 rfl DA.m DA.F.kp DA.b .nil pass_on (pa_cons (pv 0) (pa_cons pe_int pa_nil))) pe_int)))
    (pss_cons (ps_set (i := 3) scLaw.nd rfl (Or.inl rfl) (pe_call GT hr2 rfl DT.m DT.F.kp DT.b .nil pass_on (pa_cons (pv 1) (pa_cons (pv 2) pa_nil))))
    (pss_cons (ps_set (i := 4) scLaw.nd rfl (Or.inl rfl) (pe_op op_mod (pe_op op_fdiv (pe_call GA hr1 rfl DA.m DA.F.kp DA.b .nil pass_on (pa_cons (pv 0) (pa_cons pe_int pa_nil))) pe_int) (pe_callB call_len_seq rfl B.len PySem.boot_len (pa_cons (pv 3) pa_nil))))
    (pss_cons (ps_set (i := 5) scLaw.nd rfl (Or.inl rfl) (pe_lst pa_nil))
    (pss_cons (ps_for passes_def rfl (pi_range1 rfl B.range (pa_cons (pe_callB call_len_seq rfl B.len PySem.boot_len (pa_cons (pv 3) pa_nil)) pa_nil)) (pg_name (i := 6) scLaw.nd rfl (Or.inl rfl))
      (pss_cons (ps_set (i := 7) scLaw.nd rfl (Or.inl rfl) (pe_call GI hr2 rfl DI.m DI.F.kp DI.b .nil pass_on (pa_cons (pe_ix ix_list (pv 3) (pv 6) (fun _ _ => rfl)) pa_nil)))
      (pss_cons (ps_if (pt_cmpR op_eq (pv 6) (pv 4) (nomark _))
        (pss_one (ps_asg (pe_op op_mod (pe_op op_add (pe_op op_add (pe_ix ix_list (pv 7) (pe_un un_neg pe_int) (fun _ _ => rfl)) pe_int) (pe_op op_mod (pe_call GA hr1 rfl DA.m DA.F.kp DA.b .nil pass_on (pa_cons (pv 0) (pa_cons pe_int pa_nil))) pe_int)) pe_int) (pg_sub (pv 7) (pe_un un_neg pe_int) set_list)))
        pss_nil)
      (pss_one (ps_if (PW.pt (pw_or (pt_cmpR op_ne (pv 6) (pv 4) (nomark _)) (pw_or1 (pt_cmpR op_eq (pe_op op_mod (pe_op op_fdiv (pe_call GA hr1 rfl DA.m DA.F.kp DA.b .nil pass_on (pa_cons (pv 0) (pa_cons pe_int pa_nil))) pe_int) pe_int) pe_int (nomark _)))))
        (pss_one (ps_set (i := 5) scLaw.nd rfl (Or.inl rfl) (pe_op op_cat (pe_op op_cat (pv 5) (pe_lst (pa_cons pe_int pa_nil))) (pe_call GW hr1 rfl DW.m DW.F.kp DW.b .nil pass_on (pa_cons (pv 7) pa_nil)))))
        pss_nil)))))
    (pss_cons (ps_set (i := 8) scLaw.nd rfl (Or.inl rfl) (pe_call GB hr10 rfl DB.m DB.F.kp DB.b .nil pass_on (pa_cons (pe_lst (pa_cons (pv 5) pa_nil)) (pa_cons pe_int pa_nil))))
    (pss_cons (ps_set (i := 9) scLaw.nd rfl (Or.inl rfl) (pe_call GU hr6 rfl DU.m DU.F.kp DU.b .nil pass_on (pa_cons (pv 8) pa_nil)))
    (pss_cons (ps_set (i := 10) scLaw.nd rfl (Or.inl rfl) (pe_call GQ hr6 rfl DQ.m DQ.F.kp DQ.b .nil pass_on (pa_cons (pv 8) pa_nil)))
    (pss_cons (ps_if (PW.pt (pw_or (pt_not (pt_val (pe_isT B.isi rfl (pv 9) rfl B.list PyProof.Rows.boot_list))) (pw_or1 (pt_not (pt_val (pe_isT B.isi rfl (pv 10) rfl B.list PyProof.Rows.boot_list))))))
      (pss_one (ps_ret pe_bl))
      pss_nil)
    (pss_cons (ps_set (i := 11) scLaw.nd rfl (Or.inr rfl) (pe_op op_fdiv (pe_ix ix_tup (pe_ix ix_list (pv 3) (pv 4) (fun _ _ => rfl)) pe_int (fun _ _ => rfl)) pe_int))
    (pss_cons (ps_set (i := 12) scLaw.nd rfl (Or.inl rfl) (pe_call GX hr1 rfl DX.m DX.F.kp DX.b .nil pass_on (pa_cons (pv 3) (pa_cons (pv 1) (pa_cons (pv 11) pa_nil)))))
    (pss_cons (ps_set (i := 13) scLaw.nd rfl (Or.inl rfl) (pe_lst pa_nil))
    (pss_cons (ps_set (i := 14) scLaw.nd rfl (Or.inl rfl) (pe_lst pa_nil))
    (pss_cons (ps_for passes_def rfl (pi_list (pv 9)) (pg_name (i := 15) scLaw.nd rfl (Or.inl rfl))
      (pss_cons (ps_if (PW.pt (pw_or (pt_not (pt_val (pe_isT B.isi rfl (pv 15) rfl SK.tuple bootTuple))) (pw_or (pt_cmpR op_lt (pe_callB call_len_seq rfl B.len PySem.boot_len (pa_cons (pv 15) pa_nil)) pe_int (nomark _)) (pw_or1 (pt_not (pt_val (pe_isT B.isi rfl (pe_ix ix_tup (pv 15) pe_int (fun _ _ => rfl)) rfl SK.str bootStr)))))))
        (pss_one (ps_ret pe_bl))
        pss_nil)
      (pss_one (ps_if (pt_cmpR op_eq (pe_ix ix_tup (pv 15) pe_int (fun _ _ => rfl)) (pe_str (x := "parcel")) (nomark _))
        (pss_one (ps_expr (pe_bm PySem.F.plainAttrs_list PySem.F.slot_list_append PySem.F.type_list_append mt_append (pv 13) (pa_cons (pe_tup (pa_cons (pe_ix ix_tup (pv 15) pe_int (fun _ _ => rfl)) (pa_cons (pe_ix ix_tup (pv 15) pe_int (fun _ _ => rfl)) pa_nil))) pa_nil))))
        (pss_one (ps_expr (pe_bm PySem.F.plainAttrs_list PySem.F.slot_list_append PySem.F.type_list_append mt_append (pv 14) (pa_cons (pe_ix ix_tup (pv 15) pe_int (fun _ _ => rfl)) pa_nil))))))))
    (pss_cons (ps_setLc (i := 16) ["_law_gone"] [11] ⟨rfl, by decide +kernel, by decide +kernel, rfl, by decide +kernel, frees_of (sc := defScope sLaw) rfl (by decide +kernel), rfl, by decide +kernel⟩ rfl scLaw.nd rfl rfl (pi_list (pv 3)) (fun _ _ _ _ _ => pf_one (pt_cmpR op_eq (pe_op op_fdiv (pe_ix (ix_tupK K rfl) (pv 0) pe_int (fun _ _ => rfl)) pe_int) (pv 1) (nomark _))) (fun _ _ _ _ _ => (pv 0)))
    (pss_cons (ps_if (pt_not (pt_val (pe_call GS hr1 rfl DS.m DS.F.kp DS.b .nil pass_on (pa_cons (pv 13) (pa_cons (pv 12) pa_nil)))))
      (pss_one (ps_ret pe_bl))
      pss_nil)
    (pss_cons (ps_if (pt_cmpR op_eq (pe_ix ix_list (pe_ix ix_tup (pe_ix ix_list (pv 3) (pv 4) (fun _ _ => rfl)) pe_int (fun _ _ => rfl)) pe_int (fun _ _ => rfl)) pe_int (nomark _))
      (pss_one (ps_ret (pe_and (pe_cmpR (op_eqN hu) (pv 14) (pe_lst pa_nil) (nomark _)) (pe_one (pe_call GS hr1 rfl DS.m DS.F.kp DS.b .nil pass_on (pa_cons (pv 10) (pa_cons (pe_lst pa_nil) pa_nil)))))))
      pss_nil)
    (pss_cons (ps_if (pt_cmpR (op_eqB hu64) (pe_ix ix_list (pv 3) (pv 4) (fun _ _ => rfl)) (pe_ix ix_list (pv 16) (pe_un un_neg pe_int) (fun _ _ => rfl)) (nomark _))
      (pss_one (ps_ret (pe_and (pe_cmpR (op_eqN hu) (pv 14) (pe_lst pa_nil) (nomark _)) (pe_one (pe_call GS hr1 rfl DS.m DS.F.kp DS.b .nil pass_on (pa_cons (pv 10) (pa_cons (pe_lst (pa_cons (pv 11) pa_nil)) pa_nil)))))))
      pss_nil)
    (pss_one (ps_ret (pe_and (pe_call GS hr1 rfl DS.m DS.F.kp DS.b .nil pass_on (pa_cons (pv 14) (pa_cons (pe_lst (pa_cons (pv 11) pa_nil)) pa_nil))) (pe_one (pe_call GS hr1 rfl DS.m DS.F.kp DS.b .nil pass_on (pa_cons (pv 10) (pa_cons (pe_lst pa_nil) pa_nil)))))))))))))))))))))))))), ?_⟩
  -- parcels
  refine ⟨_, rfl, _, rfl, _, rfl, a, _, rfl, ha, fun p hp => ?_⟩
  rw [cutV_ints]
  have s0 := same_new hp (.lst ((cutI ns (some 2) (some 40)).map V.int))
  have hcl := cutI_len ns (some 2) (some 40)
  refine ⟨_, rfl, a, ns, 0, rfl, s0.seq ha, p, _, _, rfl, upd_same, by omega, fun r cs H1 s1 nr nb' bx hne okp hnd hc5 hw => ?_⟩
  have s01 := s0.trans s1
  have hw63 : wt (cs.map Bx.p) ≤ 63 := by omega
  have okp' : ∀ p ∈ cs.map Bx.p, okSd p := fun p hp => by obtain ⟨c, hc, rfl⟩ := List.mem_map.mp hp; exact okp c hc
  have hpl : (cs.map Bx.p).length ≤ 5 := by rw [List.length_map]; exact hc5
  have hne' : cs.map Bx.p ≠ [] := fun z => hne (List.map_eq_nil_iff.mp z)
  have hpx : ∀ p ∈ cs.map Bx.p, p.2.length ≤ 63 := fun p hp => by have := wt_mem hp; omega
  have hnd' : ((cs.map Bx.p).map (·.1)).Nodup := by rw [List.map_map]; exact hnd
  have rp1 : Rep H1 (.ref r) (boxesD (cs.map Bx.p)) := bx.rep
  generalize cs.map Bx.p = ps at hw63 okp' hpl hne' hpx rp1 hnd'
  clear bx okp hnd hc5 hw hne nb'
  -- many
  obtain ⟨m, hm, hm5, hme⟩ : ∃ m : Nat, 1 ≤ m ∧ m ≤ 4 ∧ 1 + cell ns 1 % 4 = (m : Int) := by
    have h1 := Int.emod_nonneg (cell ns 1) (b := 4) (by omega)
    have h2 := Int.emod_lt_of_pos (cell ns 1) (b := 4) (by omega)
    exact ⟨(1 + cell ns 1 % 4).toNat, by omega, by omega, by omega⟩
  refine ⟨_, rfl, a, ns, 1, rfl, s01.seq ha, _, _, rfl, rfl, (by show (0 : Int) < 4; decide), _, _, rfl, rfl, ?_⟩
  change gName 2 (V.int (1 + cell ns 1 % 4)) _ _ _
  rw [hme]
  have hm1 : 1 ≤ (m : Int) := by omega
  obtain ⟨f1, f2, f3⟩ := mix_facts hm okp' hw63
  obtain ⟨f4, f5⟩ := mix_small hm (by omega) hw63
  have hpx' : ∀ p ∈ ps, p.2.length ≤ 1000 := fun p hp => by have := hpx p hp; omega
  -- mix
  try dsimp only
  refine ⟨_, rfl, _, rfl, .ref r, (m : Int), ps, rfl, rp1, hm1, hne', by omega, hpx', by rw [Int.toNat_natCast]; exact f1, fun mx mvs H6 l6 => ?_⟩
  rw [Int.toNat_natCast] at l6
  have s06 := s01.trans l6.s
  have rp6 := rp1.mono l6.s
  obtain ⟨mx', mvs', em, hmx6, hmv6⟩ := rep_list_all l6.rep
  cases em
  have rmx6 := l6.rep
  clear rp1 l6
  have keq : mixP m ps = (mixKeys (rowsP m ps)).map (boxAt (rowsP m ps)) := (mix_boxes _).symm
  have hmk : mvs'.length = (mixKeys (rowsP m ps)).length := by rw [hmv6.length_eq, List.length_map, keq, List.length_map]
  have hm64 : (mixKeys (rowsP m ps)).length < 64 := by have := (mixKeys_perm (rowsP m ps)).length_eq; omega
  have hkp := keys_ps (ps := ps) hm
  have hm0 : 0 < (mixKeys (rowsP m ps)).length := by
    cases hps : ps with
    | nil => exact absurd hps hne'
    | cons p0 r0 =>
      have h0 : ps[0]? = some p0 := by rw [hps]; rfl
      have := (key_in hm h0 0).mpr (nb_pos _ _)
      rw [hps] at this
      exact List.length_pos_of_mem this
  have hml : ((mvs'.length : Nat) : Int) = ((mixKeys (rowsP m ps)).length : Int) := by rw [hmk]
  -- spot
  try dsimp only
  refine ⟨_, rfl, a, ns, 1, rfl, s06.seq ha, _, _, rfl, rfl, ⟨by decide, by decide⟩, _, rfl, mx, _, rfl, .inl (SqL.of hmx6), _, _, rfl, rfl, (by show (0 : Int) < ((mvs'.length : Nat) : Int); omega), ?_⟩
  obtain ⟨sp, hsp, hspe⟩ : ∃ sp : Nat, sp < (mixKeys (rowsP m ps)).length ∧ cell ns 1 / 4 % ((mvs'.length : Nat) : Int) = (sp : Int) := by
    have h1 := Int.emod_nonneg (cell ns 1 / 4) (b := ((mvs'.length : Nat) : Int)) (by omega)
    have h2 := Int.emod_lt_of_pos (cell ns 1 / 4) (b := ((mvs'.length : Nat) : Int)) (by omega)
    exact ⟨(cell ns 1 / 4 % ((mvs'.length : Nat) : Int)).toNat, by omega, by omega⟩
  change gName 4 (V.int (cell ns 1 / 4 % ((mvs'.length : Nat) : Int))) _ _ _
  rw [hspe]
  obtain ⟨⟨c0, k0⟩, hq0⟩ : ∃ q, (mixKeys (rowsP m ps))[sp]? = some q := ⟨_, List.getElem?_eq_getElem hsp⟩
  have hq0m := List.mem_of_getElem? hq0
  obtain ⟨p0, hp0, hc0⟩ := hkp _ hq0m
  have hp0 : ps[k0]? = some p0 := hp0
  have hc0 : c0 < nb p0.2.length m := hc0
  have hbmem : ∀ q ∈ mixKeys (rowsP m ps), boxAt (rowsP m ps) q ∈ mixP m ps := fun q hq => by rw [keq]; exact List.mem_map_of_mem hq
  obtain ⟨o1, o2⟩ := f3 _ (hbmem _ hq0m)
  have o3 := f5 _ (hbmem _ hq0m)
  obtain ⟨A0, x0, hI0⟩ : ∃ A x, inside (boxAt (rowsP m ps) (c0, k0)).1 (boxAt (rowsP m ps) (c0, k0)).2 = A ++ [x] := by
    rcases List.eq_nil_or_concat (inside (boxAt (rowsP m ps) (c0, k0)).1 (boxAt (rowsP m ps) (c0, k0)).2) with e | ⟨A, x, e⟩
    · have := inside_len (boxAt (rowsP m ps) (c0, k0)).1 (boxAt (rowsP m ps) (c0, k0)).2
      rw [e] at this
      simp at this
    · exact ⟨A, x, by rw [e, List.concat_eq_append]⟩
  have hbel := inside_belt o1.1 o1.2 (by omega)
  have hx0 : 0 ≤ x0 ∧ x0 ≤ 255 := hbel x0 (by rw [hI0]; exact List.mem_append_right _ (List.Mem.head _))
  have hA0 : A0.length + 1 ≤ 11 := by
    have h1 := inside_len (boxAt (rowsP m ps) (c0, k0)).1 (boxAt (rowsP m ps) (c0, k0)).2
    rw [hI0, List.length_append] at h1
    have h2 : A0.length + 1 = (boxAt (rowsP m ps) (c0, k0)).2.length + 5 := h1
    omega
  obtain ⟨v0, hv0⟩ : ∃ v, v = (x0 + 1 + cell ns 0 % 255) % 256 := ⟨_, rfl⟩
  have hne0 : v0 ≠ x0 := by omega
  have hv0b : 0 ≤ v0 ∧ v0 ≤ 255 := by omega
  have hbad : Belt (A0 ++ [v0]) := belt_snoc (fun x hx => hbel x (by rw [hI0]; exact List.mem_append_left _ hx)) hv0b
  obtain ⟨xl, hxl⟩ : ∃ xl : List Int, xl = if cell ns 0 / 2 % 2 = 1 then 126 :: esc (A0 ++ [v0]) else [] := ⟨_, rfl⟩
  have hxb : Belt xl := by
    rw [hxl]
    split
    · intro x hx
      rcases List.mem_cons.mp hx with z | z
      · subst z; exact ⟨by decide, by decide⟩
      · exact esc_belt hbad x z
    · intro x hx; cases hx
  obtain ⟨xe, hxe1, hxe2⟩ : ∃ xe : Int → List Ev, (∀ st p, isOpn st = false → isOpn (run 255 st p xl).1 = false ∧ (run 255 st p xl).2 = xe p) ∧ ∀ p, ∀ e ∈ xe p, isBox e = false := by
    by_cases hb1 : cell ns 0 / 2 % 2 = 1
    · refine ⟨fun p => [.check (p + ((esc (A0 ++ [v0])).length : Int))], fun st p ho => ?_, fun p e he => ?_⟩
      · rw [hxl, if_pos hb1, bad_last hI0 hne0 (by omega) ho]
        exact ⟨rfl, rfl⟩
      · have he' : e = .check (p + ((esc (A0 ++ [v0])).length : Int)) := by simpa using he
        subst he'; rfl
    · refine ⟨fun _ => [], fun st p ho => ?_, fun p e he => nomatch he⟩
      rw [hxl, if_neg hb1]
      exact ⟨ho, rfl⟩
  -- numbers
  try dsimp only
  refine ⟨(by show 0 ≤ sizeLine; decide), fun nu0 hnu0 => ?_⟩
  try dsimp only
  refine ⟨_, rfl, mx, _, rfl, .inl (SqL.of (same_new hnu0 _ _ _ hmx6)), _, rfl, by omega, by rw [hmk]; omega, for_range (lo := 0) (n := _) (fun i σ H9 => ∃ (o6 o7 : Option V) (nu : Addr), σ = [some (.ref a), some (.ref r), some (.int (m : Int)), some (.ref mx), some (.int (sp : Int)), some (.ref nu), o6, o7, none, none, none, none, none, none, none, none, none] ∧
      Same H6 H9 ∧ H9 nu = some (.lst ((lineS (rowsP m ps) (c0, k0) xl ((mixKeys (rowsP m ps)).take i)).map V.int)) ∧ (lineS (rowsP m ps) (c0, k0) xl ((mixKeys (rowsP m ps)).take i)).length ≤ 23 * i)
    ⟨none, none, nu0, rfl, same_new hnu0 _, upd_same, Nat.le_refl _⟩ ?_ ?_⟩
  · rintro i σ H9 hi ⟨o6, o7, nu, rfl, s9, hnu9, hlen9⟩
    have hi : i < (mixKeys (rowsP m ps)).length := by rw [← hmk]; omega
    have e0 : (0 : Int) + (i : Int) = (i : Int) := by omega
    rw [e0]
    have hq : (mixKeys (rowsP m ps))[i]? = some (mixKeys (rowsP m ps))[i] := List.getElem?_eq_getElem hi
    have hqm : (mixKeys (rowsP m ps))[i] ∈ mixKeys (rowsP m ps) := List.getElem_mem hi
    generalize (mixKeys (rowsP m ps))[i] = qk at hq hqm
    have hx : mvs'[i]? = some (mvs'[i]'(by omega)) := List.getElem?_eq_getElem (by omega)
    generalize mvs'[i]'(by omega) = x at hx
    have hb6 := f5 _ (hbmem _ hqm)
    have hrb : Rep H6 x (boxD (boxAt (rowsP m ps) qk)) := hmv6.at hx (by rw [List.getElem?_map, keq, List.getElem?_map, hq]; rfl)
    have etk : (mixKeys (rowsP m ps)).take (i + 1) = (mixKeys (rowsP m ps)).take i ++ [qk] := take_succ hq
    have hsk : qk = (c0, k0) ↔ i = sp := ⟨fun e => (List.getElem?_inj hi (mixKeys_nodup _)).mp (by rw [hq, hq0, e]), fun e => by subst e; rw [hq] at hq0; exact Option.some.inj hq0⟩
    obtain ⟨I1, hI1⟩ : ∃ I1 : List Int, I1 = if qk = (c0, k0) then A0 ++ [v0] else inside (boxAt (rowsP m ps) qk).1 (boxAt (rowsP m ps) qk).2 := ⟨_, rfl⟩
    have hI1l : I1.length ≤ 11 := by
      rw [hI1]
      split
      · rw [List.length_append]; exact hA0
      · rw [inside_len]; omega
    have hE1 := esc_len I1
    refine ⟨_, rfl, _, rfl, mx, _, _, _, rfl, rfl, SqL.of (s9 _ _ hmx6), atI_nat hx, x, _, rfl, hrb.mono s9, by omega, fun ri HD sD nri hri => ?_⟩
    try dsimp only
    refine seq_by (t := tIfS _ _ _) (fun σ HE => σ = [some (.ref a), some (.ref r), some (.int (m : Int)), some (.ref mx), some (.int (sp : Int)), some (.ref nu), some (.int (i : Int)), some (.ref ri), none, none, none, none, none, none, none, none, none] ∧ Same H9 HE ∧ HE ri = some (.lst (I1.map V.int))) ?_ ?_
    rotate_left
    · intro nx hnx
      refine ⟨_, rfl, _, rfl, rfl, _, rfl, ?_⟩
      by_cases hs : i = sp
      · refine ifT (decide_eq_true (by show V.int (i : Int) = V.int (sp : Int); rw [hs])) ?_
        have hqs := hsk.mpr hs
        rw [hqs, hI0] at hri
        refine ⟨_, rfl, _, rfl, ri, _, _, _, rfl, rfl, SqL.of hri, (by rw [List.map_append]; exact atI_last _ _), _, _, rfl, rfl, _, rfl, a, ns, 0, rfl, (s06.trans (s9.trans sD)).seq ha, _, _, rfl, rfl, (by show (0 : Int) < 255; decide), _, _, rfl, rfl, _, _, rfl, rfl, (by show (0 : Int) < 256; decide), ?_⟩
        refine ⟨_, rfl, _, rfl, ri, _, _, _, rfl, rfl, hri, (by rw [List.length_map, List.length_append]; exact ixN_last), hnx _ _ ⟨rfl, same_upd sD nri _, ?_⟩⟩
        rw [upd_same, hI1, if_pos hqs, hv0]
        congr 2
        exact set_lastV A0 x0 _
      · refine ifF (decide_eq_false (fun z => hs (by have := V.int.inj z; omega))) (hnx _ _ ⟨rfl, sD, ?_⟩)
        rw [hI1, if_neg (fun z => hs (hsk.mp z))]; exact hri
    rintro σE HE ⟨rfl, sE, hriE⟩
    have hnuE := sE _ _ hnu9
    try dsimp only
    refine ifs_by (fun b H1 => H1 = HE ∧ (b = true → (if qk = (c0, k0) then xl else boxLine (boxAt (rowsP m ps) qk)) = 126 :: esc I1) ∧ (b = false → (if qk = (c0, k0) then xl else boxLine (boxAt (rowsP m ps) qk)) = [])) ?_ ?_ ?_
    · rintro H1 ⟨rfl, hpc, _⟩
      have hpc := hpc rfl
      refine ⟨_, rfl, (by show 1 ≤ sizeLine; decide), fun p1 hp1 => ?_⟩
      have u1 := same_new hp1 (.lst [.int 126])
      refine ⟨nu, p1, _, _, rfl, rfl, u1 _ _ hnuE, upd_same, by rw [List.length_map]; exact small' (by show _ + 1 ≤ _; omega), fun p2 hp2 => ?_⟩
      generalize hln : lineS (rowsP m ps) (c0, k0) xl ((mixKeys (rowsP m ps)).take i) = li at hnuE hlen9 hp2
      have u2 := u1.trans (same_new hp2 (.lst (li.map V.int ++ [.int 126])))
      have e4 : upd (upd H1 p1 (.lst [.int 126])) p2 (.lst (li.map V.int ++ [.int 126])) p2 = some (.lst (li.map V.int ++ [.int 126])) := upd_same
      generalize upd (upd H1 p1 (.lst [.int 126])) p2 (.lst (li.map V.int ++ [.int 126])) = H4 at u2 e4
      refine ⟨_, rfl, ri, _, rfl, u2 _ _ hriE, by omega, fun p4 HG sG nG eG => ?_⟩
      refine ⟨p2, p4, _, _, rfl, rfl, sG _ _ e4, eG, by rw [List.length_append, List.length_map, List.length_map]; exact small' (by show _ + 1 + _ ≤ _; omega), fun p5 hp5 => ?_⟩
      refine ⟨_, _, p5, rfl, s9.trans (sE.trans (u2.trans (sG.trans (same_new hp5 _)))), ?_, ?_⟩
      · rw [upd_same, etk, lineS_snoc, hln, hpc, List.map_append, List.append_assoc]; rfl
      · rw [etk, lineS_snoc, hln, hpc, List.length_append]
        show _ + ((esc I1).length + 1) ≤ _
        omega
    · rintro H1 ⟨rfl, _, hpc⟩
      have hpc := hpc rfl
      refine ⟨_, _, nu, rfl, s9.trans sE, ?_, ?_⟩
      · rw [etk, lineS_snoc, hpc, List.append_nil]; exact hnuE
      · rw [etk, lineS_snoc, hpc, List.append_nil]; omega
    · intro Q hQ
      refine ⟨_, rfl, _, rfl, rfl, _, rfl, ?_⟩
      by_cases hs : i = sp
      rotate_left
      · have nq : ¬ qk = (c0, k0) := fun z => hs (hsk.mp z)
        refine ifT (by rw [show decide (V.int (i : Int) = V.int (sp : Int)) = false from decide_eq_false (fun z => hs (by have := V.int.inj z; omega))]; rfl) (hQ _ _ ⟨rfl, fun _ => ?_, fun z => nomatch z⟩)
        rw [if_neg nq, hI1, if_neg nq]; rfl
      · have hqs := hsk.mpr hs
        refine ifF (by rw [show decide (V.int (i : Int) = V.int (sp : Int)) = true from decide_eq_true (by rw [hs])]; rfl) ?_
        refine ⟨_, rfl, a, ns, 0, rfl, (s06.trans (s9.trans sE)).seq ha, _, _, rfl, rfl, ⟨by decide, by decide⟩, _, _, rfl, rfl, (by show (0 : Int) < 2; decide), rfl, _, rfl, hQ _ _ ⟨rfl, fun z => ?_, fun z => ?_⟩⟩
        · have h1 : cell ns 0 / 2 % 2 = 1 := V.int.inj (of_decide_eq_true z)
          rw [if_pos hqs, hxl, if_pos h1, hI1, if_pos hqs]
        · have h1 : ¬ cell ns 0 / 2 % 2 = 1 := fun y => by rw [show decide (V.int (cell ns 0 / 2 % 2) = V.int 1) = true from decide_eq_true (by rw [y])] at z; cases z
          rw [if_pos hqs, hxl, if_neg h1]
  rintro σ9 H9 ⟨o6, o7, nu, rfl, s9, hnu9, hlen9⟩
  rw [hmk, Int.toNat_natCast, List.take_length] at hnu9 hlen9
  -- what is told
  have hbl : ∀ q ∈ mixKeys (rowsP m ps), ((boxAt (rowsP m ps) q).2.length : Int) ≤ 255 := fun q hq => by have := f5 _ (hbmem q hq); omega
  have etold : told 255 (lineS (rowsP m ps) (c0, k0) xl (mixKeys (rowsP m ps))) = evS (rowsP m ps) (c0, k0) xl xe 0 (mixKeys (rowsP m ps)) := told_of hxe1 hbl
  obtain ⟨un, uk⟩ := unpack_mix (k0 := k0) (c0 := c0) (xl := xl) (xe := xe) hm hnd' (fun p hp => by rw [hp0] at hp; cases hp; exact hc0) hxe2
  rw [← etold] at un uk
  rw [hp0] at uk
  have uk : (Hs.nil.run (told 255 (lineS (rowsP m ps) (c0, k0) xl (mixKeys (rowsP m ps))))).ks = if 0 < c0 ∧ c0 + 1 = nb p0.2.length m then [p0.1] else [] := uk
  have hgood : good (lineS (rowsP m ps) (c0, k0) xl (mixKeys (rowsP m ps))) = true := by
    refine good_of_belt fun x hx => ?_
    obtain ⟨q, hq, hx⟩ := List.mem_flatMap.mp hx
    by_cases hs : q = (c0, k0)
    · rw [if_pos hs] at hx; exact hxb x hx
    · rw [if_neg hs] at hx
      obtain ⟨g1, g2⟩ := f3 _ (hbmem q hq)
      rcases List.mem_cons.mp hx with z | z
      · subst z; exact ⟨by decide, by decide⟩
      · exact esc_belt (inside_belt g1.1 g1.2 (by omega)) x z
  have hhad := had_all (c0 := c0) (xl := xl) hm hnd' hp0 (mixKeys (rowsP m ps)) 0 hkp
  have hlst := lost_mix (c0 := c0) (xl := xl) hm hp0 0
  have hTl := dltS_len (m := m) (k0 := k0) (c0 := c0) (ps := ps) (xl := xl) (mixKeys (rowsP m ps)) 0
  rw [← keq] at hhad
  obtain ⟨b1, b2⟩ := told_small (most := 255) (ns := lineS (rowsP m ps) (c0, k0) xl (mixKeys (rowsP m ps))) (by omega)
  generalize lineS (rowsP m ps) (c0, k0) xl (mixKeys (rowsP m ps)) = li at etold un uk hgood b1 b2 hnu9 hlen9
  generalize dltS m k0 c0 ps xl 0 (mixKeys (rowsP m ps)) = T at un hhad hlst hTl
  try dsimp only
  refine ⟨_, rfl, (by show 1 ≤ sizeLine; decide), fun lp hlp => ?_⟩
  have u1 := same_new hlp (.lst [.ref nu])
  have hfl : [li].flatten = li := by simp
  refine ⟨.ref lp, [li], 255, rfl, rep_lst upd_same (.cons (rep_ints (u1 _ _ hnu9)) .nil), by rw [hfl]; omega, (by show 1 ≤ 50000; decide), fun _ tv HT sT rT => ?_, fun hg => by rw [hfl, hgood] at hg; cases hg⟩
  rw [hfl] at rT
  have s6T := s9.trans (u1.trans sT)
  try dsimp only
  refine ⟨_, rfl, tv, _, rfl, rT, b1, b2, fun fv HG sG rG => ?_⟩
  rw [un] at rG
  have hkl : (Hs.nil.run (told 255 li)).ks.length < 64 := by
    rw [uk]
    split
    · show 1 < 64
      decide
    · show 0 < 64
      decide
  try dsimp only
  refine ⟨_, rfl, tv, _, rfl, rT.mono sG, b1, b2, hkl, fun wl HL ns' sL hpm _ hwl => ?_⟩
  rw [uk] at hpm
  have hns : ns' = if 0 < c0 ∧ c0 + 1 = nb p0.2.length m then [p0.1] else [] := by
    split at hpm
    · rename_i h
      rw [if_pos h]; exact List.perm_singleton.mp hpm
    · rename_i h
      rw [if_neg h]; exact List.Perm.eq_nil hpm
  obtain ⟨fa, fvs, ef, hfa, hfv⟩ := rep_list_all (rG.mono sL)
  subst ef
  have s6L := s6T.trans (sG.trans sL)
  have hfl2 : fvs.length = T.length := by rw [hfv.length_eq, List.length_map]
  clear hpm uk un etold rT rG
  -- isinstance
  try dsimp only
  refine seq_by (t := tIfS _ _ _) (fun σ HK => σ = [some (.ref a), some (.ref r), some (.int (m : Int)), some (.ref mx), some (.int (sp : Int)), some (.ref nu), o6, o7, some tv, some (.ref fa), some (.ref wl), none, none, none, none, none, none] ∧ HK = HL) ?_ ?_
  rotate_left
  · intro nx hnx
    exact ⟨_, rfl, _, _, _, _, _, rfl, rfl, .lst hfa, B.ll, _, rfl, iteF ⟨_, rfl, _, _, _, _, _, rfl, rfl, .lst hwl, B.ll, _, rfl, iteF (hnx _ _ ⟨rfl, rfl⟩)⟩⟩
  rintro σK HK ⟨rfl, rfl⟩
  -- gone
  have hxs : mvs'[sp]? = some (mvs'[sp]'(by omega)) := List.getElem?_eq_getElem (by omega)
  generalize mvs'[sp]'(by omega) = x00 at hxs
  obtain ⟨t0, l0, ex0, ht0, hl0⟩ := rep_box_inv (hmv6.at hxs (by rw [List.getElem?_map, keq, List.getElem?_map, hq0]; rfl))
  subst ex0
  try dsimp only
  refine ⟨_, rfl, _, rfl, mx, _, _, _, rfl, rfl, SqL.of (s6L _ _ hmx6), atI_nat hxs, t0, _, _, _, rfl, rfl, SqT.of (s6L _ _ ht0), rfl, _, _, rfl, rfl, ⟨by decide, by decide⟩, ?_⟩
  change gName 11 (V.int ((boxAt (rowsP m ps) (c0, k0)).1 / 2)) _ _ _
  rw [(box_half (q := (c0, k0)) hm hp0 hc0).1]
  -- due
  try dsimp only
  refine ⟨_, rfl, _, rfl, _, rfl, .ref mx, .ref r, p0.1, mixP m ps, ps, rfl, rmx6.mono s6L, rp6.mono s6L, by rw [keq, List.length_map]; omega, by omega, fun du us HM lM => ?_⟩
  rw [← hhad] at lM
  have s6M := s6L.trans lM.s
  -- had, lost
  try dsimp only
  refine ⟨(by show 0 ≤ sizeLine; decide), fun hd hhd => ?_⟩
  try dsimp only
  refine ⟨(by show 0 ≤ sizeLine; decide), fun lo hlo => ?_⟩
  have hdl : hd ≠ lo := fun z => by rw [← z, upd_same] at hlo; cases hlo
  have nlo : HM lo = none := (same_new hhd (.lst [])).free hlo
  have oN : Same HM (Off [hd, lo] (upd (upd HM hd (.lst [])) lo (.lst []))) := fun b o q => by
    have n1 := ne_of_none q hhd
    have n2 := ne_of_none q nlo
    rw [off_get (by simp [n1, n2]), upd_ne n2, upd_ne n1]; exact q
  have ahd : upd (upd HM hd (.lst [])) lo (.lst []) hd = some (.lst []) := by rw [upd_ne hdl, upd_same]
  have alo : upd (upd HM hd (.lst [])) lo (.lst []) lo = some (.lst []) := upd_same
  generalize upd (upd HM hd (.lst [])) lo (.lst []) = HN at oN ahd alo
  have hfaM := lM.s _ _ hfa
  try dsimp only
  refine ⟨_, rfl, fa, rfl, ⟨_, SqL.of (off_sub _ _ (oN _ _ hfaM))⟩, for_list (K := K) (a := fa) (xs := fvs) (fun i σ HF => ∃ (o15 : Option V) (vs : List V), σ = [some (.ref a), some (.ref r), some (.int (m : Int)), some (.ref mx), some (.int (sp : Int)), some (.ref nu), o6, o7, some tv, some (.ref fa), some (.ref wl), some (.int p0.1), some (.ref du), some (.ref hd), some (.ref lo), o15, none] ∧
      Same HM (Off [hd, lo] HF) ∧ HF hd = some (.lst vs) ∧ All2 (Rep (Off [hd, lo] HF)) vs (((T.take i).flatMap hadOf).map boxD) ∧ HF lo = some (.lst (((T.take i).flatMap lostOf).map V.int)) ∧ vs.length ≤ i ∧ ((T.take i).flatMap lostOf).length ≤ i)
    ⟨none, [], rfl, oN, ahd, .nil, alo, Nat.le_refl _, Nat.le_refl _⟩ (fun i σ HF _ ⟨_, _, _, sF, _⟩ => SqL.of (off_sub _ _ (sF _ _ hfaM))) ?_ ?_⟩
  · rintro i x σ HF hx ⟨o15, vs, rfl, sF, hhdF, hrF, hloF, hvl, hll⟩
    have hi : i < T.length := by rw [← hfl2]; exact (List.getElem?_eq_some_iff.mp hx).1
    have hti : T[i]? = some T[i] := List.getElem?_eq_getElem hi
    generalize T[i] = tt at hti
    have hrx : Rep HK x (toldD tt) := hfv.at hx (by rw [List.getElem?_map, hti]; rfl)
    have eh : (T.take (i + 1)).flatMap hadOf = (T.take i).flatMap hadOf ++ hadOf tt := by rw [take_succ hti, List.flatMap_append, List.flatMap_cons, List.flatMap_nil, List.append_nil]
    have el : (T.take (i + 1)).flatMap lostOf = (T.take i).flatMap lostOf ++ lostOf tt := by rw [take_succ hti, List.flatMap_append, List.flatMap_cons, List.flatMap_nil, List.append_nil]
    have hF : ∀ {x o}, HK x = some o → HF x = some o := fun e => off_sub _ _ (sF _ _ (lM.s _ _ e))
    cases tt with
    | lost s p =>
      obtain ⟨t, rfl, ht⟩ := rep_lost_inv hrx
      try dsimp only
      refine seq_by (t := tIfS _ _ _) (fun σ HR => σ = [some (.ref a), some (.ref r), some (.int (m : Int)), some (.ref mx), some (.int (sp : Int)), some (.ref nu), o6, o7, some tv, some (.ref fa), some (.ref wl), some (.int p0.1), some (.ref du), some (.ref hd), some (.ref lo), some (.ref t), none] ∧ HR = HF) ?_ ?_
      rotate_left
      · intro nx hnx
        refine ⟨_, rfl, _, _, _, _, _, rfl, rfl, .tup (hF ht), SK.tt, _, rfl, iteF ⟨_, rfl, t, _, rfl, .inr (SqT.of (hF ht)), _, _, rfl, rfl, _, rfl, ifF (decide_eq_false (by show ¬ (((3 : Nat) : Int) < 3); decide)) ⟨_, rfl, t, _, _, _, rfl, rfl, SqT.of (hF ht), rfl, _, _, _, _, _, rfl, rfl, .str _, SK.ss, _, rfl, iteF (hnx _ _ ⟨rfl, rfl⟩)⟩⟩⟩
      rintro σR HR ⟨rfl, rfl⟩
      try dsimp only
      refine ⟨_, rfl, t, _, _, _, rfl, rfl, SqT.of (hF ht), rfl, rfl, _, rfl, ifF klp ?_⟩
      refine ⟨_, rfl, .inl ⟨rfl, _, SqL.of hloF⟩, _, rfl, t, _, _, _, rfl, rfl, SqT.of (hF ht), rfl, ?_⟩
      refine ⟨lo, _, _, rfl, rfl, hloF, by rw [List.length_map]; exact small (by omega), ?_⟩
      refine ⟨_, vs, rfl, by rw [off_upd (by simp)]; exact sF, by rw [upd_ne hdl]; exact hhdF, ?_, ?_, by omega, ?_⟩
      · rw [off_upd (by simp), eh]
        show All2 _ vs (List.map boxD (_ ++ []))
        rw [List.append_nil]; exact hrF
      · rw [upd_same, el, List.map_append]; rfl
      · rw [el, List.length_append]; show _ + 1 ≤ _; omega
    | parcel s nsp p =>
      obtain ⟨t, l, rfl, ht, hl⟩ := rep_par_inv hrx
      try dsimp only
      refine seq_by (t := tIfS _ _ _) (fun σ HR => σ = [some (.ref a), some (.ref r), some (.int (m : Int)), some (.ref mx), some (.int (sp : Int)), some (.ref nu), o6, o7, some tv, some (.ref fa), some (.ref wl), some (.int p0.1), some (.ref du), some (.ref hd), some (.ref lo), some (.ref t), none] ∧ HR = HF) ?_ ?_
      rotate_left
      · intro nx hnx
        refine ⟨_, rfl, _, _, _, _, _, rfl, rfl, .tup (hF ht), SK.tt, _, rfl, iteF ⟨_, rfl, t, _, rfl, .inr (SqT.of (hF ht)), _, _, rfl, rfl, _, rfl, ifF (decide_eq_false (by show ¬ (((4 : Nat) : Int) < 3); decide)) ⟨_, rfl, t, _, _, _, rfl, rfl, SqT.of (hF ht), rfl, _, _, _, _, _, rfl, rfl, .str _, SK.ss, _, rfl, iteF (hnx _ _ ⟨rfl, rfl⟩)⟩⟩⟩
      rintro σR HR ⟨rfl, rfl⟩
      try dsimp only
      refine ⟨_, rfl, t, _, _, _, rfl, rfl, SqT.of (hF ht), rfl, rfl, _, rfl, ifT kpp ?_⟩
      refine ⟨_, rfl, .inl ⟨rfl, _, SqL.of hhdF⟩, _, rfl, t, _, _, _, rfl, rfl, SqT.of (hF ht), rfl, _, rfl, t, _, _, _, rfl, rfl, SqT.of (hF ht), rfl, (by show 2 ≤ sizeLine; decide), fun tn htn => ?_⟩
      have u2 := same_new htn (.tup [.int s, .ref l])
      refine ⟨hd, _, _, rfl, rfl, u2 _ _ hhdF, small (by omega), ?_⟩
      have so := sF.trans (off_same (es := [hd, lo]) u2)
      refine ⟨_, vs ++ [.ref tn], rfl, by rw [off_upd (by simp)]; exact so, upd_same, ?_, ?_, by rw [List.length_append]; show _ + 1 ≤ _; omega, ?_⟩
      · rw [off_upd (by simp), eh, List.map_append]
        exact (reps_mono (off_same u2) hrF).snoc (rep_box (off2_new hhdF hloF htn) (so _ _ (lM.s _ _ hl)))
      · rw [upd_ne (fun z => hdl z.symm), el]
        show _ = some (HO.lst (List.map V.int (_ ++ [])))
        rw [List.append_nil]; exact u2 _ _ hloF
      · rw [el]
        show (_ ++ []).length ≤ _
        rw [List.append_nil]; omega
  rintro σN HP ⟨o15, vs, rfl, sP, hhdP, hrP, hloP, hvl, hll⟩
  rw [hfl2, List.take_length] at hrP hloP hll
  rw [hfl2] at hvl
  have sMP : Same HM HP := sP.trans off_sub
  have s6P := s6M.trans sMP
  have rhad : Rep HP (.ref hd) (boxesD (T.flatMap hadOf)) := rep_lst hhdP (reps_mono off_sub hrP)
  have rdue : Rep HP (.ref du) (boxesD (T.flatMap hadOf)) := lM.rep.mono sMP
  have hwlP := sMP _ _ (lM.s _ _ hwl)
  -- row
  have hmkb : mvs'.length = (mixP m ps).length := by rw [hmk, keq, List.length_map]
  try dsimp only
  refine ⟨_, rfl, mx, rfl, ⟨_, SqL.of (s6P _ _ hmx6)⟩, fun rw0 hrw0 => lc_list (K := K) (a := mx) (xs := mvs') (fun i σ H5 => ∃ (o : Option V) (us : List V), σ = [o, some (.int p0.1)] ∧ LsAt HP rw0 H5 ((((mixP m ps).take i).filter fun b => decide (b.1 / 2 = p0.1)).map boxD) us)
    ⟨none, [], rfl, LsAt.new (Same.refl _) hrw0⟩ (fun i σ H5 _ ⟨_, _, _, la⟩ => SqL.of (la.s _ _ (s6P _ _ hmx6))) ?_ ?_⟩
  · rintro i x σ H5 hx ⟨o, us5, rfl, la⟩
    have hi : i < (mixP m ps).length := by rw [← hmkb]; exact (List.getElem?_eq_some_iff.mp hx).1
    have hb : (mixP m ps)[i]? = some (mixP m ps)[i] := List.getElem?_eq_getElem hi
    generalize (mixP m ps)[i] = b at hb
    have hrx : Rep H6 x (boxD b) := hmv6.at hx (by rw [List.getElem?_map, hb]; rfl)
    obtain ⟨t, l, rfl, ht, hl⟩ := rep_box_inv hrx
    have so : Same HP (Off [rw0] H5) := fun b o q => by
      have n : b ≠ rw0 := ne_of_none q la.n
      rw [off_get (by simpa using n)]; exact la.s _ _ q
    have hlu : us5.length ≤ 64 := by
      have h1 := la.len
      rw [List.length_map] at h1
      have h2 := List.length_filter_le (fun b : Bxx => decide (b.1 / 2 = p0.1)) ((mixP m ps).take i)
      rw [List.length_take] at h2
      omega
    refine ⟨_, rfl, t, _, _, _, rfl, rfl, SqT.of (la.s _ _ (s6P _ _ ht)), rfl, _, _, rfl, rfl, ⟨by decide, by decide⟩, _, rfl, rfl, _, rfl, ?_⟩
    by_cases hg : b.1 / 2 = p0.1
    · refine ifT (decide_eq_true (by show V.int (b.1 / 2) = V.int p0.1; rw [hg])) ?_
      refine ⟨_, rfl, _, la.a_, small (by omega), _, us5 ++ [.ref t], rfl, ?_⟩
      rw [take_succ hb, List.filter_append, List.map_append, List.filter_cons_of_pos (by simpa using hg)]
      exact la.push (hrx.mono (s6P.trans so))
    · refine ifF (decide_eq_false (fun z => hg (V.int.inj z))) ⟨_, us5, rfl, ?_⟩
      rw [take_succ hb, List.filter_append, List.filter_cons_of_neg (by simpa using hg), List.filter_nil, List.append_nil]
      exact la
  rintro σ5 H5 ⟨o5, us5, rfl, la⟩
  rw [hmkb, List.take_length, keq] at la
  obtain ⟨R, hR⟩ := row_last hm hnd' hp0 (by omega)
  rw [hR, List.map_append] at la
  obtain ⟨us', y, eus, hry⟩ := snoc_inv la.v
  subst eus
  have hry := hry.mono off_sub
  have hrwa := la.a_
  have sP5 := la.s
  have s65 := s6P.trans sP5
  clear la
  -- had as due
  have hszx : (boxesD (T.flatMap hadOf)).size ≤ 1000000 := by
    have h1 := boxes_size (T.flatMap hadOf)
    have h2 := wt_le (M := 63) (bs := T.flatMap hadOf) fun b hb => by
      rw [hhad] at hb
      obtain ⟨bx, _, hb⟩ := List.mem_flatMap.mp hb
      exact hpx b (due_mem hb)
    have h3 : (T.flatMap hadOf).length ≤ 64 := by
      have := hrP.length_eq
      rw [List.length_map] at this
      omega
    have h4 : (T.flatMap hadOf).length * (63 + 1) ≤ 64 * 64 := Nat.mul_le_mul h3 (Nat.le_refl _)
    omega
  try dsimp only
  refine seq_by (t := tIfS _ _ _) (fun σ HR => σ = [some (.ref a), some (.ref r), some (.int (m : Int)), some (.ref mx), some (.int (sp : Int)), some (.ref nu), o6, o7, some tv, some (.ref fa), some (.ref wl), some (.int p0.1), some (.ref du), some (.ref hd), some (.ref lo), o15, some (.ref rw0)] ∧ Same H5 HR) ?_ ?_
  rotate_left
  · intro nx hnx
    exact ⟨_, rfl, _, rfl, .ref hd, .ref du, _, rfl, rhad.mono sP5, rdue.mono sP5, hszx, fun HR sR => ⟨_, rfl, iteF (hnx _ _ ⟨rfl, sR⟩)⟩⟩
  rintro σR HR ⟨rfl, sR⟩
  have s6R := s65.trans sR
  have hwlR := (sP5.trans sR) _ _ hwlP
  have hloR := (sP5.trans sR) _ _ hloP
  have hmxR := s6R _ _ hmx6
  have hb0s : (boxAt (rowsP m ps) (c0, k0)).2 = (c0 : Int) :: partOf m p0 c0 := congrArg Prod.snd (box_at (q := (c0, k0)) hm hp0 hc0)
  have hb0l := (box_half (q := (c0, k0)) hm hp0 hc0).2
  have hl0R : HR l0 = some (.lst (((c0 : Int) :: partOf m p0 c0).map V.int)) := by rw [← hb0s]; exact s6R _ _ hl0
  try dsimp only
  refine ⟨_, rfl, _, rfl, mx, _, _, _, rfl, rfl, SqL.of hmxR, atI_nat hxs, t0, _, _, _, rfl, rfl, SqT.of (s6R _ _ ht0), rfl, l0, _, _, _, rfl, rfl, SqL.of hl0R, (show atI _ 0 = some (V.int (c0 : Int)) from atI_nat (j := 0) rfl), rfl, _, rfl, ?_⟩
  by_cases hz : c0 = 0
  · refine ifT (decide_eq_true (by show V.int (c0 : Int) = V.int 0; rw [hz]; rfl)) ?_
    have e1 : T.flatMap lostOf = [] := by rw [hlst, if_neg (by omega)]
    have e2 : ns' = [] := by rw [hns, if_neg (by omega)]
    rw [e1] at hloR
    rw [e2] at hwlR
    refine ⟨_, rfl, (by show 0 ≤ sizeLine; decide), fun e3 he3 => ⟨lo, e3, _, rfl, rfl, SqL.of (same_new he3 _ _ _ hloR), SqL.of upd_same, _, rfl, ifT rfl ?_⟩⟩
    refine ⟨_, rfl, (by show 0 ≤ sizeLine; decide), fun e4 he4 => ?_⟩
    exact ⟨.ref wl, .ref e4, .lst [], rfl, rep_lst (same_new he4 _ _ _ (same_new he3 _ _ _ hwlR)) .nil, rep_lst upd_same .nil, by decide, fun HZ _ => q HZ⟩
  refine ifF (decide_eq_false (fun z => hz (by have := V.int.inj z; omega))) ?_
  have hry := hry.mono sR
  have hsz1 : D.size (.lst [.int p0.1]) ≤ 1000000 := by
    simp only [D.size, D.sizes]
    omega
  refine ⟨_, rfl, _, rfl, mx, _, _, _, rfl, rfl, SqL.of hmxR, atI_nat hxs, _, rfl, _, rfl, rw0, _, _, _, rfl, rfl, SqL.of (sR _ _ hrwa), atI_last _ _, ?_⟩
  by_cases hlast : c0 + 1 = nb p0.2.length m
  · have en : nb p0.2.length m - 1 = c0 := by omega
    rw [en] at hry
    refine .inl ⟨boxD (boxAt (rowsP m ps) (c0, k0)), _, .inr rfl, rep_box (s6R _ _ ht0) (s6R _ _ hl0), hry, Nat.le_trans (boxD_depth _) (by decide), _, rfl, iteT ?_⟩
    have e1 : T.flatMap lostOf = [] := by rw [hlst, if_neg (by omega)]
    have e2 : ns' = [p0.1] := by rw [hns, if_pos ⟨by omega, hlast⟩]
    rw [e1] at hloR
    rw [e2] at hwlR
    refine ⟨_, rfl, (by show 0 ≤ sizeLine; decide), fun e3 he3 => ⟨lo, e3, _, rfl, rfl, SqL.of (same_new he3 _ _ _ hloR), SqL.of upd_same, _, rfl, ifT rfl ?_⟩⟩
    refine ⟨_, rfl, _, rfl, (by show 1 ≤ sizeLine; decide), fun e4 he4 => ?_⟩
    exact ⟨.ref wl, .ref e4, .lst [.int p0.1], rfl, rep_lst (same_new he4 _ _ _ (same_new he3 _ _ _ hwlR)) (.cons (.int _) .nil), rep_lst upd_same (.cons (.int _) .nil), hsz1, fun HZ _ => q HZ⟩
  · have hN := (box_half (q := (nb p0.2.length m - 1, k0)) hm hp0 (by show nb p0.2.length m - 1 < _; omega)).2
    have hN1 := hN.mpr (by show nb p0.2.length m - 1 + 1 = _; omega)
    have h01 : ¬ (boxAt (rowsP m ps) (c0, k0)).1 % 2 = 1 := fun z => hlast (hb0l.mp z)
    obtain ⟨tN, lN, eN, htN, hlN⟩ := rep_box_inv hry
    subst eN
    refine .inr ⟨t0, tN, l0, lN, _, _, _, _, rfl, rfl, s6R _ _ ht0, s6R _ _ hl0, htN, hlN, fun z => h01 (by rw [z]; exact hN1), _, rfl, iteF ?_⟩
    have e1 : T.flatMap lostOf = [p0.1] := by rw [hlst, if_pos (by omega)]
    have e2 : ns' = [] := by rw [hns, if_neg (by omega)]
    rw [e1] at hloR
    rw [e2] at hwlR
    refine ⟨_, rfl, _, rfl, (by show 1 ≤ sizeLine; decide), fun e3 he3 => ?_⟩
    refine ⟨.ref lo, .ref e3, .lst [.int p0.1], rfl, rep_lst (same_new he3 _ _ _ hloR) (.cons (.int _) .nil), rep_lst upd_same (.cons (.int _) .nil), hsz1, fun HS sS => ⟨_, rfl, iteT ?_⟩⟩
    refine ⟨_, rfl, (by show 0 ≤ sizeLine; decide), fun e4 he4 => ?_⟩
    exact ⟨.ref wl, .ref e4, .lst [], rfl, rep_lst (same_new he4 _ _ _ (sS _ _ (same_new he3 _ _ _ hwlR))) .nil, rep_lst upd_same .nil, by decide, fun HZ _ => q HZ⟩
end
end BB

set_option Elab.async false
set_option linter.all false
set_option maxRecDepth 100000
set_option maxHeartbeats 4000000
namespace BB
open PySem L2
theorem all_mk {l : PySem.W.OpenLaw} {w : World} {K : PySem.W.Frag} {h : Heap} {mg : Str → Option Value} {fa C_Hands C_BeltError C_NoNumber C_Belt f_Hands___init__ f_Hands_hold f_Hands_let_go f_Hands_lose f_Hands_keep f_Hands_take f_Belt___init__ f_Belt_twin f_Belt_box_is_unfinished f_Belt_tell_fault f_Belt_tell_unfinished f_Belt_pass_over f_Belt_begin_box f_Belt_end_box f_Belt_put_in f_Belt_put_in_escaped f_Belt_take f_hands_behind f_unpacked f_waiting f_is_belt_number f_place_of_other f_refuse_other_numbers f_length_of_two f_check_of f_meaning_behind_escape f_begun f_fed f_ended f_told_by f_l_at f_l_check f_l_inside f_l_wire f_l_sent_off f_l_boxed f_l_in_turns f_l_all_but f_l_so f_law : Addr} (X : K.In h) (G : h.Ns mainGlobals mg) (hfa : mg "law" = some (.ref fa))
    {od_Hands___init__ an_Hands___init__ od_Hands_hold an_Hands_hold od_Hands_let_go an_Hands_let_go od_Hands_lose an_Hands_lose od_Hands_keep an_Hands_keep od_Hands_take an_Hands_take od_Belt___init__ an_Belt___init__ od_Belt_twin an_Belt_twin od_Belt_box_is_unfinished an_Belt_box_is_unfinished od_Belt_tell_fault an_Belt_tell_fault od_Belt_tell_unfinished an_Belt_tell_unfinished od_Belt_pass_over an_Belt_pass_over od_Belt_begin_box an_Belt_begin_box od_Belt_end_box an_Belt_end_box od_Belt_put_in an_Belt_put_in od_Belt_put_in_escaped an_Belt_put_in_escaped od_Belt_take an_Belt_take od_hands_behind an_hands_behind od_unpacked an_unpacked od_waiting an_waiting od_is_belt_number an_is_belt_number od_place_of_other an_place_of_other od_refuse_other_numbers an_refuse_other_numbers od_length_of_two an_length_of_two od_check_of an_check_of od_meaning_behind_escape an_meaning_behind_escape od_begun an_begun od_fed an_fed od_ended an_ended od_told_by an_told_by od_l_at an_l_at od_l_check an_l_check od_l_inside an_l_inside od_l_wire an_l_wire od_l_sent_off an_l_sent_off od_l_boxed an_l_boxed od_l_in_turns an_l_in_turns od_l_all_but an_l_all_but od_l_so an_l_so od_law an_law : Option Addr} {sl_Hands___init__ sl_Hands_hold sl_Hands_let_go sl_Hands_lose sl_Hands_keep sl_Hands_take sl_Belt___init__ sl_Belt_twin sl_Belt_box_is_unfinished sl_Belt_tell_fault sl_Belt_tell_unfinished sl_Belt_pass_over sl_Belt_begin_box sl_Belt_end_box sl_Belt_put_in sl_Belt_put_in_escaped sl_Belt_take sl_hands_behind sl_unpacked sl_waiting sl_is_belt_number sl_place_of_other sl_refuse_other_numbers sl_length_of_two sl_check_of sl_meaning_behind_escape sl_begun sl_fed sl_ended sl_told_by sl_l_at sl_l_check sl_l_inside sl_l_wire sl_l_sent_off sl_l_boxed sl_l_in_turns sl_l_all_but sl_l_so sl_law : Array (Option Value)} {oc_Hands___init__ kV_Hands___init__ dc_Hands___init__ pm_Hands___init__ cd_Hands___init__ ct_Hands___init__ oc_Hands_hold kV_Hands_hold dc_Hands_hold pm_Hands_hold cd_Hands_hold ct_Hands_hold oc_Hands_let_go kV_Hands_let_go dc_Hands_let_go pm_Hands_let_go cd_Hands_let_go ct_Hands_let_go oc_Hands_lose kV_Hands_lose dc_Hands_lose pm_Hands_lose cd_Hands_lose ct_Hands_lose oc_Hands_keep kV_Hands_keep dc_Hands_keep pm_Hands_keep cd_Hands_keep ct_Hands_keep oc_Hands_take kV_Hands_take dc_Hands_take pm_Hands_take cd_Hands_take ct_Hands_take oc_Belt___init__ kV_Belt___init__ dc_Belt___init__ pm_Belt___init__ cd_Belt___init__ ct_Belt___init__ oc_Belt_twin kV_Belt_twin dc_Belt_twin pm_Belt_twin cd_Belt_twin ct_Belt_twin oc_Belt_box_is_unfinished kV_Belt_box_is_unfinished dc_Belt_box_is_unfinished pm_Belt_box_is_unfinished cd_Belt_box_is_unfinished ct_Belt_box_is_unfinished oc_Belt_tell_fault kV_Belt_tell_fault dc_Belt_tell_fault pm_Belt_tell_fault cd_Belt_tell_fault ct_Belt_tell_fault oc_Belt_tell_unfinished kV_Belt_tell_unfinished dc_Belt_tell_unfinished pm_Belt_tell_unfinished cd_Belt_tell_unfinished ct_Belt_tell_unfinished oc_Belt_pass_over kV_Belt_pass_over dc_Belt_pass_over pm_Belt_pass_over cd_Belt_pass_over ct_Belt_pass_over oc_Belt_begin_box kV_Belt_begin_box dc_Belt_begin_box pm_Belt_begin_box cd_Belt_begin_box ct_Belt_begin_box oc_Belt_end_box kV_Belt_end_box dc_Belt_end_box pm_Belt_end_box cd_Belt_end_box ct_Belt_end_box oc_Belt_put_in kV_Belt_put_in dc_Belt_put_in pm_Belt_put_in cd_Belt_put_in ct_Belt_put_in oc_Belt_put_in_escaped kV_Belt_put_in_escaped dc_Belt_put_in_escaped pm_Belt_put_in_escaped cd_Belt_put_in_escaped ct_Belt_put_in_escaped oc_Belt_take kV_Belt_take dc_Belt_take pm_Belt_take cd_Belt_take ct_Belt_take oc_hands_behind kV_hands_behind dc_hands_behind pm_hands_behind cd_hands_behind ct_hands_behind oc_unpacked kV_unpacked dc_unpacked pm_unpacked cd_unpacked ct_unpacked oc_waiting kV_waiting dc_waiting pm_waiting cd_waiting ct_waiting oc_is_belt_number kV_is_belt_number dc_is_belt_number pm_is_belt_number cd_is_belt_number ct_is_belt_number oc_place_of_other kV_place_of_other dc_place_of_other pm_place_of_other cd_place_of_other ct_place_of_other oc_refuse_other_numbers kV_refuse_other_numbers dc_refuse_other_numbers pm_refuse_other_numbers cd_refuse_other_numbers ct_refuse_other_numbers oc_length_of_two kV_length_of_two dc_length_of_two pm_length_of_two cd_length_of_two ct_length_of_two oc_check_of kV_check_of dc_check_of pm_check_of cd_check_of ct_check_of oc_meaning_behind_escape kV_meaning_behind_escape dc_meaning_behind_escape pm_meaning_behind_escape cd_meaning_behind_escape ct_meaning_behind_escape oc_begun kV_begun dc_begun pm_begun cd_begun ct_begun oc_fed kV_fed dc_fed pm_fed cd_fed ct_fed oc_ended kV_ended dc_ended pm_ended cd_ended ct_ended oc_told_by kV_told_by dc_told_by pm_told_by cd_told_by ct_told_by oc_l_at kV_l_at dc_l_at pm_l_at cd_l_at ct_l_at oc_l_check kV_l_check dc_l_check pm_l_check cd_l_check ct_l_check oc_l_inside kV_l_inside dc_l_inside pm_l_inside cd_l_inside ct_l_inside oc_l_wire kV_l_wire dc_l_wire pm_l_wire cd_l_wire ct_l_wire oc_l_sent_off kV_l_sent_off dc_l_sent_off pm_l_sent_off cd_l_sent_off ct_l_sent_off oc_l_boxed kV_l_boxed dc_l_boxed pm_l_boxed cd_l_boxed ct_l_boxed oc_l_in_turns kV_l_in_turns dc_l_in_turns pm_l_in_turns cd_l_in_turns ct_l_in_turns oc_l_all_but kV_l_all_but dc_l_all_but pm_l_all_but cd_l_all_but ct_l_all_but oc_l_so kV_l_so dc_l_so pm_l_so cd_l_so ct_l_so oc_law kV_law dc_law pm_law cd_law ct_law : Value} {tk_LEAST tk_GREATEST tk_FIRST_TELLS tk_ROUND tk_ESCAPE tk_BEGINNING tk_TELLS_ESCAPE tk_TELLS_BEGINNING tk_AT_REST tk_PASSING_OVER tk_IN_BOX tk_BEHIND_ESCAPE tk_OF_LENGTH tk_OF_LABEL tk_OF_CHECK : Tok}
    (e_Hands : PySem.W.nsIn K mainGlobals "Hands" = some (some (.ref C_Hands)))
    (e_BeltError : PySem.W.nsIn K mainGlobals "BeltError" = some (some (.ref C_BeltError)))
    (e_NoNumber : PySem.W.nsIn K mainGlobals "NoNumber" = some (some (.ref C_NoNumber)))
    (e_Belt : PySem.W.nsIn K mainGlobals "Belt" = some (some (.ref C_Belt)))
    (a_Hands___init__ : PySem.W.findIn K (.ref C_Hands) "__init__" = some (some (.ref f_Hands___init__)))
    (i_Hands___init__ : PySem.W.isFn K (.ref f_Hands___init__) = true)
    (l_Hands___init__ : K.lookup f_Hands___init__ = some ⟨oc_Hands___init__, od_Hands___init__, .func (PySem.W.fnOf "__init__" "Hands.__init__" (defArgs sHands_init) (defBody sHands_init) (defScope sHands_init) .none kV_Hands___init__ dc_Hands___init__ pm_Hands___init__ an_Hands___init__ cd_Hands___init__ ct_Hands___init__), sl_Hands___init__⟩)
    (c_Hands___init__ : PySem.W.codeIn K cd_Hands___init__ "Hands.__init__" = true)
    (k_Hands___init__ : PySem.W.keepIn K (.ref f_Hands___init__) = true)
    (a_Hands_hold : PySem.W.findIn K (.ref C_Hands) "hold" = some (some (.ref f_Hands_hold)))
    (i_Hands_hold : PySem.W.isFn K (.ref f_Hands_hold) = true)
    (l_Hands_hold : K.lookup f_Hands_hold = some ⟨oc_Hands_hold, od_Hands_hold, .func (PySem.W.fnOf "hold" "Hands.hold" (defArgs sHands_hold) (defBody sHands_hold) (defScope sHands_hold) .none kV_Hands_hold dc_Hands_hold pm_Hands_hold an_Hands_hold cd_Hands_hold ct_Hands_hold), sl_Hands_hold⟩)
    (c_Hands_hold : PySem.W.codeIn K cd_Hands_hold "Hands.hold" = true)
    (k_Hands_hold : PySem.W.keepIn K (.ref f_Hands_hold) = true)
    (a_Hands_let_go : PySem.W.findIn K (.ref C_Hands) "let_go" = some (some (.ref f_Hands_let_go)))
    (i_Hands_let_go : PySem.W.isFn K (.ref f_Hands_let_go) = true)
    (l_Hands_let_go : K.lookup f_Hands_let_go = some ⟨oc_Hands_let_go, od_Hands_let_go, .func (PySem.W.fnOf "let_go" "Hands.let_go" (defArgs sHands_let_go) (defBody sHands_let_go) (defScope sHands_let_go) .none kV_Hands_let_go dc_Hands_let_go pm_Hands_let_go an_Hands_let_go cd_Hands_let_go ct_Hands_let_go), sl_Hands_let_go⟩)
    (c_Hands_let_go : PySem.W.codeIn K cd_Hands_let_go "Hands.let_go" = true)
    (k_Hands_let_go : PySem.W.keepIn K (.ref f_Hands_let_go) = true)
    (a_Hands_lose : PySem.W.findIn K (.ref C_Hands) "lose" = some (some (.ref f_Hands_lose)))
    (i_Hands_lose : PySem.W.isFn K (.ref f_Hands_lose) = true)
    (l_Hands_lose : K.lookup f_Hands_lose = some ⟨oc_Hands_lose, od_Hands_lose, .func (PySem.W.fnOf "lose" "Hands.lose" (defArgs sHands_lose) (defBody sHands_lose) (defScope sHands_lose) .none kV_Hands_lose dc_Hands_lose pm_Hands_lose an_Hands_lose cd_Hands_lose ct_Hands_lose), sl_Hands_lose⟩)
    (c_Hands_lose : PySem.W.codeIn K cd_Hands_lose "Hands.lose" = true)
    (k_Hands_lose : PySem.W.keepIn K (.ref f_Hands_lose) = true)
    (a_Hands_keep : PySem.W.findIn K (.ref C_Hands) "keep" = some (some (.ref f_Hands_keep)))
    (i_Hands_keep : PySem.W.isFn K (.ref f_Hands_keep) = true)
    (l_Hands_keep : K.lookup f_Hands_keep = some ⟨oc_Hands_keep, od_Hands_keep, .func (PySem.W.fnOf "keep" "Hands.keep" (defArgs sHands_keep) (defBody sHands_keep) (defScope sHands_keep) .none kV_Hands_keep dc_Hands_keep pm_Hands_keep an_Hands_keep cd_Hands_keep ct_Hands_keep), sl_Hands_keep⟩)
    (c_Hands_keep : PySem.W.codeIn K cd_Hands_keep "Hands.keep" = true)
    (k_Hands_keep : PySem.W.keepIn K (.ref f_Hands_keep) = true)
    (a_Hands_take : PySem.W.findIn K (.ref C_Hands) "take" = some (some (.ref f_Hands_take)))
    (i_Hands_take : PySem.W.isFn K (.ref f_Hands_take) = true)
    (l_Hands_take : K.lookup f_Hands_take = some ⟨oc_Hands_take, od_Hands_take, .func (PySem.W.fnOf "take" "Hands.take" (defArgs sHands_take) (defBody sHands_take) (defScope sHands_take) .none kV_Hands_take dc_Hands_take pm_Hands_take an_Hands_take cd_Hands_take ct_Hands_take), sl_Hands_take⟩)
    (c_Hands_take : PySem.W.codeIn K cd_Hands_take "Hands.take" = true)
    (k_Hands_take : PySem.W.keepIn K (.ref f_Hands_take) = true)
    (a_Belt___init__ : PySem.W.findIn K (.ref C_Belt) "__init__" = some (some (.ref f_Belt___init__)))
    (i_Belt___init__ : PySem.W.isFn K (.ref f_Belt___init__) = true)
    (l_Belt___init__ : K.lookup f_Belt___init__ = some ⟨oc_Belt___init__, od_Belt___init__, .func (PySem.W.fnOf "__init__" "Belt.__init__" (defArgs sBelt_init) (defBody sBelt_init) (defScope sBelt_init) .none kV_Belt___init__ dc_Belt___init__ pm_Belt___init__ an_Belt___init__ cd_Belt___init__ ct_Belt___init__), sl_Belt___init__⟩)
    (c_Belt___init__ : PySem.W.codeIn K cd_Belt___init__ "Belt.__init__" = true)
    (k_Belt___init__ : PySem.W.keepIn K (.ref f_Belt___init__) = true)
    (a_Belt_twin : PySem.W.findIn K (.ref C_Belt) "twin" = some (some (.ref f_Belt_twin)))
    (i_Belt_twin : PySem.W.isFn K (.ref f_Belt_twin) = true)
    (l_Belt_twin : K.lookup f_Belt_twin = some ⟨oc_Belt_twin, od_Belt_twin, .func (PySem.W.fnOf "twin" "Belt.twin" (defArgs sBelt_twin) (defBody sBelt_twin) (defScope sBelt_twin) .none kV_Belt_twin dc_Belt_twin pm_Belt_twin an_Belt_twin cd_Belt_twin ct_Belt_twin), sl_Belt_twin⟩)
    (c_Belt_twin : PySem.W.codeIn K cd_Belt_twin "Belt.twin" = true)
    (k_Belt_twin : PySem.W.keepIn K (.ref f_Belt_twin) = true)
    (a_Belt_box_is_unfinished : PySem.W.findIn K (.ref C_Belt) "box_is_unfinished" = some (some (.ref f_Belt_box_is_unfinished)))
    (i_Belt_box_is_unfinished : PySem.W.isFn K (.ref f_Belt_box_is_unfinished) = true)
    (l_Belt_box_is_unfinished : K.lookup f_Belt_box_is_unfinished = some ⟨oc_Belt_box_is_unfinished, od_Belt_box_is_unfinished, .func (PySem.W.fnOf "box_is_unfinished" "Belt.box_is_unfinished" (defArgs sBelt_box_is_unfinished) (defBody sBelt_box_is_unfinished) (defScope sBelt_box_is_unfinished) .none kV_Belt_box_is_unfinished dc_Belt_box_is_unfinished pm_Belt_box_is_unfinished an_Belt_box_is_unfinished cd_Belt_box_is_unfinished ct_Belt_box_is_unfinished), sl_Belt_box_is_unfinished⟩)
    (c_Belt_box_is_unfinished : PySem.W.codeIn K cd_Belt_box_is_unfinished "Belt.box_is_unfinished" = true)
    (k_Belt_box_is_unfinished : PySem.W.keepIn K (.ref f_Belt_box_is_unfinished) = true)
    (a_Belt_tell_fault : PySem.W.findIn K (.ref C_Belt) "tell_fault" = some (some (.ref f_Belt_tell_fault)))
    (i_Belt_tell_fault : PySem.W.isFn K (.ref f_Belt_tell_fault) = true)
    (l_Belt_tell_fault : K.lookup f_Belt_tell_fault = some ⟨oc_Belt_tell_fault, od_Belt_tell_fault, .func (PySem.W.fnOf "tell_fault" "Belt.tell_fault" (defArgs sBelt_tell_fault) (defBody sBelt_tell_fault) (defScope sBelt_tell_fault) .none kV_Belt_tell_fault dc_Belt_tell_fault pm_Belt_tell_fault an_Belt_tell_fault cd_Belt_tell_fault ct_Belt_tell_fault), sl_Belt_tell_fault⟩)
    (c_Belt_tell_fault : PySem.W.codeIn K cd_Belt_tell_fault "Belt.tell_fault" = true)
    (k_Belt_tell_fault : PySem.W.keepIn K (.ref f_Belt_tell_fault) = true)
    (a_Belt_tell_unfinished : PySem.W.findIn K (.ref C_Belt) "tell_unfinished" = some (some (.ref f_Belt_tell_unfinished)))
    (i_Belt_tell_unfinished : PySem.W.isFn K (.ref f_Belt_tell_unfinished) = true)
    (l_Belt_tell_unfinished : K.lookup f_Belt_tell_unfinished = some ⟨oc_Belt_tell_unfinished, od_Belt_tell_unfinished, .func (PySem.W.fnOf "tell_unfinished" "Belt.tell_unfinished" (defArgs sBelt_tell_unfinished) (defBody sBelt_tell_unfinished) (defScope sBelt_tell_unfinished) .none kV_Belt_tell_unfinished dc_Belt_tell_unfinished pm_Belt_tell_unfinished an_Belt_tell_unfinished cd_Belt_tell_unfinished ct_Belt_tell_unfinished), sl_Belt_tell_unfinished⟩)
    (c_Belt_tell_unfinished : PySem.W.codeIn K cd_Belt_tell_unfinished "Belt.tell_unfinished" = true)
    (k_Belt_tell_unfinished : PySem.W.keepIn K (.ref f_Belt_tell_unfinished) = true)
    (a_Belt_pass_over : PySem.W.findIn K (.ref C_Belt) "pass_over" = some (some (.ref f_Belt_pass_over)))
    (i_Belt_pass_over : PySem.W.isFn K (.ref f_Belt_pass_over) = true)
    (l_Belt_pass_over : K.lookup f_Belt_pass_over = some ⟨oc_Belt_pass_over, od_Belt_pass_over, .func (PySem.W.fnOf "pass_over" "Belt.pass_over" (defArgs sBelt_pass_over) (defBody sBelt_pass_over) (defScope sBelt_pass_over) .none kV_Belt_pass_over dc_Belt_pass_over pm_Belt_pass_over an_Belt_pass_over cd_Belt_pass_over ct_Belt_pass_over), sl_Belt_pass_over⟩)
    (c_Belt_pass_over : PySem.W.codeIn K cd_Belt_pass_over "Belt.pass_over" = true)
    (k_Belt_pass_over : PySem.W.keepIn K (.ref f_Belt_pass_over) = true)
    (a_Belt_begin_box : PySem.W.findIn K (.ref C_Belt) "begin_box" = some (some (.ref f_Belt_begin_box)))
    (i_Belt_begin_box : PySem.W.isFn K (.ref f_Belt_begin_box) = true)
    (l_Belt_begin_box : K.lookup f_Belt_begin_box = some ⟨oc_Belt_begin_box, od_Belt_begin_box, .func (PySem.W.fnOf "begin_box" "Belt.begin_box" (defArgs sBelt_begin_box) (defBody sBelt_begin_box) (defScope sBelt_begin_box) .none kV_Belt_begin_box dc_Belt_begin_box pm_Belt_begin_box an_Belt_begin_box cd_Belt_begin_box ct_Belt_begin_box), sl_Belt_begin_box⟩)
    (c_Belt_begin_box : PySem.W.codeIn K cd_Belt_begin_box "Belt.begin_box" = true)
    (k_Belt_begin_box : PySem.W.keepIn K (.ref f_Belt_begin_box) = true)
    (a_Belt_end_box : PySem.W.findIn K (.ref C_Belt) "end_box" = some (some (.ref f_Belt_end_box)))
    (i_Belt_end_box : PySem.W.isFn K (.ref f_Belt_end_box) = true)
    (l_Belt_end_box : K.lookup f_Belt_end_box = some ⟨oc_Belt_end_box, od_Belt_end_box, .func (PySem.W.fnOf "end_box" "Belt.end_box" (defArgs sBelt_end_box) (defBody sBelt_end_box) (defScope sBelt_end_box) .none kV_Belt_end_box dc_Belt_end_box pm_Belt_end_box an_Belt_end_box cd_Belt_end_box ct_Belt_end_box), sl_Belt_end_box⟩)
    (c_Belt_end_box : PySem.W.codeIn K cd_Belt_end_box "Belt.end_box" = true)
    (k_Belt_end_box : PySem.W.keepIn K (.ref f_Belt_end_box) = true)
    (a_Belt_put_in : PySem.W.findIn K (.ref C_Belt) "put_in" = some (some (.ref f_Belt_put_in)))
    (i_Belt_put_in : PySem.W.isFn K (.ref f_Belt_put_in) = true)
    (l_Belt_put_in : K.lookup f_Belt_put_in = some ⟨oc_Belt_put_in, od_Belt_put_in, .func (PySem.W.fnOf "put_in" "Belt.put_in" (defArgs sBelt_put_in) (defBody sBelt_put_in) (defScope sBelt_put_in) .none kV_Belt_put_in dc_Belt_put_in pm_Belt_put_in an_Belt_put_in cd_Belt_put_in ct_Belt_put_in), sl_Belt_put_in⟩)
    (c_Belt_put_in : PySem.W.codeIn K cd_Belt_put_in "Belt.put_in" = true)
    (k_Belt_put_in : PySem.W.keepIn K (.ref f_Belt_put_in) = true)
    (a_Belt_put_in_escaped : PySem.W.findIn K (.ref C_Belt) "put_in_escaped" = some (some (.ref f_Belt_put_in_escaped)))
    (i_Belt_put_in_escaped : PySem.W.isFn K (.ref f_Belt_put_in_escaped) = true)
    (l_Belt_put_in_escaped : K.lookup f_Belt_put_in_escaped = some ⟨oc_Belt_put_in_escaped, od_Belt_put_in_escaped, .func (PySem.W.fnOf "put_in_escaped" "Belt.put_in_escaped" (defArgs sBelt_put_in_escaped) (defBody sBelt_put_in_escaped) (defScope sBelt_put_in_escaped) .none kV_Belt_put_in_escaped dc_Belt_put_in_escaped pm_Belt_put_in_escaped an_Belt_put_in_escaped cd_Belt_put_in_escaped ct_Belt_put_in_escaped), sl_Belt_put_in_escaped⟩)
    (c_Belt_put_in_escaped : PySem.W.codeIn K cd_Belt_put_in_escaped "Belt.put_in_escaped" = true)
    (k_Belt_put_in_escaped : PySem.W.keepIn K (.ref f_Belt_put_in_escaped) = true)
    (a_Belt_take : PySem.W.findIn K (.ref C_Belt) "take" = some (some (.ref f_Belt_take)))
    (i_Belt_take : PySem.W.isFn K (.ref f_Belt_take) = true)
    (l_Belt_take : K.lookup f_Belt_take = some ⟨oc_Belt_take, od_Belt_take, .func (PySem.W.fnOf "take" "Belt.take" (defArgs sBelt_take) (defBody sBelt_take) (defScope sBelt_take) .none kV_Belt_take dc_Belt_take pm_Belt_take an_Belt_take cd_Belt_take ct_Belt_take), sl_Belt_take⟩)
    (c_Belt_take : PySem.W.codeIn K cd_Belt_take "Belt.take" = true)
    (k_Belt_take : PySem.W.keepIn K (.ref f_Belt_take) = true)
    (a_hands_behind : PySem.W.nsIn K mainGlobals "hands_behind" = some (some (.ref f_hands_behind)))
    (l_hands_behind : K.lookup f_hands_behind = some ⟨oc_hands_behind, od_hands_behind, .func (PySem.W.fnOf "hands_behind" "hands_behind" (defArgs s_hands_behind) (defBody s_hands_behind) (defScope s_hands_behind) .none kV_hands_behind dc_hands_behind pm_hands_behind an_hands_behind cd_hands_behind ct_hands_behind), sl_hands_behind⟩)
    (c_hands_behind : PySem.W.codeIn K cd_hands_behind "hands_behind" = true)
    (k_hands_behind : PySem.W.keepIn K (.ref f_hands_behind) = true)
    (a_unpacked : PySem.W.nsIn K mainGlobals "unpacked" = some (some (.ref f_unpacked)))
    (l_unpacked : K.lookup f_unpacked = some ⟨oc_unpacked, od_unpacked, .func (PySem.W.fnOf "unpacked" "unpacked" (defArgs s_unpacked) (defBody s_unpacked) (defScope s_unpacked) .none kV_unpacked dc_unpacked pm_unpacked an_unpacked cd_unpacked ct_unpacked), sl_unpacked⟩)
    (c_unpacked : PySem.W.codeIn K cd_unpacked "unpacked" = true)
    (k_unpacked : PySem.W.keepIn K (.ref f_unpacked) = true)
    (a_waiting : PySem.W.nsIn K mainGlobals "waiting" = some (some (.ref f_waiting)))
    (l_waiting : K.lookup f_waiting = some ⟨oc_waiting, od_waiting, .func (PySem.W.fnOf "waiting" "waiting" (defArgs s_waiting) (defBody s_waiting) (defScope s_waiting) .none kV_waiting dc_waiting pm_waiting an_waiting cd_waiting ct_waiting), sl_waiting⟩)
    (c_waiting : PySem.W.codeIn K cd_waiting "waiting" = true)
    (k_waiting : PySem.W.keepIn K (.ref f_waiting) = true)
    (a_is_belt_number : PySem.W.nsIn K mainGlobals "is_belt_number" = some (some (.ref f_is_belt_number)))
    (l_is_belt_number : K.lookup f_is_belt_number = some ⟨oc_is_belt_number, od_is_belt_number, .func (PySem.W.fnOf "is_belt_number" "is_belt_number" (defArgs sIs) (defBody sIs) (defScope sIs) .none kV_is_belt_number dc_is_belt_number pm_is_belt_number an_is_belt_number cd_is_belt_number ct_is_belt_number), sl_is_belt_number⟩)
    (c_is_belt_number : PySem.W.codeIn K cd_is_belt_number "is_belt_number" = true)
    (k_is_belt_number : PySem.W.keepIn K (.ref f_is_belt_number) = true)
    (a_place_of_other : PySem.W.nsIn K mainGlobals "place_of_other" = some (some (.ref f_place_of_other)))
    (l_place_of_other : K.lookup f_place_of_other = some ⟨oc_place_of_other, od_place_of_other, .func (PySem.W.fnOf "place_of_other" "place_of_other" (defArgs s_place_of_other) (defBody s_place_of_other) (defScope s_place_of_other) .none kV_place_of_other dc_place_of_other pm_place_of_other an_place_of_other cd_place_of_other ct_place_of_other), sl_place_of_other⟩)
    (c_place_of_other : PySem.W.codeIn K cd_place_of_other "place_of_other" = true)
    (k_place_of_other : PySem.W.keepIn K (.ref f_place_of_other) = true)
    (a_refuse_other_numbers : PySem.W.nsIn K mainGlobals "refuse_other_numbers" = some (some (.ref f_refuse_other_numbers)))
    (l_refuse_other_numbers : K.lookup f_refuse_other_numbers = some ⟨oc_refuse_other_numbers, od_refuse_other_numbers, .func (PySem.W.fnOf "refuse_other_numbers" "refuse_other_numbers" (defArgs sRefuse) (defBody sRefuse) (defScope sRefuse) .none kV_refuse_other_numbers dc_refuse_other_numbers pm_refuse_other_numbers an_refuse_other_numbers cd_refuse_other_numbers ct_refuse_other_numbers), sl_refuse_other_numbers⟩)
    (c_refuse_other_numbers : PySem.W.codeIn K cd_refuse_other_numbers "refuse_other_numbers" = true)
    (k_refuse_other_numbers : PySem.W.keepIn K (.ref f_refuse_other_numbers) = true)
    (a_length_of_two : PySem.W.nsIn K mainGlobals "length_of_two" = some (some (.ref f_length_of_two)))
    (l_length_of_two : K.lookup f_length_of_two = some ⟨oc_length_of_two, od_length_of_two, .func (PySem.W.fnOf "length_of_two" "length_of_two" (defArgs s_length_of_two) (defBody s_length_of_two) (defScope s_length_of_two) .none kV_length_of_two dc_length_of_two pm_length_of_two an_length_of_two cd_length_of_two ct_length_of_two), sl_length_of_two⟩)
    (c_length_of_two : PySem.W.codeIn K cd_length_of_two "length_of_two" = true)
    (k_length_of_two : PySem.W.keepIn K (.ref f_length_of_two) = true)
    (a_check_of : PySem.W.nsIn K mainGlobals "check_of" = some (some (.ref f_check_of)))
    (l_check_of : K.lookup f_check_of = some ⟨oc_check_of, od_check_of, .func (PySem.W.fnOf "check_of" "check_of" (defArgs sCheckOf) (defBody sCheckOf) (defScope sCheckOf) .none kV_check_of dc_check_of pm_check_of an_check_of cd_check_of ct_check_of), sl_check_of⟩)
    (c_check_of : PySem.W.codeIn K cd_check_of "check_of" = true)
    (k_check_of : PySem.W.keepIn K (.ref f_check_of) = true)
    (a_meaning_behind_escape : PySem.W.nsIn K mainGlobals "meaning_behind_escape" = some (some (.ref f_meaning_behind_escape)))
    (l_meaning_behind_escape : K.lookup f_meaning_behind_escape = some ⟨oc_meaning_behind_escape, od_meaning_behind_escape, .func (PySem.W.fnOf "meaning_behind_escape" "meaning_behind_escape" (defArgs s_meaning_behind_escape) (defBody s_meaning_behind_escape) (defScope s_meaning_behind_escape) .none kV_meaning_behind_escape dc_meaning_behind_escape pm_meaning_behind_escape an_meaning_behind_escape cd_meaning_behind_escape ct_meaning_behind_escape), sl_meaning_behind_escape⟩)
    (c_meaning_behind_escape : PySem.W.codeIn K cd_meaning_behind_escape "meaning_behind_escape" = true)
    (k_meaning_behind_escape : PySem.W.keepIn K (.ref f_meaning_behind_escape) = true)
    (a_begun : PySem.W.nsIn K mainGlobals "begun" = some (some (.ref f_begun)))
    (l_begun : K.lookup f_begun = some ⟨oc_begun, od_begun, .func (PySem.W.fnOf "begun" "begun" (defArgs s_begun) (defBody s_begun) (defScope s_begun) .none kV_begun dc_begun pm_begun an_begun cd_begun ct_begun), sl_begun⟩)
    (c_begun : PySem.W.codeIn K cd_begun "begun" = true)
    (k_begun : PySem.W.keepIn K (.ref f_begun) = true)
    (a_fed : PySem.W.nsIn K mainGlobals "fed" = some (some (.ref f_fed)))
    (l_fed : K.lookup f_fed = some ⟨oc_fed, od_fed, .func (PySem.W.fnOf "fed" "fed" (defArgs s_fed) (defBody s_fed) (defScope s_fed) .none kV_fed dc_fed pm_fed an_fed cd_fed ct_fed), sl_fed⟩)
    (c_fed : PySem.W.codeIn K cd_fed "fed" = true)
    (k_fed : PySem.W.keepIn K (.ref f_fed) = true)
    (a_ended : PySem.W.nsIn K mainGlobals "ended" = some (some (.ref f_ended)))
    (l_ended : K.lookup f_ended = some ⟨oc_ended, od_ended, .func (PySem.W.fnOf "ended" "ended" (defArgs s_ended) (defBody s_ended) (defScope s_ended) .none kV_ended dc_ended pm_ended an_ended cd_ended ct_ended), sl_ended⟩)
    (c_ended : PySem.W.codeIn K cd_ended "ended" = true)
    (k_ended : PySem.W.keepIn K (.ref f_ended) = true)
    (a_told_by : PySem.W.nsIn K mainGlobals "told_by" = some (some (.ref f_told_by)))
    (l_told_by : K.lookup f_told_by = some ⟨oc_told_by, od_told_by, .func (PySem.W.fnOf "told_by" "told_by" (defArgs s_told_by) (defBody s_told_by) (defScope s_told_by) .none kV_told_by dc_told_by pm_told_by an_told_by cd_told_by ct_told_by), sl_told_by⟩)
    (c_told_by : PySem.W.codeIn K cd_told_by "told_by" = true)
    (k_told_by : PySem.W.keepIn K (.ref f_told_by) = true)
    (a_l_at : PySem.W.nsIn K mainGlobals "_law_at" = some (some (.ref f_l_at)))
    (l_l_at : K.lookup f_l_at = some ⟨oc_l_at, od_l_at, .func (PySem.W.fnOf "_law_at" "_law_at" (defArgs sAt) (defBody sAt) (defScope sAt) .none kV_l_at dc_l_at pm_l_at an_l_at cd_l_at ct_l_at), sl_l_at⟩)
    (c_l_at : PySem.W.codeIn K cd_l_at "_law_at" = true)
    (k_l_at : PySem.W.keepIn K (.ref f_l_at) = true)
    (a_l_check : PySem.W.nsIn K mainGlobals "_law_check" = some (some (.ref f_l_check)))
    (l_l_check : K.lookup f_l_check = some ⟨oc_l_check, od_l_check, .func (PySem.W.fnOf "_law_check" "_law_check" (defArgs sLCheck) (defBody sLCheck) (defScope sLCheck) .none kV_l_check dc_l_check pm_l_check an_l_check cd_l_check ct_l_check), sl_l_check⟩)
    (c_l_check : PySem.W.codeIn K cd_l_check "_law_check" = true)
    (k_l_check : PySem.W.keepIn K (.ref f_l_check) = true)
    (a_l_inside : PySem.W.nsIn K mainGlobals "_law_inside" = some (some (.ref f_l_inside)))
    (l_l_inside : K.lookup f_l_inside = some ⟨oc_l_inside, od_l_inside, .func (PySem.W.fnOf "_law_inside" "_law_inside" (defArgs sInside) (defBody sInside) (defScope sInside) .none kV_l_inside dc_l_inside pm_l_inside an_l_inside cd_l_inside ct_l_inside), sl_l_inside⟩)
    (c_l_inside : PySem.W.codeIn K cd_l_inside "_law_inside" = true)
    (k_l_inside : PySem.W.keepIn K (.ref f_l_inside) = true)
    (a_l_wire : PySem.W.nsIn K mainGlobals "_law_wire" = some (some (.ref f_l_wire)))
    (l_l_wire : K.lookup f_l_wire = some ⟨oc_l_wire, od_l_wire, .func (PySem.W.fnOf "_law_wire" "_law_wire" (defArgs sWire) (defBody sWire) (defScope sWire) .none kV_l_wire dc_l_wire pm_l_wire an_l_wire cd_l_wire ct_l_wire), sl_l_wire⟩)
    (c_l_wire : PySem.W.codeIn K cd_l_wire "_law_wire" = true)
    (k_l_wire : PySem.W.keepIn K (.ref f_l_wire) = true)
    (a_l_sent_off : PySem.W.nsIn K mainGlobals "_law_sent_off" = some (some (.ref f_l_sent_off)))
    (l_l_sent_off : K.lookup f_l_sent_off = some ⟨oc_l_sent_off, od_l_sent_off, .func (PySem.W.fnOf "_law_sent_off" "_law_sent_off" (defArgs sSentOff) (defBody sSentOff) (defScope sSentOff) .none kV_l_sent_off dc_l_sent_off pm_l_sent_off an_l_sent_off cd_l_sent_off ct_l_sent_off), sl_l_sent_off⟩)
    (c_l_sent_off : PySem.W.codeIn K cd_l_sent_off "_law_sent_off" = true)
    (k_l_sent_off : PySem.W.keepIn K (.ref f_l_sent_off) = true)
    (a_l_boxed : PySem.W.nsIn K mainGlobals "_law_boxed" = some (some (.ref f_l_boxed)))
    (l_l_boxed : K.lookup f_l_boxed = some ⟨oc_l_boxed, od_l_boxed, .func (PySem.W.fnOf "_law_boxed" "_law_boxed" (defArgs sBoxed) (defBody sBoxed) (defScope sBoxed) .none kV_l_boxed dc_l_boxed pm_l_boxed an_l_boxed cd_l_boxed ct_l_boxed), sl_l_boxed⟩)
    (c_l_boxed : PySem.W.codeIn K cd_l_boxed "_law_boxed" = true)
    (k_l_boxed : PySem.W.keepIn K (.ref f_l_boxed) = true)
    (a_l_in_turns : PySem.W.nsIn K mainGlobals "_law_in_turns" = some (some (.ref f_l_in_turns)))
    (l_l_in_turns : K.lookup f_l_in_turns = some ⟨oc_l_in_turns, od_l_in_turns, .func (PySem.W.fnOf "_law_in_turns" "_law_in_turns" (defArgs sInTurns) (defBody sInTurns) (defScope sInTurns) .none kV_l_in_turns dc_l_in_turns pm_l_in_turns an_l_in_turns cd_l_in_turns ct_l_in_turns), sl_l_in_turns⟩)
    (c_l_in_turns : PySem.W.codeIn K cd_l_in_turns "_law_in_turns" = true)
    (k_l_in_turns : PySem.W.keepIn K (.ref f_l_in_turns) = true)
    (a_l_all_but : PySem.W.nsIn K mainGlobals "_law_all_but" = some (some (.ref f_l_all_but)))
    (l_l_all_but : K.lookup f_l_all_but = some ⟨oc_l_all_but, od_l_all_but, .func (PySem.W.fnOf "_law_all_but" "_law_all_but" (defArgs sAllBut) (defBody sAllBut) (defScope sAllBut) .none kV_l_all_but dc_l_all_but pm_l_all_but an_l_all_but cd_l_all_but ct_l_all_but), sl_l_all_but⟩)
    (c_l_all_but : PySem.W.codeIn K cd_l_all_but "_law_all_but" = true)
    (k_l_all_but : PySem.W.keepIn K (.ref f_l_all_but) = true)
    (a_l_so : PySem.W.nsIn K mainGlobals "_law_so" = some (some (.ref f_l_so)))
    (l_l_so : K.lookup f_l_so = some ⟨oc_l_so, od_l_so, .func (PySem.W.fnOf "_law_so" "_law_so" (defArgs sSo) (defBody sSo) (defScope sSo) .none kV_l_so dc_l_so pm_l_so an_l_so cd_l_so ct_l_so), sl_l_so⟩)
    (c_l_so : PySem.W.codeIn K cd_l_so "_law_so" = true)
    (k_l_so : PySem.W.keepIn K (.ref f_l_so) = true)
    (a_law : PySem.W.nsIn K mainGlobals "law" = some (some (.ref f_law)))
    (l_law : K.lookup f_law = some ⟨oc_law, od_law, .func (PySem.W.fnOf "law" "law" (defArgs sLaw) (defBody sLaw) (defScope sLaw) .none kV_law dc_law pm_law an_law cd_law ct_law), sl_law⟩)
    (c_law : PySem.W.codeIn K cd_law "law" = true)
    (k_law : PySem.W.keepIn K (.ref f_law) = true)
    (n_LEAST : PySem.W.nsIn K mainGlobals "LEAST" = some (some (.int 0 tk_LEAST)))
    (n_GREATEST : PySem.W.nsIn K mainGlobals "GREATEST" = some (some (.int 255 tk_GREATEST)))
    (n_FIRST_TELLS : PySem.W.nsIn K mainGlobals "FIRST_TELLS" = some (some (.int 256 tk_FIRST_TELLS)))
    (n_ROUND : PySem.W.nsIn K mainGlobals "ROUND" = some (some (.int 256 tk_ROUND)))
    (n_ESCAPE : PySem.W.nsIn K mainGlobals "ESCAPE" = some (some (.int 125 tk_ESCAPE)))
    (n_BEGINNING : PySem.W.nsIn K mainGlobals "BEGINNING" = some (some (.int 126 tk_BEGINNING)))
    (n_TELLS_ESCAPE : PySem.W.nsIn K mainGlobals "TELLS_ESCAPE" = some (some (.int 1 tk_TELLS_ESCAPE)))
    (n_TELLS_BEGINNING : PySem.W.nsIn K mainGlobals "TELLS_BEGINNING" = some (some (.int 2 tk_TELLS_BEGINNING)))
    (n_AT_REST : PySem.W.nsIn K mainGlobals "AT_REST" = some (some (.str "at rest" tk_AT_REST)))
    (n_PASSING_OVER : PySem.W.nsIn K mainGlobals "PASSING_OVER" = some (some (.str "passing over" tk_PASSING_OVER)))
    (n_IN_BOX : PySem.W.nsIn K mainGlobals "IN_BOX" = some (some (.str "in a box" tk_IN_BOX)))
    (n_BEHIND_ESCAPE : PySem.W.nsIn K mainGlobals "BEHIND_ESCAPE" = some (some (.str "in a box, behind an escape" tk_BEHIND_ESCAPE)))
    (n_OF_LENGTH : PySem.W.nsIn K mainGlobals "OF_LENGTH" = some (some (.int 2 tk_OF_LENGTH)))
    (n_OF_LABEL : PySem.W.nsIn K mainGlobals "OF_LABEL" = some (some (.int 1 tk_OF_LABEL)))
    (n_OF_CHECK : PySem.W.nsIn K mainGlobals "OF_CHECK" = some (some (.int 2 tk_OF_CHECK)))
    (z_ValueError : PySem.W.nsIn K mainGlobals "ValueError" = some none)
    (z_abs : PySem.W.nsIn K mainGlobals "abs" = some none)
    (z_bool : PySem.W.nsIn K mainGlobals "bool" = some none)
    (z_enumerate : PySem.W.nsIn K mainGlobals "enumerate" = some none)
    (z_int : PySem.W.nsIn K mainGlobals "int" = some none)
    (z_isinstance : PySem.W.nsIn K mainGlobals "isinstance" = some none)
    (z_len : PySem.W.nsIn K mainGlobals "len" = some none)
    (z_list : PySem.W.nsIn K mainGlobals "list" = some none)
    (z_max : PySem.W.nsIn K mainGlobals "max" = some none)
    (z_min : PySem.W.nsIn K mainGlobals "min" = some none)
    (z_range : PySem.W.nsIn K mainGlobals "range" = some none)
    (z_sorted : PySem.W.nsIn K mainGlobals "sorted" = some none)
    (z_str : PySem.W.nsIn K mainGlobals "str" = some none)
    (z_tuple : PySem.W.nsIn K mainGlobals "tuple" = some none)
    (pg_Hands : PySem.W.plainGet K C_Hands Str.empty = true)
    (hd_Hands : PySem.W.hasDictIn K C_Hands = true)
    (po_Hands : PySem.W.plainOver K C_Hands = true)
    (sa_Hands : PySem.W.findIn K (.ref C_Hands) "__setattr__" = some (some (.builtin "object.__setattr__")))
    (mk_Hands : PySem.W.makesIn K C_Hands = true)
    (kc_Hands : PySem.W.keepIn K (.ref C_Hands) = true)
    (na_Hands_due : PySem.W.findIn K (.ref C_Hands) "due" = some none)
    (na_Hands_numbers : PySem.W.findIn K (.ref C_Hands) "numbers" = some none)
    (na_Hands_news : PySem.W.findIn K (.ref C_Hands) "news" = some none)
    (pg_Belt : PySem.W.plainGet K C_Belt Str.empty = true)
    (hd_Belt : PySem.W.hasDictIn K C_Belt = true)
    (po_Belt : PySem.W.plainOver K C_Belt = true)
    (sa_Belt : PySem.W.findIn K (.ref C_Belt) "__setattr__" = some (some (.builtin "object.__setattr__")))
    (mk_Belt : PySem.W.makesIn K C_Belt = true)
    (kc_Belt : PySem.W.keepIn K (.ref C_Belt) = true)
    (na_Belt_place : PySem.W.findIn K (.ref C_Belt) "place" = some none)
    (na_Belt_phase : PySem.W.findIn K (.ref C_Belt) "phase" = some none)
    (na_Belt_start : PySem.W.findIn K (.ref C_Belt) "start" = some none)
    (na_Belt_inside : PySem.W.findIn K (.ref C_Belt) "inside" = some none)
    (t_ii : PySem.W.kitOne K (.type "int") (.type "int") = some true)
    (t_ib : PySem.W.kitOne K (.type "int") (.type "bool") = some false)
    (t_ll : PySem.W.kitOne K (.type "list") (.type "list") = some true)
    (s_al : PySem.W.kitAny K (.type "list") [.type "list", .type "tuple"] = some true)
    (s_at : PySem.W.kitAny K (.type "tuple") [.type "list", .type "tuple"] = some true)
    (s_as : PySem.W.kitAny K (.type "str") [.type "list", .type "tuple"] = some false)
    (s_ab : PySem.W.kitAny K (.type "bool") [.type "list", .type "tuple"] = some false)
    (s_an : PySem.W.kitAny K (.type "NoneType") [.type "list", .type "tuple"] = some false)
    (s_ai : PySem.W.kitAny K (.type "int") [.type "list", .type "tuple"] = some false)
    (s_ll : PySem.W.kitOne K (.type "list") (.type "list") = some true)
    (s_lt : PySem.W.kitOne K (.type "list") (.type "tuple") = some false)
    (s_tl : PySem.W.kitOne K (.type "tuple") (.type "list") = some false)
    (s_tt : PySem.W.kitOne K (.type "tuple") (.type "tuple") = some true)
    (s_ss : PySem.W.kitOne K (.type "str") (.type "str") = some true)
    (s_bs : PySem.W.kitOne K (.type "bool") (.type "str") = some false)
    (s_ns : PySem.W.kitOne K (.type "NoneType") (.type "str") = some false)
    (s_is : PySem.W.kitOne K (.type "int") (.type "str") = some false)
    (s_bb : PySem.W.kitOne K (.type "bool") (.type "bool") = some true)
    (s_nb : PySem.W.kitOne K (.type "NoneType") (.type "bool") = some false)
    (s_ib : PySem.W.kitOne K (.type "int") (.type "bool") = some false)
    (s_ii : PySem.W.kitOne K (.type "int") (.type "int") = some true)
    (x_NoNumber : PySem.W.excIn K C_NoNumber bmV "ValueError.__new__" = true) :
    ∃ fd : FuncData, (∀ (s : Shared) (v : Value), BindsTo s fd ⟨[v], []⟩ [("_law_script", v)]) ∧ ∀ base : Heap, K.In base → base.Ns mainGlobals mg → FnOk l.prog w K mg base (CXs l.prog w) 12 fa fd ["_law_script"] (spLaw K) := by
  have e := hfa.symm.trans (PySem.W.mg_of X G a_law)
  cases e
  have F_Hands___init__ := fun_mk (st := sHands_init) l_Hands___init__ c_Hands___init__ k_Hands___init__
  have D_Hands___init__ : MDef K C_Hands "__init__" "Hands.__init__" sHands_init ["self"] f_Hands___init__ _ := ⟨F_Hands___init__, F_Hands___init__.binds (ps := ["self"]) fun _ _ _ _ _ _ us hl => match us, hl with | [_], _ => rfl, ⟨a_Hands___init__, i_Hands___init__, k_Hands___init__⟩⟩
  have F_Hands_hold := fun_mk (st := sHands_hold) l_Hands_hold c_Hands_hold k_Hands_hold
  have D_Hands_hold : MDef K C_Hands "hold" "Hands.hold" sHands_hold ["self", "sender", "numbers", "due"] f_Hands_hold _ := ⟨F_Hands_hold, F_Hands_hold.binds (ps := ["self", "sender", "numbers", "due"]) fun _ _ _ _ _ _ us hl => match us, hl with | [_, _, _, _], _ => rfl, ⟨a_Hands_hold, i_Hands_hold, k_Hands_hold⟩⟩
  have F_Hands_let_go := fun_mk (st := sHands_let_go) l_Hands_let_go c_Hands_let_go k_Hands_let_go
  have D_Hands_let_go : MDef K C_Hands "let_go" "Hands.let_go" sHands_let_go ["self", "sender"] f_Hands_let_go _ := ⟨F_Hands_let_go, F_Hands_let_go.binds (ps := ["self", "sender"]) fun _ _ _ _ _ _ us hl => match us, hl with | [_, _], _ => rfl, ⟨a_Hands_let_go, i_Hands_let_go, k_Hands_let_go⟩⟩
  have F_Hands_lose := fun_mk (st := sHands_lose) l_Hands_lose c_Hands_lose k_Hands_lose
  have D_Hands_lose : MDef K C_Hands "lose" "Hands.lose" sHands_lose ["self", "sender", "start"] f_Hands_lose _ := ⟨F_Hands_lose, F_Hands_lose.binds (ps := ["self", "sender", "start"]) fun _ _ _ _ _ _ us hl => match us, hl with | [_, _, _], _ => rfl, ⟨a_Hands_lose, i_Hands_lose, k_Hands_lose⟩⟩
  have F_Hands_keep := fun_mk (st := sHands_keep) l_Hands_keep c_Hands_keep k_Hands_keep
  have D_Hands_keep : MDef K C_Hands "keep" "Hands.keep" sHands_keep ["self", "sender", "numbers", "start"] f_Hands_keep _ := ⟨F_Hands_keep, F_Hands_keep.binds (ps := ["self", "sender", "numbers", "start"]) fun _ _ _ _ _ _ us hl => match us, hl with | [_, _, _, _], _ => rfl, ⟨a_Hands_keep, i_Hands_keep, k_Hands_keep⟩⟩
  have F_Hands_take := fun_mk (st := sHands_take) l_Hands_take c_Hands_take k_Hands_take
  have D_Hands_take : MDef K C_Hands "take" "Hands.take" sHands_take ["self", "label", "numbers", "start", "place"] f_Hands_take _ := ⟨F_Hands_take, F_Hands_take.binds (ps := ["self", "label", "numbers", "start", "place"]) fun _ _ _ _ _ _ us hl => match us, hl with | [_, _, _, _, _], _ => rfl, ⟨a_Hands_take, i_Hands_take, k_Hands_take⟩⟩
  have F_Belt___init__ := fun_mk (st := sBelt_init) l_Belt___init__ c_Belt___init__ k_Belt___init__
  have D_Belt___init__ : MDef K C_Belt "__init__" "Belt.__init__" sBelt_init ["self", "place", "phase", "start", "inside"] f_Belt___init__ _ := ⟨F_Belt___init__, F_Belt___init__.binds (ps := ["self", "place", "phase", "start", "inside"]) fun _ _ _ _ _ _ us hl => match us, hl with | [_, _, _, _, _], _ => rfl, ⟨a_Belt___init__, i_Belt___init__, k_Belt___init__⟩⟩
  have F_Belt_twin := fun_mk (st := sBelt_twin) l_Belt_twin c_Belt_twin k_Belt_twin
  have D_Belt_twin : MDef K C_Belt "twin" "Belt.twin" sBelt_twin ["self"] f_Belt_twin _ := ⟨F_Belt_twin, F_Belt_twin.binds (ps := ["self"]) fun _ _ _ _ _ _ us hl => match us, hl with | [_], _ => rfl, ⟨a_Belt_twin, i_Belt_twin, k_Belt_twin⟩⟩
  have F_Belt_box_is_unfinished := fun_mk (st := sBelt_box_is_unfinished) l_Belt_box_is_unfinished c_Belt_box_is_unfinished k_Belt_box_is_unfinished
  have D_Belt_box_is_unfinished : MDef K C_Belt "box_is_unfinished" "Belt.box_is_unfinished" sBelt_box_is_unfinished ["self"] f_Belt_box_is_unfinished _ := ⟨F_Belt_box_is_unfinished, F_Belt_box_is_unfinished.binds (ps := ["self"]) fun _ _ _ _ _ _ us hl => match us, hl with | [_], _ => rfl, ⟨a_Belt_box_is_unfinished, i_Belt_box_is_unfinished, k_Belt_box_is_unfinished⟩⟩
  have F_Belt_tell_fault := fun_mk (st := sBelt_tell_fault) l_Belt_tell_fault c_Belt_tell_fault k_Belt_tell_fault
  have D_Belt_tell_fault : MDef K C_Belt "tell_fault" "Belt.tell_fault" sBelt_tell_fault ["self", "word"] f_Belt_tell_fault _ := ⟨F_Belt_tell_fault, F_Belt_tell_fault.binds (ps := ["self", "word"]) fun _ _ _ _ _ _ us hl => match us, hl with | [_, _], _ => rfl, ⟨a_Belt_tell_fault, i_Belt_tell_fault, k_Belt_tell_fault⟩⟩
  have F_Belt_tell_unfinished := fun_mk (st := sBelt_tell_unfinished) l_Belt_tell_unfinished c_Belt_tell_unfinished k_Belt_tell_unfinished
  have D_Belt_tell_unfinished : MDef K C_Belt "tell_unfinished" "Belt.tell_unfinished" sBelt_tell_unfinished ["self", "word"] f_Belt_tell_unfinished _ := ⟨F_Belt_tell_unfinished, F_Belt_tell_unfinished.binds (ps := ["self", "word"]) fun _ _ _ _ _ _ us hl => match us, hl with | [_, _], _ => rfl, ⟨a_Belt_tell_unfinished, i_Belt_tell_unfinished, k_Belt_tell_unfinished⟩⟩
  have F_Belt_pass_over := fun_mk (st := sBelt_pass_over) l_Belt_pass_over c_Belt_pass_over k_Belt_pass_over
  have D_Belt_pass_over : MDef K C_Belt "pass_over" "Belt.pass_over" sBelt_pass_over ["self", "word"] f_Belt_pass_over _ := ⟨F_Belt_pass_over, F_Belt_pass_over.binds (ps := ["self", "word"]) fun _ _ _ _ _ _ us hl => match us, hl with | [_, _], _ => rfl, ⟨a_Belt_pass_over, i_Belt_pass_over, k_Belt_pass_over⟩⟩
  have F_Belt_begin_box := fun_mk (st := sBelt_begin_box) l_Belt_begin_box c_Belt_begin_box k_Belt_begin_box
  have D_Belt_begin_box : MDef K C_Belt "begin_box" "Belt.begin_box" sBelt_begin_box ["self"] f_Belt_begin_box _ := ⟨F_Belt_begin_box, F_Belt_begin_box.binds (ps := ["self"]) fun _ _ _ _ _ _ us hl => match us, hl with | [_], _ => rfl, ⟨a_Belt_begin_box, i_Belt_begin_box, k_Belt_begin_box⟩⟩
  have F_Belt_end_box := fun_mk (st := sBelt_end_box) l_Belt_end_box c_Belt_end_box k_Belt_end_box
  have D_Belt_end_box : MDef K C_Belt "end_box" "Belt.end_box" sBelt_end_box ["self"] f_Belt_end_box _ := ⟨F_Belt_end_box, F_Belt_end_box.binds (ps := ["self"]) fun _ _ _ _ _ _ us hl => match us, hl with | [_], _ => rfl, ⟨a_Belt_end_box, i_Belt_end_box, k_Belt_end_box⟩⟩
  have F_Belt_put_in := fun_mk (st := sBelt_put_in) l_Belt_put_in c_Belt_put_in k_Belt_put_in
  have D_Belt_put_in : MDef K C_Belt "put_in" "Belt.put_in" sBelt_put_in ["self", "number", "most"] f_Belt_put_in _ := ⟨F_Belt_put_in, F_Belt_put_in.binds (ps := ["self", "number", "most"]) fun _ _ _ _ _ _ us hl => match us, hl with | [_, _, _], _ => rfl, ⟨a_Belt_put_in, i_Belt_put_in, k_Belt_put_in⟩⟩
  have F_Belt_put_in_escaped := fun_mk (st := sBelt_put_in_escaped) l_Belt_put_in_escaped c_Belt_put_in_escaped k_Belt_put_in_escaped
  have D_Belt_put_in_escaped : MDef K C_Belt "put_in_escaped" "Belt.put_in_escaped" sBelt_put_in_escaped ["self", "number", "most"] f_Belt_put_in_escaped _ := ⟨F_Belt_put_in_escaped, F_Belt_put_in_escaped.binds (ps := ["self", "number", "most"]) fun _ _ _ _ _ _ us hl => match us, hl with | [_, _, _], _ => rfl, ⟨a_Belt_put_in_escaped, i_Belt_put_in_escaped, k_Belt_put_in_escaped⟩⟩
  have F_Belt_take := fun_mk (st := sBelt_take) l_Belt_take c_Belt_take k_Belt_take
  have D_Belt_take : MDef K C_Belt "take" "Belt.take" sBelt_take ["self", "number", "most"] f_Belt_take _ := ⟨F_Belt_take, F_Belt_take.binds (ps := ["self", "number", "most"]) fun _ _ _ _ _ _ us hl => match us, hl with | [_, _, _], _ => rfl, ⟨a_Belt_take, i_Belt_take, k_Belt_take⟩⟩
  have F_hands_behind := fun_mk (st := s_hands_behind) l_hands_behind c_hands_behind k_hands_behind
  have D_hands_behind : Def K mg "hands_behind" s_hands_behind ["told"] f_hands_behind _ := ⟨F_hands_behind, F_hands_behind.binds (ps := ["told"]) fun _ _ _ _ _ _ us hl => match us, hl with | [_], _ => rfl, PySem.W.mg_of X G a_hands_behind⟩
  have F_unpacked := fun_mk (st := s_unpacked) l_unpacked c_unpacked k_unpacked
  have D_unpacked : Def K mg "unpacked" s_unpacked ["told"] f_unpacked _ := ⟨F_unpacked, F_unpacked.binds (ps := ["told"]) fun _ _ _ _ _ _ us hl => match us, hl with | [_], _ => rfl, PySem.W.mg_of X G a_unpacked⟩
  have F_waiting := fun_mk (st := s_waiting) l_waiting c_waiting k_waiting
  have D_waiting : Def K mg "waiting" s_waiting ["told"] f_waiting _ := ⟨F_waiting, F_waiting.binds (ps := ["told"]) fun _ _ _ _ _ _ us hl => match us, hl with | [_], _ => rfl, PySem.W.mg_of X G a_waiting⟩
  have F_is_belt_number := fun_mk (st := sIs) l_is_belt_number c_is_belt_number k_is_belt_number
  have D_is_belt_number : Def K mg "is_belt_number" sIs ["number"] f_is_belt_number _ := ⟨F_is_belt_number, F_is_belt_number.binds (ps := ["number"]) fun _ _ _ _ _ _ us hl => match us, hl with | [_], _ => rfl, PySem.W.mg_of X G a_is_belt_number⟩
  have F_place_of_other := fun_mk (st := s_place_of_other) l_place_of_other c_place_of_other k_place_of_other
  have D_place_of_other : Def K mg "place_of_other" s_place_of_other ["numbers"] f_place_of_other _ := ⟨F_place_of_other, F_place_of_other.binds (ps := ["numbers"]) fun _ _ _ _ _ _ us hl => match us, hl with | [_], _ => rfl, PySem.W.mg_of X G a_place_of_other⟩
  have F_refuse_other_numbers := fun_mk (st := sRefuse) l_refuse_other_numbers c_refuse_other_numbers k_refuse_other_numbers
  have D_refuse_other_numbers : Def K mg "refuse_other_numbers" sRefuse ["numbers"] f_refuse_other_numbers _ := ⟨F_refuse_other_numbers, F_refuse_other_numbers.binds (ps := ["numbers"]) fun _ _ _ _ _ _ us hl => match us, hl with | [_], _ => rfl, PySem.W.mg_of X G a_refuse_other_numbers⟩
  have F_length_of_two := fun_mk (st := s_length_of_two) l_length_of_two c_length_of_two k_length_of_two
  have D_length_of_two : Def K mg "length_of_two" s_length_of_two ["first", "second"] f_length_of_two _ := ⟨F_length_of_two, F_length_of_two.binds (ps := ["first", "second"]) fun _ _ _ _ _ _ us hl => match us, hl with | [_, _], _ => rfl, PySem.W.mg_of X G a_length_of_two⟩
  have F_check_of := fun_mk (st := sCheckOf) l_check_of c_check_of k_check_of
  have D_check_of : Def K mg "check_of" sCheckOf ["numbers"] f_check_of _ := ⟨F_check_of, F_check_of.binds (ps := ["numbers"]) fun _ _ _ _ _ _ us hl => match us, hl with | [_], _ => rfl, PySem.W.mg_of X G a_check_of⟩
  have F_meaning_behind_escape := fun_mk (st := s_meaning_behind_escape) l_meaning_behind_escape c_meaning_behind_escape k_meaning_behind_escape
  have D_meaning_behind_escape : Def K mg "meaning_behind_escape" s_meaning_behind_escape ["number"] f_meaning_behind_escape _ := ⟨F_meaning_behind_escape, F_meaning_behind_escape.binds (ps := ["number"]) fun _ _ _ _ _ _ us hl => match us, hl with | [_], _ => rfl, PySem.W.mg_of X G a_meaning_behind_escape⟩
  have F_begun := fun_mk (st := s_begun) l_begun c_begun k_begun
  have D_begun : Def K mg "begun" s_begun [] f_begun _ := ⟨F_begun, F_begun.binds (ps := []) fun _ _ _ _ _ _ us hl => match us, hl with | [], _ => rfl, PySem.W.mg_of X G a_begun⟩
  have F_fed := fun_mk (st := s_fed) l_fed c_fed k_fed
  have D_fed : Def K mg "fed" s_fed ["state", "piece", "most"] f_fed _ := ⟨F_fed, F_fed.binds (ps := ["state", "piece", "most"]) fun _ _ _ _ _ _ us hl => match us, hl with | [_, _, _], _ => rfl, PySem.W.mg_of X G a_fed⟩
  have F_ended := fun_mk (st := s_ended) l_ended c_ended k_ended
  have D_ended : Def K mg "ended" s_ended ["state"] f_ended _ := ⟨F_ended, F_ended.binds (ps := ["state"]) fun _ _ _ _ _ _ us hl => match us, hl with | [_], _ => rfl, PySem.W.mg_of X G a_ended⟩
  have F_told_by := fun_mk (st := s_told_by) l_told_by c_told_by k_told_by
  have D_told_by : Def K mg "told_by" s_told_by ["pieces", "most"] f_told_by _ := ⟨F_told_by, F_told_by.binds (ps := ["pieces", "most"]) fun _ _ _ _ _ _ us hl => match us, hl with | [_, _], _ => rfl, PySem.W.mg_of X G a_told_by⟩
  have F_l_at := fun_mk (st := sAt) l_l_at c_l_at k_l_at
  have D_l_at : Def K mg "_law_at" sAt ["_law_script", "_law_k"] f_l_at _ := ⟨F_l_at, F_l_at.binds (ps := ["_law_script", "_law_k"]) fun _ _ _ _ _ _ us hl => match us, hl with | [_, _], _ => rfl, PySem.W.mg_of X G a_l_at⟩
  have F_l_check := fun_mk (st := sLCheck) l_l_check c_l_check k_l_check
  have D_l_check : Def K mg "_law_check" sLCheck ["_law_numbers"] f_l_check _ := ⟨F_l_check, F_l_check.binds (ps := ["_law_numbers"]) fun _ _ _ _ _ _ us hl => match us, hl with | [_], _ => rfl, PySem.W.mg_of X G a_l_check⟩
  have F_l_inside := fun_mk (st := sInside) l_l_inside c_l_inside k_l_inside
  have D_l_inside : Def K mg "_law_inside" sInside ["_law_box"] f_l_inside _ := ⟨F_l_inside, F_l_inside.binds (ps := ["_law_box"]) fun _ _ _ _ _ _ us hl => match us, hl with | [_], _ => rfl, PySem.W.mg_of X G a_l_inside⟩
  have F_l_wire := fun_mk (st := sWire) l_l_wire c_l_wire k_l_wire
  have D_l_wire : Def K mg "_law_wire" sWire ["_law_numbers"] f_l_wire _ := ⟨F_l_wire, F_l_wire.binds (ps := ["_law_numbers"]) fun _ _ _ _ _ _ us hl => match us, hl with | [_], _ => rfl, PySem.W.mg_of X G a_l_wire⟩
  have F_l_sent_off := fun_mk (st := sSentOff) l_l_sent_off c_l_sent_off k_l_sent_off
  have D_l_sent_off : Def K mg "_law_sent_off" sSentOff ["_law_cells", "_law_sort"] f_l_sent_off _ := ⟨F_l_sent_off, F_l_sent_off.binds (ps := ["_law_cells", "_law_sort"]) fun _ _ _ _ _ _ us hl => match us, hl with | [_, _], _ => rfl, PySem.W.mg_of X G a_l_sent_off⟩
  have F_l_boxed := fun_mk (st := sBoxed) l_l_boxed c_l_boxed k_l_boxed
  have D_l_boxed : Def K mg "_law_boxed" sBoxed ["_law_parcel", "_law_many"] f_l_boxed _ := ⟨F_l_boxed, F_l_boxed.binds (ps := ["_law_parcel", "_law_many"]) fun _ _ _ _ _ _ us hl => match us, hl with | [_, _], _ => rfl, PySem.W.mg_of X G a_l_boxed⟩
  have F_l_in_turns := fun_mk (st := sInTurns) l_l_in_turns c_l_in_turns k_l_in_turns
  have D_l_in_turns : Def K mg "_law_in_turns" sInTurns ["_law_parcels", "_law_many"] f_l_in_turns _ := ⟨F_l_in_turns, F_l_in_turns.binds (ps := ["_law_parcels", "_law_many"]) fun _ _ _ _ _ _ us hl => match us, hl with | [_, _], _ => rfl, PySem.W.mg_of X G a_l_in_turns⟩
  have F_l_all_but := fun_mk (st := sAllBut) l_l_all_but c_l_all_but k_l_all_but
  have D_l_all_but : Def K mg "_law_all_but" sAllBut ["_law_mix", "_law_parcels", "_law_gone"] f_l_all_but _ := ⟨F_l_all_but, F_l_all_but.binds (ps := ["_law_mix", "_law_parcels", "_law_gone"]) fun _ _ _ _ _ _ us hl => match us, hl with | [_, _, _], _ => rfl, PySem.W.mg_of X G a_l_all_but⟩
  have F_l_so := fun_mk (st := sSo) l_l_so c_l_so k_l_so
  have D_l_so : Def K mg "_law_so" sSo ["_law_found", "_law_due"] f_l_so _ := ⟨F_l_so, F_l_so.binds (ps := ["_law_found", "_law_due"]) fun _ _ _ _ _ _ us hl => match us, hl with | [_, _], _ => rfl, PySem.W.mg_of X G a_l_so⟩
  have F_law := fun_mk (st := sLaw) l_law c_law k_law
  have N_LEAST : IntC mg "LEAST" 0 := ⟨_, PySem.W.mg_of X G n_LEAST⟩
  have N_GREATEST : IntC mg "GREATEST" 255 := ⟨_, PySem.W.mg_of X G n_GREATEST⟩
  have N_FIRST_TELLS : IntC mg "FIRST_TELLS" 256 := ⟨_, PySem.W.mg_of X G n_FIRST_TELLS⟩
  have N_ROUND : IntC mg "ROUND" 256 := ⟨_, PySem.W.mg_of X G n_ROUND⟩
  have N_ESCAPE : IntC mg "ESCAPE" 125 := ⟨_, PySem.W.mg_of X G n_ESCAPE⟩
  have N_BEGINNING : IntC mg "BEGINNING" 126 := ⟨_, PySem.W.mg_of X G n_BEGINNING⟩
  have N_TELLS_ESCAPE : IntC mg "TELLS_ESCAPE" 1 := ⟨_, PySem.W.mg_of X G n_TELLS_ESCAPE⟩
  have N_TELLS_BEGINNING : IntC mg "TELLS_BEGINNING" 2 := ⟨_, PySem.W.mg_of X G n_TELLS_BEGINNING⟩
  have N_AT_REST : StrC mg "AT_REST" "at rest" := ⟨_, PySem.W.mg_of X G n_AT_REST⟩
  have N_PASSING_OVER : StrC mg "PASSING_OVER" "passing over" := ⟨_, PySem.W.mg_of X G n_PASSING_OVER⟩
  have N_IN_BOX : StrC mg "IN_BOX" "in a box" := ⟨_, PySem.W.mg_of X G n_IN_BOX⟩
  have N_BEHIND_ESCAPE : StrC mg "BEHIND_ESCAPE" "in a box, behind an escape" := ⟨_, PySem.W.mg_of X G n_BEHIND_ESCAPE⟩
  have N_OF_LENGTH : IntC mg "OF_LENGTH" 2 := ⟨_, PySem.W.mg_of X G n_OF_LENGTH⟩
  have N_OF_LABEL : IntC mg "OF_LABEL" 1 := ⟨_, PySem.W.mg_of X G n_OF_LABEL⟩
  have N_OF_CHECK : IntC mg "OF_CHECK" 2 := ⟨_, PySem.W.mg_of X G n_OF_CHECK⟩
  have Z_ValueError : mg "ValueError" = none := PySem.W.mg_none_of X G z_ValueError
  have Z_abs : mg "abs" = none := PySem.W.mg_none_of X G z_abs
  have Z_bool : mg "bool" = none := PySem.W.mg_none_of X G z_bool
  have Z_enumerate : mg "enumerate" = none := PySem.W.mg_none_of X G z_enumerate
  have Z_int : mg "int" = none := PySem.W.mg_none_of X G z_int
  have Z_isinstance : mg "isinstance" = none := PySem.W.mg_none_of X G z_isinstance
  have Z_len : mg "len" = none := PySem.W.mg_none_of X G z_len
  have Z_list : mg "list" = none := PySem.W.mg_none_of X G z_list
  have Z_max : mg "max" = none := PySem.W.mg_none_of X G z_max
  have Z_min : mg "min" = none := PySem.W.mg_none_of X G z_min
  have Z_range : mg "range" = none := PySem.W.mg_none_of X G z_range
  have Z_sorted : mg "sorted" = none := PySem.W.mg_none_of X G z_sorted
  have Z_str : mg "str" = none := PySem.W.mg_none_of X G z_str
  have Z_tuple : mg "tuple" = none := PySem.W.mg_none_of X G z_tuple
  have M_Hands : mg "Hands" = some (.ref C_Hands) := PySem.W.mg_of X G e_Hands
  have K_Hands : Cls K C_Hands := ⟨pg_Hands, hd_Hands, po_Hands, sa_Hands⟩
  have MK_Hands : Mk K C_Hands f_Hands___init__ := ⟨mk_Hands, a_Hands___init__, i_Hands___init__, kc_Hands⟩
  have M_BeltError : mg "BeltError" = some (.ref C_BeltError) := PySem.W.mg_of X G e_BeltError
  have M_NoNumber : mg "NoNumber" = some (.ref C_NoNumber) := PySem.W.mg_of X G e_NoNumber
  have M_Belt : mg "Belt" = some (.ref C_Belt) := PySem.W.mg_of X G e_Belt
  have K_Belt : Cls K C_Belt := ⟨pg_Belt, hd_Belt, po_Belt, sa_Belt⟩
  have MK_Belt : Mk K C_Belt f_Belt___init__ := ⟨mk_Belt, a_Belt___init__, i_Belt___init__, kc_Belt⟩
  refine ⟨PySem.W.fnOf "law" "law" (defArgs sLaw) (defBody sLaw) (defScope sLaw) .none kV_law dc_law pm_law an_law cd_law ct_law, fun s v => .of_eq rfl, fun base _ _ => ?_⟩
  have B : Blt K mg := ⟨Z_isinstance, Z_int, Z_bool, Z_list, Z_len, Z_range, Z_abs, t_ii, t_ib, t_ll⟩
  have G_is := ok_is (P := l.prog) (w := w) (mg := mg) (base := base) F_is_belt_number N_LEAST N_GREATEST
  have G_place := ok_place F_place_of_other D_is_belt_number G_is Z_enumerate
  have R : Err K mg "NoNumber" C_NoNumber := ⟨M_NoNumber, x_NoNumber⟩
  have G_refuse := ok_refuse F_refuse_other_numbers D_place_of_other G_place R
  have G_check := ok_checkOf F_check_of D_refuse_other_numbers G_refuse N_ROUND
  have T : TB K mg C_Belt := ⟨K_Belt, na_Belt_place, na_Belt_phase, na_Belt_start, na_Belt_inside, M_Belt⟩
  have G_len2 := ok_len2 (P := l.prog) (w := w) (mg := mg) (base := base) F_length_of_two N_FIRST_TELLS
  have G_mean := ok_mean (P := l.prog) (w := w) (mg := mg) (base := base) F_meaning_behind_escape N_TELLS_ESCAPE N_TELLS_BEGINNING N_ESCAPE N_BEGINNING
  have G_init := ok_init (P := l.prog) (w := w) (mg := mg) (base := base) F_Belt___init__ T
  have G_twin := ok_twin F_Belt_twin T B MK_Belt D_Belt___init__.b G_init
  have G_unf := ok_unf (P := l.prog) (w := w) (mg := mg) (base := base) F_Belt_box_is_unfinished T N_IN_BOX N_BEHIND_ESCAPE
  have G_fault := ok_fault (P := l.prog) (w := w) (mg := mg) (base := base) F_Belt_tell_fault T
  have G_tu := ok_tellUnf F_Belt_tell_unfinished T D_Belt_box_is_unfinished G_unf D_Belt_tell_fault G_fault
  have G_pass := ok_pass F_Belt_pass_over T N_PASSING_OVER D_Belt_tell_fault G_fault
  have G_begin := ok_begin F_Belt_begin_box T N_IN_BOX D_Belt_tell_unfinished G_tu
  have G_end := ok_end F_Belt_end_box T N_AT_REST N_OF_LENGTH N_OF_LABEL N_OF_CHECK D_check_of G_check D_Belt_tell_fault G_fault
  have G_put := ok_put F_Belt_put_in T B N_OF_LENGTH N_OF_LABEL N_OF_CHECK D_length_of_two G_len2 D_Belt_pass_over G_pass D_Belt_end_box G_end
  have G_pe := ok_putE F_Belt_put_in_escaped T N_IN_BOX D_meaning_behind_escape G_mean D_Belt_pass_over G_pass D_Belt_put_in G_put
  have G_take := ok_take F_Belt_take T N_AT_REST N_PASSING_OVER N_BEHIND_ESCAPE N_ESCAPE N_BEGINNING D_Belt_begin_box G_begin D_Belt_pass_over G_pass D_Belt_put_in_escaped G_pe D_Belt_put_in G_put
  have G_begun := ok_begun F_begun T N_AT_REST MK_Belt D_Belt___init__.b G_init
  have G_fed := ok_fed F_fed T D_refuse_other_numbers G_refuse D_Belt_twin G_twin D_Belt_take G_take
  have G_ended := ok_ended F_ended T D_Belt_tell_unfinished G_tu
  have G_tb := ok_toldBy F_told_by D_begun G_begun D_fed G_fed D_ended G_ended
  have G_at := ok_at (P := l.prog) (w := w) (mg := mg) (base := base) F_l_at Z_len
  have G_lcheck := ok_lcheck (P := l.prog) (w := w) (mg := mg) (base := base) F_l_check B
  have G_wire := ok_wire (P := l.prog) (w := w) (mg := mg) (base := base) F_l_wire
  have S : SoK K mg := ⟨Z_isinstance, Z_list, Z_tuple, Z_str, Z_bool, Z_int, Z_len, Z_range, s_al, s_at, s_as, s_ab, s_an, s_ai, s_ll, s_lt, s_tl, s_tt, s_ss, s_bs, s_ns, s_is, s_bb, s_nb, s_ib, s_ii⟩
  have G_so := ok_so (P := l.prog) (w := w) (mg := mg) (base := base) F_l_so S
  have G_inside := ok_inside F_l_inside Z_len D_l_check G_lcheck
  have G_boxed := ok_boxed (P := l.prog) (w := w) (mg := mg) (base := base) F_l_boxed B
  have T2 : TH K mg C_Hands := ⟨K_Hands, na_Hands_due, na_Hands_numbers, na_Hands_news, M_Hands⟩
  have G_hi := ok_hinit (P := l.prog) (w := w) (mg := mg) (base := base) F_Hands___init__ T2
  have G_ho := ok_hold (P := l.prog) (w := w) (mg := mg) (base := base) F_Hands_hold T2
  have G_lg := ok_letGo (P := l.prog) (w := w) (mg := mg) (base := base) F_Hands_let_go T2
  have G_lo := ok_lose F_Hands_lose T2 D_Hands_let_go G_lg
  have G_ke := ok_keep F_Hands_keep T2 D_Hands_hold G_ho D_Hands_lose G_lo
  have G_ht := ok_htake F_Hands_take T2 D_Hands_keep G_ke D_Hands_let_go G_lg
  have G_bh := ok_behind F_hands_behind T2 MK_Hands D_Hands___init__.b G_hi D_Hands_take G_ht
  have G_un := ok_unpacked F_unpacked T2 D_hands_behind G_bh
  have G_wa := ok_waiting F_waiting T2 Z_sorted D_hands_behind G_bh
  have G_soff := ok_sentOff (P := l.prog) (w := w) (mg := mg) (base := base) F_l_sent_off B
  have G_turns := ok_turns F_l_in_turns B Z_sorted D_l_boxed G_boxed
  have G_ab := ok_allBut (P := l.prog) (w := w) (mg := mg) (base := base) F_l_all_but
  exact ok_law F_law B S D_l_sent_off G_soff D_l_at G_at D_l_in_turns G_turns D_l_inside G_inside D_l_wire G_wire D_told_by G_tb D_unpacked G_un D_waiting G_wa D_l_all_but G_ab D_l_so G_so
theorem walk {l : PySem.W.OpenLaw} {q : Program} {loose : List Str} {XP : (Str → Option Value) → Heap → Prop} {YP : World → Heap → Prop} {d : DefRec} {K : Params → PySem.W.Frag} (hn : l.most = some 63) (hdf : d.params.defaults = [])
    (hY : ∀ (w : World) (h : Heap), YP w h → (K w.params).In h)
    (F : ∀ (w : World) (mg : Str → Option Value) (fa : Addr) (h : Heap), (K w.params).In h → h.Ns mainGlobals mg → mg d.name = some (.ref fa) →
      ∃ fd : FuncData, (∀ (s : Shared) (u : Value), BindsTo s fd ⟨[u], []⟩ [("_law_script", u)]) ∧ ∀ base : Heap, (K w.params).In base → base.Ns mainGlobals mg → FnOk l.prog w (K w.params) mg base (CXs l.prog w) 12 fa fd ["_law_script"] (spLaw (K w.params))) :
    PySem.W.WalkO q loose XP YP l.row.toRowW d [] (fun f vs => PySem.call f vs) :=
  L2.walk_of (n := 63) (k := 12) (x := "_law_script") (CX := fun w => CXs l.prog w) (sp := fun w => spLaw (K w.params)) hn (by decide) hdf ⟨rfl, by decide, by decide⟩ hY F (fun _ _ a ns hl _ hS => ⟨a, ns, rfl, hS, hl, fun _ => rfl⟩) fun _ _ _ _ _ ⟨_, _, _, _, _, _, _, _, _, _, _, _, _, _, z⟩ => z
end BB
open PySem PySem.W PyProof.Rows
theorem PySem.W.Fast.tw7622954000630321730 : True := trivial
theorem PySem.W.Fast.tw1106759328455462243 : True := trivial
theorem PySem.W.Fast.tw6796004007779756324 : True := trivial
theorem PySem.W.Fast.tw820500034014777734 : True := trivial
theorem PySem.W.Fast.tw12401134509295666630 : True := trivial
theorem PySem.W.Fast.tw3613987284914774732 : True := trivial
theorem PySem.W.Fast.te3479904841917975982 : True := trivial
theorem PySem.W.Fast.tw14447530414906707951 : True := trivial
theorem PySem.W.Fast.tw4828934337054268594 : True := trivial
theorem PySem.W.Fast.tw6301646909006157074 : True := trivial
theorem PySem.W.Fast.tw15498659820918434418 : True := trivial
theorem PySem.W.Fast.tw9727463339655166035 : True := trivial
theorem PySem.W.Fast.tw10193039847213713012 : True := trivial
theorem PySem.W.Fast.tw18366552955317606104 : True := trivial
theorem PySem.W.Fast.tw12788141310823557177 : True := trivial
theorem PySem.W.Fast.tw9159294386652833209 : True := trivial
theorem PySem.W.Fast.tw1294237062394391899 : True := trivial
theorem PySem.W.Fast.tw1752849195803005372 : True := trivial
theorem PySem.W.Fast.tw6048783348119510845 : True := trivial
theorem PySem.W.Fast.tw11378581975795172317 : True := trivial
theorem PySem.W.Fast.tw13930975614362606719 : True := trivial
theorem PySem.W.Fast.tw15949217083809958647 : True := trivial
set_option maxRecDepth 100000 in
set_option maxHeartbeats 0 in
theorem PySem.Challenge.cw_beltboxes_k12_whole_one_box_lost_holds : PySem.Challenge.rw_beltboxes_k12_whole_one_box_lost.Holds := by
  w_on; o_law; k_head; (case hw => w_witness2)
  k_fill
  refine BB.walk (l := PySem.Challenge.rw_beltboxes_k12_whole_one_box_lost) rfl rfl (fun w h Y => PySem.W.kIn_of Y) ?F
  case F =>
    intro w mg fa h KX G hmg
    refine' BB.all_mk KX G hmg ?e_Hands ?e_BeltError ?e_NoNumber ?e_Belt ?a_Hands___init__ ?i_Hands___init__ ?l_Hands___init__ ?c_Hands___init__ ?k_Hands___init__ ?a_Hands_hold ?i_Hands_hold ?l_Hands_hold ?c_Hands_hold ?k_Hands_hold ?a_Hands_let_go ?i_Hands_let_go ?l_Hands_let_go ?c_Hands_let_go ?k_Hands_let_go ?a_Hands_lose ?i_Hands_lose ?l_Hands_lose ?c_Hands_lose ?k_Hands_lose ?a_Hands_keep ?i_Hands_keep ?l_Hands_keep ?c_Hands_keep ?k_Hands_keep ?a_Hands_take ?i_Hands_take ?l_Hands_take ?c_Hands_take ?k_Hands_take ?a_Belt___init__ ?i_Belt___init__ ?l_Belt___init__ ?c_Belt___init__ ?k_Belt___init__ ?a_Belt_twin ?i_Belt_twin ?l_Belt_twin ?c_Belt_twin ?k_Belt_twin ?a_Belt_box_is_unfinished ?i_Belt_box_is_unfinished ?l_Belt_box_is_unfinished ?c_Belt_box_is_unfinished ?k_Belt_box_is_unfinished ?a_Belt_tell_fault ?i_Belt_tell_fault ?l_Belt_tell_fault ?c_Belt_tell_fault ?k_Belt_tell_fault ?a_Belt_tell_unfinished ?i_Belt_tell_unfinished ?l_Belt_tell_unfinished ?c_Belt_tell_unfinished ?k_Belt_tell_unfinished ?a_Belt_pass_over ?i_Belt_pass_over ?l_Belt_pass_over ?c_Belt_pass_over ?k_Belt_pass_over ?a_Belt_begin_box ?i_Belt_begin_box ?l_Belt_begin_box ?c_Belt_begin_box ?k_Belt_begin_box ?a_Belt_end_box ?i_Belt_end_box ?l_Belt_end_box ?c_Belt_end_box ?k_Belt_end_box ?a_Belt_put_in ?i_Belt_put_in ?l_Belt_put_in ?c_Belt_put_in ?k_Belt_put_in ?a_Belt_put_in_escaped ?i_Belt_put_in_escaped ?l_Belt_put_in_escaped ?c_Belt_put_in_escaped ?k_Belt_put_in_escaped ?a_Belt_take ?i_Belt_take ?l_Belt_take ?c_Belt_take ?k_Belt_take ?a_hands_behind ?l_hands_behind ?c_hands_behind ?k_hands_behind ?a_unpacked ?l_unpacked ?c_unpacked ?k_unpacked ?a_waiting ?l_waiting ?c_waiting ?k_waiting ?a_is_belt_number ?l_is_belt_number ?c_is_belt_number ?k_is_belt_number ?a_place_of_other ?l_place_of_other ?c_place_of_other ?k_place_of_other ?a_refuse_other_numbers ?l_refuse_other_numbers ?c_refuse_other_numbers ?k_refuse_other_numbers ?a_length_of_two ?l_length_of_two ?c_length_of_two ?k_length_of_two ?a_check_of ?l_check_of ?c_check_of ?k_check_of ?a_meaning_behind_escape ?l_meaning_behind_escape ?c_meaning_behind_escape ?k_meaning_behind_escape ?a_begun ?l_begun ?c_begun ?k_begun ?a_fed ?l_fed ?c_fed ?k_fed ?a_ended ?l_ended ?c_ended ?k_ended ?a_told_by ?l_told_by ?c_told_by ?k_told_by ?a_l_at ?l_l_at ?c_l_at ?k_l_at ?a_l_check ?l_l_check ?c_l_check ?k_l_check ?a_l_inside ?l_l_inside ?c_l_inside ?k_l_inside ?a_l_wire ?l_l_wire ?c_l_wire ?k_l_wire ?a_l_sent_off ?l_l_sent_off ?c_l_sent_off ?k_l_sent_off ?a_l_boxed ?l_l_boxed ?c_l_boxed ?k_l_boxed ?a_l_in_turns ?l_l_in_turns ?c_l_in_turns ?k_l_in_turns ?a_l_all_but ?l_l_all_but ?c_l_all_but ?k_l_all_but ?a_l_so ?l_l_so ?c_l_so ?k_l_so ?a_law ?l_law ?c_law ?k_law ?n_LEAST ?n_GREATEST ?n_FIRST_TELLS ?n_ROUND ?n_ESCAPE ?n_BEGINNING ?n_TELLS_ESCAPE ?n_TELLS_BEGINNING ?n_AT_REST ?n_PASSING_OVER ?n_IN_BOX ?n_BEHIND_ESCAPE ?n_OF_LENGTH ?n_OF_LABEL ?n_OF_CHECK ?z_ValueError ?z_abs ?z_bool ?z_enumerate ?z_int ?z_isinstance ?z_len ?z_list ?z_max ?z_min ?z_range ?z_sorted ?z_str ?z_tuple ?pg_Hands ?hd_Hands ?po_Hands ?sa_Hands ?mk_Hands ?kc_Hands ?na_Hands_due ?na_Hands_numbers ?na_Hands_news ?pg_Belt ?hd_Belt ?po_Belt ?sa_Belt ?mk_Belt ?kc_Belt ?na_Belt_place ?na_Belt_phase ?na_Belt_start ?na_Belt_inside ?t_ii ?t_ib ?t_ll ?s_al ?s_at ?s_as ?s_ab ?s_an ?s_ai ?s_ll ?s_lt ?s_tl ?s_tt ?s_ss ?s_bs ?s_ns ?s_is ?s_bb ?s_nb ?s_ib ?s_ii ?x_NoNumber
    (case e_Hands => k_is); (case e_BeltError => k_is); (case e_NoNumber => k_is); (case e_Belt => k_is); (case a_Hands___init__ => k_is); (case i_Hands___init__ => k_is)
    (case l_Hands___init__ => k_is); (case c_Hands___init__ => k_is); (case k_Hands___init__ => k_is); (case a_Hands_hold => k_is); (case i_Hands_hold => k_is); (case l_Hands_hold => k_is)
    (case c_Hands_hold => k_is); (case k_Hands_hold => k_is); (case a_Hands_let_go => k_is); (case i_Hands_let_go => k_is); (case l_Hands_let_go => k_is); (case c_Hands_let_go => k_is)
    (case k_Hands_let_go => k_is); (case a_Hands_lose => k_is); (case i_Hands_lose => k_is); (case l_Hands_lose => k_is); (case c_Hands_lose => k_is); (case k_Hands_lose => k_is)
    (case a_Hands_keep => k_is); (case i_Hands_keep => k_is); (case l_Hands_keep => k_is); (case c_Hands_keep => k_is); (case k_Hands_keep => k_is); (case a_Hands_take => k_is)
    (case i_Hands_take => k_is); (case l_Hands_take => k_is); (case c_Hands_take => k_is); (case k_Hands_take => k_is); (case a_Belt___init__ => k_is); (case i_Belt___init__ => k_is)
    (case l_Belt___init__ => k_is); (case c_Belt___init__ => k_is); (case k_Belt___init__ => k_is); (case a_Belt_twin => k_is); (case i_Belt_twin => k_is); (case l_Belt_twin => k_is)
    (case c_Belt_twin => k_is); (case k_Belt_twin => k_is); (case a_Belt_box_is_unfinished => k_is); (case i_Belt_box_is_unfinished => k_is); (case l_Belt_box_is_unfinished => k_is); (case c_Belt_box_is_unfinished => k_is)
    (case k_Belt_box_is_unfinished => k_is); (case a_Belt_tell_fault => k_is); (case i_Belt_tell_fault => k_is); (case l_Belt_tell_fault => k_is); (case c_Belt_tell_fault => k_is); (case k_Belt_tell_fault => k_is)
    (case a_Belt_tell_unfinished => k_is); (case i_Belt_tell_unfinished => k_is); (case l_Belt_tell_unfinished => k_is); (case c_Belt_tell_unfinished => k_is); (case k_Belt_tell_unfinished => k_is); (case a_Belt_pass_over => k_is)
    (case i_Belt_pass_over => k_is); (case l_Belt_pass_over => k_is); (case c_Belt_pass_over => k_is); (case k_Belt_pass_over => k_is); (case a_Belt_begin_box => k_is); (case i_Belt_begin_box => k_is)
    (case l_Belt_begin_box => k_is); (case c_Belt_begin_box => k_is); (case k_Belt_begin_box => k_is); (case a_Belt_end_box => k_is); (case i_Belt_end_box => k_is); (case l_Belt_end_box => k_is)
    (case c_Belt_end_box => k_is); (case k_Belt_end_box => k_is); (case a_Belt_put_in => k_is); (case i_Belt_put_in => k_is); (case l_Belt_put_in => k_is); (case c_Belt_put_in => k_is)
    (case k_Belt_put_in => k_is); (case a_Belt_put_in_escaped => k_is); (case i_Belt_put_in_escaped => k_is); (case l_Belt_put_in_escaped => k_is); (case c_Belt_put_in_escaped => k_is); (case k_Belt_put_in_escaped => k_is)
    (case a_Belt_take => k_is); (case i_Belt_take => k_is); (case l_Belt_take => k_is); (case c_Belt_take => k_is); (case k_Belt_take => k_is); (case a_hands_behind => k_is)
    (case l_hands_behind => k_is); (case c_hands_behind => k_is); (case k_hands_behind => k_is); (case a_unpacked => k_is); (case l_unpacked => k_is); (case c_unpacked => k_is)
    (case k_unpacked => k_is); (case a_waiting => k_is); (case l_waiting => k_is); (case c_waiting => k_is); (case k_waiting => k_is); (case a_is_belt_number => k_is)
    (case l_is_belt_number => k_is); (case c_is_belt_number => k_is); (case k_is_belt_number => k_is); (case a_place_of_other => k_is); (case l_place_of_other => k_is); (case c_place_of_other => k_is)
    (case k_place_of_other => k_is); (case a_refuse_other_numbers => k_is); (case l_refuse_other_numbers => k_is); (case c_refuse_other_numbers => k_is); (case k_refuse_other_numbers => k_is); (case a_length_of_two => k_is)
    (case l_length_of_two => k_is); (case c_length_of_two => k_is); (case k_length_of_two => k_is); (case a_check_of => k_is); (case l_check_of => k_is); (case c_check_of => k_is)
    (case k_check_of => k_is); (case a_meaning_behind_escape => k_is); (case l_meaning_behind_escape => k_is); (case c_meaning_behind_escape => k_is); (case k_meaning_behind_escape => k_is); (case a_begun => k_is)
    (case l_begun => k_is); (case c_begun => k_is); (case k_begun => k_is); (case a_fed => k_is); (case l_fed => k_is); (case c_fed => k_is)
    (case k_fed => k_is); (case a_ended => k_is); (case l_ended => k_is); (case c_ended => k_is); (case k_ended => k_is); (case a_told_by => k_is)
    (case l_told_by => k_is); (case c_told_by => k_is); (case k_told_by => k_is); (case a_l_at => k_is); (case l_l_at => k_is); (case c_l_at => k_is)
    (case k_l_at => k_is); (case a_l_check => k_is); (case l_l_check => k_is); (case c_l_check => k_is); (case k_l_check => k_is); (case a_l_inside => k_is)
    (case l_l_inside => k_is); (case c_l_inside => k_is); (case k_l_inside => k_is); (case a_l_wire => k_is); (case l_l_wire => k_is); (case c_l_wire => k_is)
    (case k_l_wire => k_is); (case a_l_sent_off => k_is); (case l_l_sent_off => k_is); (case c_l_sent_off => k_is); (case k_l_sent_off => k_is); (case a_l_boxed => k_is)
    (case l_l_boxed => k_is); (case c_l_boxed => k_is); (case k_l_boxed => k_is); (case a_l_in_turns => k_is); (case l_l_in_turns => k_is); (case c_l_in_turns => k_is)
    (case k_l_in_turns => k_is); (case a_l_all_but => k_is); (case l_l_all_but => k_is); (case c_l_all_but => k_is); (case k_l_all_but => k_is); (case a_l_so => k_is)
    (case l_l_so => k_is); (case c_l_so => k_is); (case k_l_so => k_is); (case a_law => k_is); (case l_law => k_is); (case c_law => k_is)
    (case k_law => k_is); (case n_LEAST => k_is); (case n_GREATEST => k_is); (case n_FIRST_TELLS => k_is); (case n_ROUND => k_is); (case n_ESCAPE => k_is)
    (case n_BEGINNING => k_is); (case n_TELLS_ESCAPE => k_is); (case n_TELLS_BEGINNING => k_is); (case n_AT_REST => k_is); (case n_PASSING_OVER => k_is); (case n_IN_BOX => k_is)
    (case n_BEHIND_ESCAPE => k_is); (case n_OF_LENGTH => k_is); (case n_OF_LABEL => k_is); (case n_OF_CHECK => k_is); (case z_ValueError => k_is); (case z_abs => k_is)
    (case z_bool => k_is); (case z_enumerate => k_is); (case z_int => k_is); (case z_isinstance => k_is); (case z_len => k_is); (case z_list => k_is)
    (case z_max => k_is); (case z_min => k_is); (case z_range => k_is); (case z_sorted => k_is); (case z_str => k_is); (case z_tuple => k_is)
    (case pg_Hands => k_is); (case hd_Hands => k_is); (case po_Hands => k_is); (case sa_Hands => k_is); (case mk_Hands => k_is); (case kc_Hands => k_is)
    (case na_Hands_due => k_is); (case na_Hands_numbers => k_is); (case na_Hands_news => k_is); (case pg_Belt => k_is); (case hd_Belt => k_is); (case po_Belt => k_is)
    (case sa_Belt => k_is); (case mk_Belt => k_is); (case kc_Belt => k_is); (case na_Belt_place => k_is); (case na_Belt_phase => k_is); (case na_Belt_start => k_is)
    (case na_Belt_inside => k_is); (case t_ii => kit_is); (case t_ib => kit_is); (case t_ll => kit_is); (case s_al => kit_is); (case s_at => kit_is)
    (case s_as => kit_is); (case s_ab => kit_is); (case s_an => kit_is); (case s_ai => kit_is); (case s_ll => kit_is); (case s_lt => kit_is)
    (case s_tl => kit_is); (case s_tt => kit_is); (case s_ss => kit_is); (case s_bs => kit_is); (case s_ns => kit_is); (case s_is => kit_is)
    (case s_bb => kit_is); (case s_nb => kit_is); (case s_ib => kit_is); (case s_ii => kit_is); (case x_NoNumber => k_exc)
#print axioms PySem.Challenge.cw_beltboxes_k12_whole_one_box_lost_holds
