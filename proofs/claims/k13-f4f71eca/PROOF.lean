import PyProof.Rows.All
import Wide.All
import OpenK.AllK
import Wide.FinOn
import Lean
import PyProof.EqAt
import PyProof.EqKinds
import PyProof.TupleCall
import PySem.Challenge.RW_everyrow_k13_flow_told
set_option Elab.async false
set_option linter.all false
set_option maxRecDepth 100000
/-! THE HAND LAYER, for ints, bools, texts, own classes, LISTS and tuples (index, slices, in, append, pop ..), calls, loops. Paste it whole ahead of your own text; what your proof does not reach may be deleted. -/
namespace L2
open PySem PySem.Spec PyProof.Rows

/-- a key: an int or a str -/
abbrev Key := Sum Int Str
def keyIs : Key → Value → Bool
  | .inl k, v => Value.isInt k v
  | .inr x, v => Value.isStrOf x v
def keyH (w : World) : Key → Int
  | .inl k => hashInt k
  | .inr x => hashStr w x
theorem keyIs_shape : ∀ {k : Key} {v : Value}, keyIs k v = true → (∃ i t, k = Sum.inl i ∧ v = Value.int i t) ∨ (∃ x t, k = Sum.inr x ∧ v = Value.str x t)
  | .inl i, v, h => by
    obtain ⟨t, e⟩ := Value.isInt_shape (k := i) (v := v) h
    exact .inl ⟨i, t, rfl, e⟩
  | .inr x, v, h => by
    obtain ⟨t, e⟩ := Value.isStrOf_shape (x := x) (v := v) h
    exact .inr ⟨x, t, rfl, e⟩
theorem keyIs_int (i : Int) (t : Tok) : keyIs (.inl i) (.int i t) = true := by simp [keyIs, Value.isInt]
theorem keyIs_str (x : Str) (t : Tok) : keyIs (.inr x) (.str x t) = true := by simp [keyIs, Value.isStrOf]
theorem key_ll (a b : Int) : decide ((Sum.inl a : Key) = Sum.inl b) = (a == b) := by
  by_cases e : a = b
  · subst e; simp
  · have h : ¬ (Sum.inl a : Key) = Sum.inl b := fun q => e (Sum.inl.inj q)
    rw [decide_eq_false h]
    exact (beq_eq_false_iff_ne.mpr e).symm
theorem key_rr (a b : Str) : decide ((Sum.inr a : Key) = Sum.inr b) = decide (a = b) := by
  by_cases e : a = b
  · subst e; simp
  · have h : ¬ (Sum.inr a : Key) = Sum.inr b := fun q => e (Sum.inr.inj q)
    rw [decide_eq_false h, decide_eq_false e]
theorem key_lr (a : Int) (b : Str) : decide ((Sum.inl a : Key) = Sum.inr b) = false := decide_eq_false (fun q => nomatch q)
theorem key_rl (a : Str) (b : Int) : decide ((Sum.inr a : Key) = Sum.inl b) = false := decide_eq_false (fun q => nomatch q)

def mixKind (prog : Program) (w : World) : PySem.KeyKind prog w Key where
  is := keyIs
  hash := keyH w
  inj := fun v a b ha hb => by
    rcases keyIs_shape ha with ⟨i, t, rfl, rfl⟩ | ⟨x, t, rfl, rfl⟩
    · rcases keyIs_shape hb with ⟨j, u, rfl, e⟩ | ⟨y, u, rfl, e⟩
      · injection e with e1 _; rw [e1]
      · exact nomatch e
    · rcases keyIs_shape hb with ⟨j, u, rfl, e⟩ | ⟨y, u, rfl, e⟩
      · exact nomatch e
      · injection e with e1 _; rw [e1]
  byValue := fun k v h => by
    rcases keyIs_shape h with ⟨i, t, rfl, rfl⟩ | ⟨x, t, rfl, rfl⟩ <;> rfl
  pyHash := fun hv h => by
    rcases keyIs_shape hv with ⟨i, t, rfl, rfl⟩ | ⟨x, t, rfl, rfl⟩
    · exact wpAny_pyHash_int h
    · exact wpAny_pyHash_str h
  eqBool := fun hu hv h => by
    rcases keyIs_shape hu with ⟨i, t, rfl, rfl⟩ | ⟨x, t, rfl, rfl⟩
    · rcases keyIs_shape hv with ⟨j, u, rfl, rfl⟩ | ⟨y, u, rfl, rfl⟩
      · rw [key_ll] at h; exact wpAny_eqBool_int h
      · rw [key_lr] at h; exact SeqAt.EqAt.int_str i t y u _ _ _ _ h
    · rcases keyIs_shape hv with ⟨j, u, rfl, rfl⟩ | ⟨y, u, rfl, rfl⟩
      · rw [key_rl] at h; exact SeqAt.EqAt.str_int x t j u _ _ _ _ h
      · rw [key_rr] at h; exact wpAny_eqBool_str h
  «strs» := fun k x t v h => by
    rcases keyIs_shape h with ⟨i, u, rfl, e⟩ | ⟨y, u, rfl, e⟩
    · exact nomatch e
    · injection e with e1 _
      subst e1
      cases v <;> rfl

theorem mixKind_int (prog : Program) (w : World) (i : Int) (t : Tok) : (mixKind prog w).is (.inl i) (.int i t) = true := keyIs_int i t
theorem mixKind_str (prog : Program) (w : World) (x : Str) (t : Tok) : (mixKind prog w).is (.inr x) (.str x t) = true := keyIs_str x t
end L2

namespace L2
open PySem PySem.Spec PyProof.Rows

/-- a value, without the heap -/
inductive V where
  | non | bl (b : Bool) | int (i : Int) | str (x : Str) | byt (b : Array UInt8) | flt (b : UInt64) | ref (a : Addr) | ty (n : String)
  deriving DecidableEq

def RelV : V → Value → Prop
  | .non, u => u = Value.none
  | .bl b, u => u = Value.bool b
  | .int i, u => ∃ t, u = Value.int i t
  | .str x, u => ∃ t, u = Value.str x t
  | .byt b, u => ∃ t, u = Value.bytes b t
  | .flt b, u => ∃ t, u = Value.float b t
  | .ref a, u => u = Value.ref a
  | .ty n, u => u = Value.type n

abbrev Vals : List V → List Value → Prop := Paired RelV
theorem Vals.length {xs : List V} {us : List Value} (r : Vals xs us) : xs.length = us.length := Paired.length r
theorem Vals.get : ∀ {xs : List V} {us : List Value} {i : Nat} {x : V}, Vals xs us → xs[i]? = some x → ∃ u, us[i]? = some u ∧ RelV x u
  | _, _, _, _, .nil, e => by simp at e
  | _, _, 0, _, .cons r _, e => by simp at e; subst e; exact ⟨_, rfl, r⟩
  | _, _, i + 1, x, .cons _ t, e => by
    obtain ⟨u, h1, h2⟩ := Vals.get (i := i) (x := x) t (by simpa using e)
    exact ⟨u, by simpa using h1, h2⟩
theorem Vals.set {x : V} {u : Value} (r : RelV x u) : ∀ {xs : List V} {us : List Value} (i : Nat), Vals xs us → Vals (xs.set i x) (us.set i u)
  | _, _, _, .nil => .nil
  | _, _, 0, .cons _ t => .cons r t
  | _, _, i + 1, .cons q t => .cons q (Vals.set r i t)
theorem Vals.append : ∀ {xs ys : List V} {us ws : List Value}, Vals xs us → Vals ys ws → Vals (xs ++ ys) (us ++ ws)
  | _, _, _, _, .nil, s => s
  | _, _, _, _, .cons r t, s => .cons r (Vals.append t s)
theorem Vals.take : ∀ {xs : List V} {us : List Value} (n : Nat), Vals xs us → Vals (xs.take n) (us.take n)
  | _, _, 0, _ => .nil
  | _, _, _ + 1, .nil => .nil
  | _, _, n + 1, .cons r t => .cons r (Vals.take n t)
theorem Vals.drop : ∀ {xs : List V} {us : List Value} (n : Nat), Vals xs us → Vals (xs.drop n) (us.drop n)
  | _, _, 0, r => r
  | _, _, _ + 1, .nil => .nil
  | _, _, n + 1, .cons _ t => Vals.drop n t
def RelO : Option V → Option Value → Prop
  | some v, some u => RelV v u
  | none, none => True
  | _, _ => False
def KV {κ : Type} : List (κ × V) → List (κ × Value) → Prop := Paired fun (p : κ × V) (q : κ × Value) => p.1 = q.1 ∧ RelV p.2 q.2

/-- a key of a dict (00_mix): an int or a text -/
def kV : Key → V
  | .inl i => .int i
  | .inr x => .str x

/-- what stands at a tracked address -/
inductive HO where
  /-- a list -/
  | lst (xs : List V)
  /-- a tuple (never changes) -/
  | tup (xs : List V)
  /-- a dict whose keys are ints and texts; one whose keys are tuples of ints and texts (the empty one is both) -/
  | dK (kvs : List (Key × V)) | dT (kvs : List (List Key × V))
  /-- a set of ints: its members, its size -/
  | set (S : Int → Bool) (n : Nat)
  /-- an instance of the class at C, its dict at dx, its attributes -/
  | ins (C dx : Addr) (fs : List (Str × V))
  /-- the dict of the instance at x -/
  | own (x : Addr)
  /-- the dict of an exception -/
  | xd (fs : List (Str × V))
  /-- a bound method, f of x -/
  | met (f x : Addr)
  /-- a range object lo, lo + 1, .. below hi -/
  | rng (lo hi : Int)
  /-- a thing that is known to the object (the script; a dict while a loop walks it): read, never written while it is so -/
  | frz (o : Obj) (u : HO)
  /-- a code object's table -/
  | tbl (ps : Array Value)
  /-- any other thing, by what is true of its one object (a def of one's own: SetO a S n := HO.ext fun h => ..) -/
  | ext (φ : Heap → Prop)

abbrev Hp := Addr → Option HO
def upd (H : Hp) (a : Addr) (o : HO) : Hp := fun b => if b = a then some o else H b
theorem upd_same {H : Hp} {a : Addr} {o : HO} : upd H a o a = some o := by unfold upd; rw [if_pos rfl]
theorem upd_ne {H : Hp} {a b : Addr} {o : HO} (h : b ≠ a) : upd H a o b = H b := by unfold upd; rw [if_neg h]
/-- two objects of different content stand apart -/
theorem ne_of {H : Hp} {a b : Addr} {o u : HO} (h : H a = some o) (h' : H b = some u) (d : o ≠ u) : a ≠ b := by
  intro e; subst e; rw [h] at h'; exact d (Option.some.inj h')
theorem ne_of_none {H : Hp} {a b : Addr} {o : HO} (h : H a = some o) (h' : H b = none) : a ≠ b := by
  intro e; subst e; rw [h] at h'; cases h'

section
variable (P : Program) (w : World)
def ObjOk (H : Hp) (h : Heap) (a : Addr) : HO → Prop
  | .lst xs => xs.length ≤ sizeLine ∧ ∃ (its : List Value) (n : Nat), Vals xs its ∧ h.get? a = some { cls := .type "list", data := .seq its.toArray n }
  | .tup xs => xs.length ≤ sizeLine ∧ ∃ its : List Value, Vals xs its ∧ IsTup h a its.toArray
  | .dK kvs => kvs.length ≤ sizeLine ∧ (a == sysModules) = false ∧ ∃ vs, KV kvs vs ∧ h.DictOf (mixKind P w) a vs
  | .dT kvs => kvs.length ≤ sizeLine ∧ (a == sysModules) = false ∧ ∃ xs : List (List Key × Addr × Value),
      Paired (fun (p : List Key × V) (q : List Key × Addr × Value) => p.1 = q.1 ∧ H q.2.1 = some (.tup (p.1.map kV)) ∧ RelV p.2 q.2.2) kvs xs ∧
      ∃ o es ep, h.get? a = some o ∧ o.ExactDict ∧ o.data = .dict es ep ∧ es.toList = xs.map (entryOfKey (tupleKind (mixKind P w))) ∧ (xs.map (·.1)).Nodup
  | .set S n => h.SetOf (intKind P w) a S n
  | .ins C dx fs => H dx = some (.own a) ∧ fs.length ≤ 1000 ∧ dx ≠ a ∧ h.get? a = some (PySem.W.instObj C dx) ∧
      ∃ mA, h.Ns1 dx mA ∧ (∀ f, RelO (fs.lookup f) (mA f)) ∧ PySem.Within mA (fs.map (·.1))
  | .own _ => ∃ o, h.get? a = some o
  | .xd fs => ∃ mA, h.Ns1 a mA ∧ ∀ f, RelO (fs.lookup f) (mA f)
  | .rng lo hi => ∃ t u v, h.get? a = some { cls := .type "range", data := .fields #[.int lo t, .int hi u, .int 1 v] }
  | .frz o u => h.get? a = some o ∧ ObjOk H h a u
  | .tbl ps => h.get? a = some { cls := .none, data := .fields ps }
  | .met f x => h.get? a = some (PySem.W.methodObj (.ref f) (.ref x))
  | .ext φ => φ h ∧ (∃ o, h.get? a = some o) ∧ ∀ h1 h2 : Heap, φ h1 → (∀ o, h1.get? a = some o → h2.get? a = some o) → φ h2
/-- the abstract heap is held -/
def HOk (H : Hp) (h : Heap) : Prop := ∀ a o, H a = some o → ObjOk P w H h a o
end

section
variable {P : Program} {w : World} {H H' : Hp} {h h' : Heap} {a : Addr} {o : HO}
theorem ObjOk.lt (x : ObjOk P w H h a o) : a < h.objs.size := by
  cases o with
  | lst xs => obtain ⟨_, _, _, _, e⟩ := x; exact Heap.lt_size e
  | tup xs => obtain ⟨_, _, _, p⟩ := x; exact p.lt
  | dK kvs => obtain ⟨_, _, _, _, o, _, _, e, _⟩ := x; exact Heap.lt_size e
  | dT kvs => obtain ⟨_, _, _, _, o, _, _, e, _⟩ := x; exact Heap.lt_size e
  | set S n => obtain ⟨o, _, _, _, e, _⟩ := x; exact Heap.lt_size e
  | ins C dx fs => obtain ⟨_, _, _, e, _⟩ := x; exact Heap.lt_size e
  | own y => obtain ⟨_, e⟩ := x; exact Heap.lt_size e
  | xd fs => obtain ⟨_, ⟨_, _, _, e, _⟩, _⟩ := x; exact Heap.lt_size e
  | rng lo hi => obtain ⟨_, _, _, e⟩ := x; exact Heap.lt_size e
  | frz ob u => obtain ⟨e, _⟩ := x; exact Heap.lt_size e
  | tbl ps => exact Heap.lt_size (show h.get? a = some _ from x)
  | met f y => exact Heap.lt_size (show h.get? a = some _ from x)
  | ext φ => obtain ⟨_, ⟨_, e⟩, _⟩ := x; exact Heap.lt_size e
theorem Paired.mapP {α β : Type} {F G : α → β → Prop} : ∀ {l₁ : List α} {l₂ : List β}, Paired F l₁ l₂ → (∀ a b, F a b → G a b) → Paired G l₁ l₂
  | _, _, .nil, _ => .nil
  | _, _, .cons r t, f => .cons (f _ _ r) (Paired.mapP t f)
/-- what an object's description leans on: its own object, its own dict, the tuples -/
theorem ObjOk.stay (x : ObjOk P w H h a o) (k : ∀ b u, (b = a ∨ H b = some (.own a)) → h.get? b = some u → h'.get? b = some u)
    (ho : ∀ b, H b = some (.own a) → H' b = some (.own a)) (ht : ∀ b xs, H b = some (.tup xs) → H' b = some (.tup xs)) : ObjOk P w H' h' a o := by
  induction o with
  | lst xs => obtain ⟨z, its, n, r, e⟩ := x; exact ⟨z, its, n, r, k _ _ (.inl rfl) e⟩
  | tup xs => obtain ⟨z, its, r, ob, e, c⟩ := x; exact ⟨z, its, r, ob, k _ _ (.inl rfl) e, c⟩
  | dK kvs => obtain ⟨z, y, vs, r, ob, es, ep, e, c⟩ := x; exact ⟨z, y, vs, r, ob, es, ep, k _ _ (.inl rfl) e, c⟩
  | dT kvs =>
    obtain ⟨z, y, xs, r, ob, es, ep, e, c⟩ := x
    exact ⟨z, y, xs, Paired.mapP r fun p q z => ⟨z.1, ht _ _ z.2.1, z.2.2⟩, ob, es, ep, k _ _ (.inl rfl) e, c⟩
  | set S n => obtain ⟨ob, es, ep, t, e, c⟩ := x; exact ⟨ob, es, ep, t, k _ _ (.inl rfl) e, c⟩
  | ins C dx fs =>
    obtain ⟨d, z, ne, e, mA, ⟨od, es, ep, e2, c⟩, r⟩ := x
    exact ⟨ho _ d, z, ne, k _ _ (.inl rfl) e, mA, ⟨od, es, ep, k _ _ (.inr d) e2, c⟩, r⟩
  | own y => obtain ⟨ob, e⟩ := x; exact ⟨ob, k _ _ (.inl rfl) e⟩
  | xd fs => obtain ⟨mA, ⟨od, es, ep, e, c⟩, r⟩ := x; exact ⟨mA, ⟨od, es, ep, k _ _ (.inl rfl) e, c⟩, r⟩
  | rng lo hi => obtain ⟨t, u, v, e⟩ := x; exact ⟨t, u, v, k _ _ (.inl rfl) e⟩
  | frz ob u ih => obtain ⟨e, q⟩ := x; exact ⟨k _ _ (.inl rfl) e, ih q⟩
  | tbl ps =>
    have e : h.get? a = some { cls := .none, data := .fields ps } := x
    show h'.get? a = some { cls := .none, data := .fields ps }
    exact k a _ (.inl rfl) e
  | met f y =>
    have e : h.get? a = some (PySem.W.methodObj (.ref f) (.ref y)) := x
    show h'.get? a = some (PySem.W.methodObj (.ref f) (.ref y))
    exact k a _ (.inl rfl) e
  | ext φ => obtain ⟨p, ⟨o, e⟩, st⟩ := x; exact ⟨st _ _ p fun o q => k _ _ (.inl rfl) q, ⟨o, k _ _ (.inl rfl) e⟩, st⟩
theorem HOk.lt (x : HOk P w H h) (e : H a = some o) : a < h.objs.size := (x a o e).lt
theorem HOk.fresh (x : HOk P w H h) (e : h.objs.size ≤ a) : H a = none := by
  cases q : H a with
  | none => rfl
  | some u => exact absurd (Nat.lt_of_lt_of_le (x.lt q) e) (Nat.lt_irrefl _)
/-- every object of the heap is kept -/
theorem HOk.kept (x : HOk P w H h) (k : ∀ b u, h.get? b = some u → h'.get? b = some u) : HOk P w H h' := fun a o e =>
  (x a o e).stay (fun b u _ q => k b u q) (fun _ q => q) fun _ _ q => q
/-- a new object is laid and tracked -/
theorem HOk.laid (x : HOk P w H h) (k : ∀ b u, h.get? b = some u → h'.get? b = some u) (hp : h.objs.size ≤ a) (new : ObjOk P w (upd H a o) h' a o) : HOk P w (upd H a o) h' := fun b u e => by
  have hn := x.fresh hp
  by_cases hb : b = a
  · subst hb; rw [upd_same] at e; cases e; exact new
  · rw [upd_ne hb] at e
    exact (x b u e).stay (fun c v _ q => k c v q) (fun c q => by rw [upd_ne (ne_of_none q hn)]; exact q) fun c xs q => by rw [upd_ne (ne_of_none q hn)]; exact q
end

/-- what may be read as u: it is u, or a known u -/
def Rd (H : Hp) (a : Addr) (u : HO) : Prop := H a = some u ∨ ∃ o, H a = some (.frz o u)
theorem Rd.ok {P : Program} {w : World} {H : Hp} {h : Heap} {a : Addr} {u : HO} (r : Rd H a u) (x : HOk P w H h) : ObjOk P w H h a u := by
  rcases r with r | ⟨o, r⟩
  · exact x a u r
  · obtain ⟨_, q⟩ := x a _ r
    exact q
/-- what may be written -/
def Mut : Option HO → Prop
  | some (.lst _) => True
  | some (.dK _) => True
  | some (.dT _) => True
  | some (.set _ _) => True
  | some (.ins _ _ _) => True
  | some (.ext _) => True
  | _ => False
section
variable {P : Program} {w : World} {H : Hp} {h h' : Heap} {x e : Addr} {o' : HO}
/-- the object at e is changed: x itself, or the dict of the instance x -/
theorem HOk.write (ok : HOk P w H h) (mu : Mut (H x)) (he : e = x ∨ H e = some (.own x)) (k : ∀ b u, b ≠ e → h.get? b = some u → h'.get? b = some u) (heo : ∃ u, h'.get? e = some u)
    (new : ObjOk P w (upd H x o') h' x o') : HOk P w (upd H x o') h' := fun b u q => by
  have nown : ∀ c y, H c = some (.own y) → c ≠ x := fun c y r z => by subst z; rw [r] at mu; exact mu
  have ntup : ∀ c xs, H c = some (.tup xs) → c ≠ x := fun c xs r z => by subst z; rw [r] at mu; exact mu
  by_cases hb : b = x
  · subst hb; rw [upd_same] at q; cases q; exact new
  · rw [upd_ne hb] at q
    by_cases hbe : b = e
    · have q' : H b = some (.own x) := by
        rcases he with z | z
        · exact absurd (hbe.trans z) hb
        · rw [hbe]; exact z
      rw [q] at q'; cases q'
      obtain ⟨v, hv⟩ := heo
      exact ⟨v, by rw [hbe]; exact hv⟩
    · refine (ok b u q).stay (fun c v hc r => k c v ?_ r) (fun c r => by rw [upd_ne (nown c b r)]; exact r) fun c xs r => by rw [upd_ne (ntup c xs r)]; exact r
      rcases hc with rfl | hc
      · exact hbe
      · rintro rfl
        rcases he with z | z
        · exact nown c b hc z
        · rw [hc] at z; cases z; exact hb rfl
end

/-! ### kept unless tracked; of the frames at fs (the callers') the slots may change (an exception that passes writes there); of the records at ex (iterators) nothing is said -/
structure Un (fs ex : List Addr) (H H' : Hp) (h h' : Heap) : Prop where
  keep : ∀ b o, h.get? b = some o → H b = none → b ∉ fs → b ∉ ex → h'.get? b = some o
  slot : ∀ b o, h.get? b = some o → H b = none → b ∈ fs → b ∉ ex → ∃ sl, h'.get? b = some { o with slots := sl }
  free : ∀ b o, h.get? b = some o → H b = none → b ∉ ex → H' b = none
  there : ∀ b o, h.get? b = some o → b ∉ ex → ∃ o', h'.get? b = some o'
  tups : ∀ b xs, H b = some (.tup xs) → H' b = some (.tup xs)
  frzs : ∀ b o u, H b = some (.frz o u) → H' b = some (.frz o u)
  tbls : ∀ b ps, H b = some (.tbl ps) → ∃ more, H' b = some (.tbl (ps ++ more))
section
variable {fs fs' ex ex' : List Addr} {H H1 H2 : Hp} {h h1 h2 h' : Heap} {a x e : Addr} {o : HO}
theorem Un.any (u : Un fs ex H H1 h h1) {b : Addr} {ob : Obj} (q : h.get? b = some ob) (n : H b = none) (hx : b ∉ ex) : ∃ sl, h1.get? b = some { ob with slots := sl } := by
  by_cases hb : b ∈ fs
  · exact u.slot b ob q n hb hx
  · exact ⟨ob.slots, u.keep b ob q n hb hx⟩
theorem Un.kept (k : ∀ b u, h.get? b = some u → h'.get? b = some u) : Un fs ex H H h h' :=
  ⟨fun b ob q _ _ _ => k b ob q, fun b ob q _ _ _ => ⟨ob.slots, k b ob q⟩, fun _ _ _ n _ => n, fun b ob q _ => ⟨ob, k b ob q⟩, fun _ _ q => q, fun _ _ _ q => q, fun _ ps q => ⟨#[], by rw [q]; simp⟩⟩
theorem Un.refl : Un fs ex H H h h := Un.kept fun _ _ q => q
theorem Un.laid (k : ∀ b u, h.get? b = some u → h'.get? b = some u) (hp : h.objs.size ≤ a) (hn : H a = none) : Un fs ex H (upd H a o) h h' where
  keep := fun b u q _ _ _ => k b u q
  slot := fun b u q _ _ _ => ⟨u.slots, k b u q⟩
  free := fun b u q n _ => by rw [upd_ne (Nat.ne_of_lt (Nat.lt_of_lt_of_le (Heap.lt_size q) hp))]; exact n
  there := fun b u q _ => ⟨u, k b u q⟩
  tups := fun b xs q => by rw [upd_ne (ne_of_none q hn)]; exact q
  frzs := fun b u xs q => by rw [upd_ne (ne_of_none q hn)]; exact q
  tbls := fun b ps q => ⟨#[], by rw [upd_ne (ne_of_none q hn), q]; simp⟩
theorem Un.write (mu : Mut (H x)) (he : e = x ∨ H e = some (.own x)) (k : ∀ b u, b ≠ e → h.get? b = some u → h'.get? b = some u) (heo : ∃ u, h'.get? e = some u) : Un fs ex H (upd H x o) h h' := by
  have hx : ∀ b, H b = none → b ≠ x := fun b n z => by subst z; rw [n] at mu; exact mu
  have hb : ∀ b, H b = none → b ≠ e := fun b n z => by
    subst z
    rcases he with r | r
    · exact hx b n r
    · rw [n] at r; cases r
  have hm : ∀ b u, H b = some u → ¬ Mut (some u) → b ≠ x := fun b u q nm z => by subst z; rw [q] at mu; exact nm mu
  refine ⟨fun b u q n _ _ => k b u (hb b n) q, fun b u q n _ _ => ⟨u.slots, k b u (hb b n) q⟩, fun b u q n _ => by rw [upd_ne (hx b n)]; exact n, fun b u q _ => ?_,
    fun b xs q => by rw [upd_ne (hm b _ q fun z => z)]; exact q, fun b u xs q => by rw [upd_ne (hm b _ q fun z => z)]; exact q, fun b ps q => ⟨#[], by rw [upd_ne (hm b _ q fun z => z), q]; simp⟩⟩
  by_cases hbe : b = e
  · subst hbe; exact heo
  · exact ⟨u, k b u hbe q⟩
end

/-! ### the heap without what is tracked -/
def trk (h : Heap) (H : Hp) : List Addr := (List.range h.objs.size).filter fun a => (H a).isSome
def hidT (h : Heap) (H : Hp) : Heap := PySem.W.hideAll h (trk h H)
theorem hidT_size (h : Heap) (H : Hp) : (hidT h H).objs.size = h.objs.size := PySem.W.hideAll_size _ _
theorem hidT_get {h : Heap} {H : Hp} {b : Addr} {o : Obj} (e : h.get? b = some o) (n : H b = none) : (hidT h H).get? b = some o :=
  PySem.W.hideAll_get _ e fun hm => by
    have q : (H b).isSome = true := (List.mem_filter.mp hm).2
    rw [n] at q; simp at q
theorem of_hidT {h : Heap} {H : Hp} {b : Addr} {o : Obj} (e : (hidT h H).get? b = some o) : h.get? b = some o ∧ H b = none := by
  have e' : h.get? b = some o := PySem.W.of_hideAll (trk h H) e
  refine ⟨e', ?_⟩
  cases q : H b with
  | none => rfl
  | some x =>
    have hm : b ∈ trk h H := List.mem_filter.mpr ⟨List.mem_range.mpr (Heap.lt_size e'), by simp [q]⟩
    have z : (hidT h H).get? b = none := PySem.W.hideAll_none (trk h H) hm
    rw [z] at e; cases e

/-! ### OpenK's ledger, filled with every new object but one -/
def allNews (g h : Heap) (L : Addr) : List (Addr × Obj) := (List.range h.objs.size).filterMap fun a => if a = L ∨ (g.get? a).isSome = true then none else (h.get? a).map fun o => (a, o)
def rest (g h : Heap) (L d : Addr) : List (Addr × Obj) := (allNews g h L).filter fun p => decide (p.1 ≠ d)
end L2

namespace L2
open PySem PySem.Spec PyProof.Rows

/-- the module's facts, over the base: the heap at the law's entry without what is tracked there -/
structure Mod (K : PySem.W.Frag) (mg : Str → Option Value) (base : Heap) : Prop where
  kin : K.In base
  glob : base.Ns mainGlobals mg
  blt : ∃ mb, base.Ns builtinsNs mb ∧ ∀ x : Str, x ≠ "__name__" → mb x = bootBuiltins x
  nolimit : base.NoLimit

/-- the context: a def's body (or a comprehension's block) running. base: fixed through the whole law; s₀, H₀: the entry; outer: the frames whose slots others may change (a def's callers); stack: all frames that run;
   ex: iterators that were made ahead of the entry and are walked here (a comprehension's); fn: the names whose cells were made at the entry (a def: all; a comprehension's block: its own); calm: not within an except suite; pn: pins that every state bears; xe: what is wanted of an exception that leaves the code -/
structure Cx where
  prog : Program
  w : World
  K : PySem.W.Frag
  mg : Str → Option Value
  base : Heap
  A : Around
  N : List Str
  s₀ : Shared
  H₀ : Hp
  env : Env
  outer : List Env
  stack : List Env
  ex : List Addr
  fn : Str → Bool
  calm : Bool
  pn : List (Addr × Obj)
  xe : Value → Shared → Prop
/-- the callers' frames -/
def frs (l : List Env) : List Addr := l.filterMap (·.frame)
abbrev Cx.fs (X : Cx) : List Addr := frs X.outer

def Vis (sc : Scope) (x : Str) : Prop := sc.names.lookup x = some .local ∨ sc.names.lookup x = some .cell ∨ sc.names.lookup x = some .free
def Loc (sc : Scope) (x : Str) : Prop := sc.names.lookup x = some .local ∨ sc.names.lookup x = some .cell
def Look (env : Env) (h : Heap) (m : Str → Option Value) (x : Str) (u : Value) : Prop :=
  (env.kindOf x = some .local ∧ m x = some u) ∨ ((env.kindOf x = some .cell ∨ env.kindOf x = some .free) ∧ ∃ c, env.cells.lookup x = some c ∧ h.IsCell c (some u))

structure Cx.Ok (X : Cx) : Prop where
  mod : Mod X.K X.mg X.base
  kind : X.env.scope.kind = .function
  glob : X.env.globals = mainGlobals
  blt : X.env.builtins = builtinsNs
  above : X.s₀.heap.objs.size ≤ X.env.locals
  inj : ∀ x y c, X.env.cells.lookup x = some c → X.env.cells.lookup y = some c → x = y
  has : ∀ x, (X.env.kindOf x = some .cell ∨ X.env.kindOf x = some .free) → ∃ c, X.env.cells.lookup x = some c
  cab : ∀ x c, X.fn x = true → X.env.cells.lookup x = some c → X.s₀.heap.objs.size ≤ c
  hd : X.calm = true → X.A.handled = none
  frames : X.A.frames = some X.stack
  stk : X.stack = X.outer ∨ (X.stack = X.env :: X.outer ∧ X.env.frame = some X.env.locals)
  exf : ∀ b ∈ X.ex, b ≠ X.env.locals ∧ ∀ x c, X.env.cells.lookup x = some c → c ≠ b
  bs : ∀ b o, X.base.get? b = some o → X.s₀.heap.get? b = some o ∧ X.H₀ b = none
  bsz : X.base.objs.size ≤ X.s₀.heap.objs.size
  noex : ∀ b o, X.base.get? b = some o → b ∉ X.ex
  exfs : ∀ b ∈ X.ex, b ∉ X.fs
  funs : X.s₀.heap.FunFrames X.base X.outer
  frf : ∀ b ∈ X.fs, X.H₀ b = none

structure Inv (X : Cx) (pins : List (Addr × Obj)) (σ : List (Option V)) (H : Hp) (s : Shared) : Prop where
  ok : X.Ok
  os : s.os = X.s₀.os
  bare : AllBare s.gens
  base : Un X.fs X.ex X.H₀ H X.s₀.heap s.heap
  loc : ∃ m, s.heap.Ns X.env.locals m ∧ ∀ (i : Nat) (x : Str) (v : V), X.N[i]? = some x → σ[i]? = some (some v) → Vis X.env.scope x → ∃ u, RelV v u ∧ Look X.env s.heap m x u
  cell : ∀ x c, X.env.cells.lookup x = some c → ∃ v, s.heap.IsCell c v
  free : H X.env.locals = none
  freeC : ∀ x c, X.env.cells.lookup x = some c → H c = none
  pin : ∀ p ∈ X.pn ++ pins, s.heap.get? p.1 = some p.2 ∧ H p.1 = none ∧ p.1 ≠ X.env.locals ∧ p.1 ∉ X.fs ∧ ∀ v, p.2.data ≠ .cell v
  hok : HOk X.prog X.w H s.heap
  len : σ.length = X.N.length

section
variable {X : Cx} {pins : List (Addr × Obj)} {σ : List (Option V)} {H H' : Hp} {s : Shared} {h' : Heap}

theorem Cx.Ok.nofr (ok : X.Ok) {b : Addr} {o : Obj} (e : X.base.get? b = some o) : b ∉ X.fs := fun hb => by
  have := (ok.funs.mem hb).1
  rw [e] at this; cases this
theorem Inv.bs (I : Inv X pins σ H s) : ∀ b o, X.base.get? b = some o → s.heap.get? b = some o ∧ H b = none := fun b o e =>
  ⟨I.base.keep b o (I.ok.bs b o e).1 (I.ok.bs b o e).2 (I.ok.nofr e) (I.ok.noex b o e), I.base.free b o (I.ok.bs b o e).1 (I.ok.bs b o e).2 (I.ok.noex b o e)⟩
theorem Inv.bk (I : Inv X pins σ H s) : ∀ b o, X.base.get? b = some o → s.heap.get? b = some o := fun b o e => (I.bs b o e).1
theorem Inv.mod (I : Inv X pins σ H s) : Mod X.K X.mg X.base := I.ok.mod
theorem Inv.kIn (I : Inv X pins σ H s) : X.K.In s.heap := I.ok.mod.kin.keeps I.bk
theorem Inv.lt (I : Inv X pins σ H s) : X.env.locals < s.heap.objs.size := let ⟨_, hn, _⟩ := I.loc; hn.lt
theorem Inv.sz (I : Inv X pins σ H s) : X.s₀.heap.objs.size ≤ s.heap.objs.size := Nat.le_trans I.ok.above (Nat.le_of_lt I.lt)
theorem Inv.nofs (I : Inv X pins σ H s) {a : Addr} (h : s.heap.objs.size ≤ a) : a ∉ X.fs := fun hb => by
  obtain ⟨_, o, ho, _⟩ := I.ok.funs.mem hb
  exact absurd (Nat.lt_of_lt_of_le (Heap.lt_size ho) (Nat.le_trans I.sz h)) (Nat.lt_irrefl _)
theorem Inv.cne (I : Inv X pins σ H s) : ∀ x c, X.env.cells.lookup x = some c → c ≠ X.env.locals := fun x c e z => by
  obtain ⟨v, o, ho, hd⟩ := I.cell x c e
  obtain ⟨m, ⟨o', es, ep, ho', hd', _⟩, _⟩ := I.loc
  rw [z, ho'] at ho; cases ho; rw [hd'] at hd; cases hd
theorem Inv.funs (I : Inv X pins σ H s) : s.heap.FunFrames X.base X.outer := by
  have all : ∀ (l : List Env), (∀ b ∈ frs l, b ∈ X.fs) → X.s₀.heap.FunFrames X.base l → s.heap.FunFrames X.base l := by
    intro l
    induction l with
    | nil => intro _ _; trivial
    | cons env r ih =>
      intro hs hl
      obtain ⟨hk, ⟨L, o, hf, hn, ho, hd⟩, hr⟩ := hl
      have hL : L ∈ X.fs := hs L (by unfold frs; rw [List.filterMap_cons, hf]; exact List.mem_cons_self)
      obtain ⟨sl, e⟩ := I.base.slot L o ho (I.ok.frf L hL) hL fun z => I.ok.exfs L z hL
      exact ⟨hk, ⟨L, _, hf, hn, e, hd⟩, ih (fun b hb => hs b (by unfold frs; rw [List.filterMap_cons, hf]; exact List.mem_cons_of_mem _ hb)) hr⟩
  exact all X.outer (fun _ hb => hb) I.ok.funs

/-- the frames that run, for a call -/
theorem Inv.stack (I : Inv X pins σ H s) : s.heap.FunFrames X.base X.stack := by
  rcases I.ok.stk with e | ⟨e, hf⟩
  · rw [e]; exact I.funs
  · rw [e]
    obtain ⟨m, hn, _⟩ := I.loc
    refine .cons (by rw [I.ok.kind]; decide) hf hn ?_ I.funs
    exact Heap.get?_none_of_le (Nat.le_trans I.ok.bsz I.ok.above)
theorem Inv.stkSub (I : Inv X pins σ H s) : ∀ b ∈ frs X.stack, b ∈ X.env.locals :: X.fs := fun b hb => by
  rcases I.ok.stk with e | ⟨e, hf⟩
  · rw [e] at hb; exact List.mem_cons_of_mem _ hb
  · rw [e] at hb
    unfold frs at hb
    rw [List.filterMap_cons, hf] at hb
    exact hb
theorem Inv.stkFree (I : Inv X pins σ H s) : ∀ b ∈ frs X.stack, H b = none := fun b hb => by
  rcases List.mem_cons.mp (I.stkSub b hb) with e | hb
  · rw [e]; exact I.free
  · obtain ⟨_, o, ho, _⟩ := I.ok.funs.mem hb
    exact I.base.free b o ho (I.ok.frf b hb) fun z => I.ok.exfs b z hb

/-- THE STEP: the untracked objects but the frame and the records at ch are kept (the callers' frames up to slots), the frame's map is kept, the new abstract heap is held -/
theorem Inv.step {g' : Array GenState} {t' : Nat} {d' : Drawn} {ch : List Addr} (I : Inv X pins σ H s)
    (hch : ∀ b ∈ ch, (b ∈ X.ex ∨ X.s₀.heap.objs.size ≤ b) ∧ b ≠ X.env.locals ∧ (∀ x c, X.env.cells.lookup x = some c → c ≠ b) ∧ ∀ p ∈ X.pn ++ pins, p.1 ≠ b)
    (keep : ∀ b o, b ≠ X.env.locals → b ∉ X.fs → b ∉ ch → s.heap.get? b = some o → H b = none → h'.get? b = some o)
    (slot : ∀ b o, b ≠ X.env.locals → b ∈ X.fs → b ∉ ch → s.heap.get? b = some o → H b = none → ∃ sl, h'.get? b = some { o with slots := sl }) (free : ∀ b o, b ∉ ch → s.heap.get? b = some o → H b = none → H' b = none)
    (there : ∀ b o, b ∉ ch → s.heap.get? b = some o → ∃ o', h'.get? b = some o')
    (tups : ∀ b xs, H b = some (.tup xs) → H' b = some (.tup xs)) (frzs : ∀ b o u, H b = some (.frz o u) → H' b = some (.frz o u)) (tbls : ∀ b ps, H b = some (.tbl ps) → ∃ more, H' b = some (.tbl (ps ++ more)))
    (ns : ∀ m, s.heap.Ns X.env.locals m → h'.Ns X.env.locals m) (hok : HOk X.prog X.w H' h') (hg : AllBare g') :
    Inv X pins σ H' { s with heap := h', gens := g', drawn := d', toks := t' } := by
  have neL : ∀ b o, X.s₀.heap.get? b = some o → b ≠ X.env.locals := fun b o e => Nat.ne_of_lt (Nat.lt_of_lt_of_le (Heap.lt_size e) I.ok.above)
  have neC : ∀ b o, X.s₀.heap.get? b = some o → b ∉ X.ex → b ∉ ch := fun b o e hx hb => by
    rcases (hch b hb).1 with z | z
    · exact hx z
    · exact absurd (Nat.lt_of_lt_of_le (Heap.lt_size e) z) (Nat.lt_irrefl _)
  have cellK : ∀ x c, X.env.cells.lookup x = some c → ∀ v, s.heap.IsCell c v → h'.IsCell c v := fun x c e v ⟨o, ho, hd⟩ => by
    have nch : c ∉ ch := fun z => (hch c z).2.2.1 x c e rfl
    by_cases hc : c ∈ X.fs
    · obtain ⟨sl, q⟩ := slot c o (I.cne x c e) hc nch ho (I.freeC x c e)
      exact ⟨_, q, hd⟩
    · exact ⟨o, keep c o (I.cne x c e) hc nch ho (I.freeC x c e), hd⟩
  refine ⟨I.ok, I.os, hg, ⟨fun b o e n hb hx => ?_, fun b o e n hb hx => ?_, fun b o e n hx => ?_, fun b o e hx => ?_, fun b xs e => tups b xs (I.base.tups b xs e), fun b o xs e => frzs b o xs (I.base.frzs b o xs e), fun b ps e => ?_⟩, ?_, fun x c e => ?_, ?_, fun x c e => ?_, fun p hp => ?_, hok, I.len⟩
  · exact keep b o (neL b o e) hb (neC b o e hx) (I.base.keep b o e n hb hx) (I.base.free b o e n hx)
  · obtain ⟨sl, e1⟩ := I.base.slot b o e n hb hx
    obtain ⟨sl', e2⟩ := slot b _ (neL b o e) hb (neC b o e hx) e1 (I.base.free b o e n hx)
    exact ⟨sl', e2⟩
  · obtain ⟨o', e1⟩ := I.base.there b o e hx
    exact free b o' (neC b o e hx) e1 (I.base.free b o e n hx)
  · obtain ⟨o', e1⟩ := I.base.there b o e hx
    exact there b o' (neC b o e hx) e1
  · obtain ⟨m1, e1⟩ := I.base.tbls b ps e
    obtain ⟨m2, e2⟩ := tbls b _ e1
    exact ⟨m1 ++ m2, by rw [e2, Array.append_assoc]⟩
  · obtain ⟨m, hn, hl⟩ := I.loc
    refine ⟨m, ns m hn, fun i x v e1 e2 e3 => ?_⟩
    obtain ⟨u, r, l⟩ := hl i x v e1 e2 e3
    refine ⟨u, r, ?_⟩
    rcases l with l | ⟨k, c, e, z⟩
    · exact .inl l
    · exact .inr ⟨k, c, e, cellK x c e _ z⟩
  · obtain ⟨v, z⟩ := I.cell x c e
    exact ⟨v, cellK x c e v z⟩
  · obtain ⟨m, ⟨o, _, _, ho, _⟩, _⟩ := I.loc
    exact free _ o (fun z => (hch _ z).2.1 rfl) ho I.free
  · obtain ⟨v, o, ho, hd⟩ := I.cell x c e
    exact free c o (fun z => (hch c z).2.2.1 x c e rfl) ho (I.freeC x c e)
  · obtain ⟨e, n, ne, nf, d⟩ := I.pin p hp
    have nch : p.1 ∉ ch := fun z => (hch p.1 z).2.2.2 p hp rfl
    exact ⟨keep p.1 p.2 ne nf nch e n, free p.1 p.2 nch e n, ne, nf, d⟩
/-- .. where the frame's own object is kept too -/
theorem Inv.un {t' : Nat} (I : Inv X pins σ H s) (u : Un X.fs [] H H' s.heap h') (hok : HOk X.prog X.w H' h') : Inv X pins σ H' { s with heap := h', toks := t' } := by
  obtain ⟨m, ⟨o, es, ep, ho, r⟩, _⟩ := id I.loc
  obtain ⟨sl, hL⟩ := u.any ho I.free (by simp)
  exact I.step (g' := s.gens) (d' := s.drawn) (ch := []) (fun _ z => nomatch z) (fun b o _ hb _ e n => u.keep b o e n hb (by simp)) (fun b o _ hb _ e n => u.slot b o e n hb (by simp)) (fun b o _ e n => u.free b o e n (by simp)) (fun b o _ e => u.there b o e (by simp)) u.tups u.frzs u.tbls (fun m' hm => by
    obtain ⟨o', es', ep', ho', r'⟩ := hm
    rw [ho] at ho'; cases ho'
    exact ⟨_, es', ep', hL, r'⟩) hok I.bare
/-- behind a call (or a comprehension's block): the slots of this frame may have changed too, the records at ch may have turned -/
theorem Inv.call {g' : Array GenState} {t' : Nat} {d' : Drawn} {ch : List Addr} (I : Inv X pins σ H s) (u : Un (frs X.stack) ch H H' s.heap h') (hok : HOk X.prog X.w H' h') (hg : AllBare g')
    (hch : ∀ b ∈ ch, (b ∈ X.ex ∨ X.s₀.heap.objs.size ≤ b) ∧ b ≠ X.env.locals ∧ (∀ x c, X.env.cells.lookup x = some c → c ≠ b) ∧ ∀ p ∈ X.pn ++ pins, p.1 ≠ b) :
    Inv X pins σ H' { s with heap := h', gens := g', drawn := d', toks := t' } := by
  obtain ⟨m, ⟨o, es, ep, ho, r⟩, _⟩ := id I.loc
  obtain ⟨sl, hL⟩ := u.any ho I.free fun z => (hch _ z).2.1 rfl
  exact I.step (ch := ch) hch (fun b o hL hb hc e n => u.keep b o e n (fun z => (List.mem_cons.mp (I.stkSub b z)).elim hL hb) hc) (fun b o _ _ hc e n => u.any e n hc) (fun b o hc e n => u.free b o e n hc) (fun b o hc e => u.there b o e hc) u.tups u.frzs u.tbls (fun m' hm => by
    obtain ⟨o', es', ep', ho', r'⟩ := hm
    rw [ho] at ho'; cases ho'
    exact ⟨_, es', ep', hL, r'⟩) hok hg
/-- an untracked record of ours (an iterator) has turned -/
theorem Inv.turned {t' : Nat} {it : Addr} (I : Inv X pins σ H s) (k : ∀ b o, b ≠ it → s.heap.get? b = some o → h'.get? b = some o) (hn : H it = none) (hL : it ≠ X.env.locals)
    (h1 : it ∈ X.ex ∨ X.s₀.heap.objs.size ≤ it) (h2 : ∀ x c, X.env.cells.lookup x = some c → c ≠ it) (h3 : ∀ p ∈ X.pn ++ pins, p.1 ≠ it) : Inv X pins σ H { s with heap := h', toks := t' } := by
  have nit : ∀ b u, H b = some u → b ≠ it := fun b u e z => by rw [z, hn] at e; cases e
  refine I.step (g' := s.gens) (d' := s.drawn) (ch := [it]) (fun b hb => ?_) (fun b o _ _ hc e _ => k b o (fun z => hc (by simp [z])) e) (fun b o _ _ hc e _ => ⟨o.slots, k b o (fun z => hc (by simp [z])) e⟩) (fun _ _ _ _ n => n)
    (fun b o hc e => ⟨o, k b o (fun z => hc (by simp [z])) e⟩) (fun _ _ e => e) (fun _ _ _ e => e) (fun b ps e => ⟨#[], by rw [e]; simp⟩) (fun m hm => ?_) (fun b u e => ?_) I.bare
  · have e : b = it := by simpa using hb
    subst e
    exact ⟨h1, hL, h2, h3⟩
  · obtain ⟨o, es, ep, ho, r⟩ := hm
    exact ⟨o, es, ep, k _ o (Ne.symm hL) ho, r⟩
  · refine (I.hok b u e).stay (fun c v hc q => k c v ?_ q) (fun _ q => q) fun _ _ q => q
    rcases hc with z | z
    · rw [z]; exact nit b u e
    · exact nit c _ z
theorem Inv.tok (I : Inv X pins σ H s) (t : Nat) : Inv X pins σ H { s with toks := t } := I.un (h' := s.heap) (t' := t) Un.refl I.hok
/-- all objects kept -/
theorem Inv.kept {t' : Nat} (I : Inv X pins σ H s) (k : ∀ b u, s.heap.get? b = some u → h'.get? b = some u) : Inv X pins σ H { s with heap := h', toks := t' } := I.un (Un.kept k) (I.hok.kept k)
/-- a new object laid and tracked -/
theorem Inv.laid {a : Addr} {o : HO} {t' : Nat} (I : Inv X pins σ H s) (k : ∀ b u, s.heap.get? b = some u → h'.get? b = some u) (hp : s.heap.objs.size ≤ a) (new : ObjOk X.prog X.w (upd H a o) h' a o) :
    Inv X pins σ (upd H a o) { s with heap := h', toks := t' } := I.un (Un.laid k hp (I.hok.fresh hp)) (I.hok.laid k hp new)
/-- an object written -/
theorem Inv.write {x e : Addr} {o : HO} {t' : Nat} (I : Inv X pins σ H s) (mu : Mut (H x)) (he : e = x ∨ H e = some (.own x)) (k : ∀ b u, b ≠ e → s.heap.get? b = some u → h'.get? b = some u) (heo : ∃ u, h'.get? e = some u)
    (new : ObjOk X.prog X.w (upd H x o) h' x o) : Inv X pins σ (upd H x o) { s with heap := h', toks := t' } := I.un (Un.write mu he k heo) (I.hok.write mu he k heo new)
theorem Inv.pins_of {pins' : List (Addr × Obj)} (I : Inv X pins σ H s) (h : ∀ p ∈ pins', s.heap.get? p.1 = some p.2 ∧ H p.1 = none ∧ p.1 ≠ X.env.locals ∧ p.1 ∉ X.fs ∧ ∀ v, p.2.data ≠ .cell v) : Inv X pins' σ H s :=
  ⟨I.ok, I.os, I.bare, I.base, I.loc, I.cell, I.free, I.freeC, fun p hp => (List.mem_append.mp hp).elim (fun z => I.pin p (List.mem_append_left _ z)) (h p), I.hok, I.len⟩

theorem nodup_ix {N : List Str} (hN : N.Nodup) {i j : Nat} {x : Str} (a : N[i]? = some x) (b : N[j]? = some x) : i = j := by
  obtain ⟨h1, e1⟩ := List.getElem?_eq_some_iff.mp a
  obtain ⟨h2, e2⟩ := List.getElem?_eq_some_iff.mp b
  exact (List.getElem_inj hN).mp (e1.trans e2.symm)

/-- a name is stored; what changed -/
theorem store_ok2 {M : Model} {A : Around} {E : Value → Shared → Prop} {i : Nat} {x : Str} {v : V} {u : Value} {Q : Unit → Shared → Prop} (I : Inv X pins σ H s) (hN : X.N.Nodup) (hi : X.N[i]? = some x) (hx : Loc X.env.scope x) (r : RelV v u)
    (h : ∀ s', Inv X pins (σ.set i (some v)) H s' → (∃ a, Heap.SameBut a s.heap s'.heap ∧ (a = X.env.locals ∨ X.env.cells.lookup x = some a)) → Q () s') (hf : X.fn x = true ∨ X.env.scope.names.lookup x = some .local := by first | exact .inl rfl | exact .inr rfl | assumption) : wpAny M A (storeName X.env x u) Q E s := by
  obtain ⟨m, hn, hl⟩ := id I.loc
  have hcls : (X.env.scope.kind == .class || (X.env.scope.kind == .module && X.env.locals != X.env.globals)) = false := by rw [I.ok.kind]; rfl
  have hiσ : i < σ.length := by rw [I.len]; exact (List.getElem?_eq_some_iff.mp hi).1
  have cne := I.cne
  have tracked : ∀ {a : Addr} {h' : Heap}, (∃ o, s.heap.get? a = some o ∧ H a = none) → Heap.SameBut a s.heap h' → HOk X.prog X.w H h' := fun {a h'} ha hs b ob e => by
    obtain ⟨_, _, hfree⟩ := ha
    refine (I.hok b ob e).stay (fun c w' hc q => (hs.2 c ?_).trans q) (fun _ q => q) fun _ _ q => q
    rintro rfl
    rcases hc with rfl | hc
    · rw [hfree] at e; cases e
    · rw [hfree] at hc; cases hc
  rcases hx with hk | hk
  · refine wpAny_storeName_local hk hn (fun h' hn' hs => ?_) hcls
    obtain ⟨oL, _, _, hoL, _⟩ := id hn
    refine h _ ⟨I.ok, I.os, I.bare, ⟨fun b o e n hb hx => ?_, fun b o e n hb hx => ?_, I.base.free, fun b o e hx => ?_, I.base.tups, I.base.frzs, I.base.tbls⟩, ⟨_, hn', fun j y v' e1 e2 e3 => ?_⟩, fun y c e => ?_, I.free, I.freeC, fun p hp => ?_, tracked ⟨oL, hoL, I.free⟩ hs, by simpa using I.len⟩ ⟨_, hs, .inl rfl⟩
    · exact (hs.2 b (Nat.ne_of_lt (Nat.lt_of_lt_of_le (Heap.lt_size e) I.ok.above))).trans (I.base.keep b o e n hb hx)
    · obtain ⟨sl, e1⟩ := I.base.slot b o e n hb hx
      exact ⟨sl, (hs.2 b (Nat.ne_of_lt (Nat.lt_of_lt_of_le (Heap.lt_size e) I.ok.above))).trans e1⟩
    · obtain ⟨o', e1⟩ := I.base.there b o e hx
      exact ⟨o', (hs.2 b (Nat.ne_of_lt (Nat.lt_of_lt_of_le (Heap.lt_size e) I.ok.above))).trans e1⟩
    · by_cases hj : j = i
      · subst hj
        rw [hi] at e1; cases e1
        rw [List.getElem?_set_self hiσ] at e2
        cases e2
        exact ⟨u, r, .inl ⟨hk, by simp⟩⟩
      · rw [List.getElem?_set_ne (Ne.symm hj)] at e2
        obtain ⟨u', r', q⟩ := hl j y v' e1 e2 e3
        refine ⟨u', r', ?_⟩
        rcases q with ⟨k, e⟩ | ⟨k, c, e, z⟩
        · refine .inl ⟨k, ?_⟩
          have : y ≠ x := fun e => hj (nodup_ix hN e1 (e ▸ hi))
          simp [this, e]
        · exact .inr ⟨k, c, e, z.sameBut hs (cne y c e)⟩
    · obtain ⟨w', z⟩ := I.cell y c e
      exact ⟨w', z.sameBut hs (cne y c e)⟩
    · obtain ⟨e, n, ne, nf, d⟩ := I.pin p hp
      exact ⟨(hs.2 p.1 ne).trans e, n, ne, nf, d⟩
  · have hfn : X.fn x = true := by
      rcases hf with z | z
      · exact z
      · rw [z] at hk; cases hk
    obtain ⟨c, hc⟩ := I.ok.has x (.inl hk)
    obtain ⟨w', z⟩ := I.cell x c hc
    refine wpAny_storeName_cell I.ok.kind hk hc z (fun h' hc' hs => ?_)
    obtain ⟨oc, hoc, hocd⟩ := id z
    refine h { s with heap := h' } ⟨I.ok, I.os, I.bare, ⟨fun b o e n hb hx => ?_, fun b o e n hb hx => ?_, I.base.free, fun b o e hx => ?_, I.base.tups, I.base.frzs, I.base.tbls⟩, ⟨m, hn.sameBut hs (Ne.symm (cne x c hc)), fun j y v' e1 e2 e3 => ?_⟩, fun y c' e => ?_, I.free, I.freeC, fun p hp => ?_, tracked ⟨oc, hoc, I.freeC x c hc⟩ hs, by simpa using I.len⟩ ⟨c, hs, .inr hc⟩
    · exact (hs.2 b (Nat.ne_of_lt (Nat.lt_of_lt_of_le (Heap.lt_size e) (I.ok.cab x c hfn hc)))).trans (I.base.keep b o e n hb hx)
    · obtain ⟨sl, e1⟩ := I.base.slot b o e n hb hx
      exact ⟨sl, (hs.2 b (Nat.ne_of_lt (Nat.lt_of_lt_of_le (Heap.lt_size e) (I.ok.cab x c hfn hc)))).trans e1⟩
    · obtain ⟨o', e1⟩ := I.base.there b o e hx
      exact ⟨o', (hs.2 b (Nat.ne_of_lt (Nat.lt_of_lt_of_le (Heap.lt_size e) (I.ok.cab x c hfn hc)))).trans e1⟩
    · by_cases hj : j = i
      · subst hj
        rw [hi] at e1; cases e1
        rw [List.getElem?_set_self hiσ] at e2
        cases e2
        exact ⟨u, r, .inr ⟨.inl hk, c, hc, hc'⟩⟩
      · rw [List.getElem?_set_ne (Ne.symm hj)] at e2
        obtain ⟨u', r', q⟩ := hl j y v' e1 e2 e3
        refine ⟨u', r', ?_⟩
        rcases q with q | ⟨k, c', e, z'⟩
        · exact .inl q
        · refine .inr ⟨k, c', e, z'.sameBut hs ?_⟩
          rintro rfl
          exact hj (nodup_ix hN e1 (I.ok.inj _ _ _ e hc ▸ hi))
    · by_cases hcc : c' = c
      · subst hcc; exact ⟨_, hc'⟩
      · obtain ⟨w2, z2⟩ := I.cell y c' e
        exact ⟨w2, z2.sameBut hs hcc⟩
    · obtain ⟨e, n, ne, nf, d⟩ := I.pin p hp
      refine ⟨(hs.2 p.1 ?_).trans e, n, ne, nf, d⟩
      intro q
      rw [q, hoc] at e
      have q' : oc = p.2 := Option.some.inj e
      exact d w' (by rw [← q']; exact hocd)
theorem store_ok {M : Model} {A : Around} {E : Value → Shared → Prop} {i : Nat} {x : Str} {v : V} {u : Value} {Q : Unit → Shared → Prop} (I : Inv X pins σ H s) (hN : X.N.Nodup) (hi : X.N[i]? = some x) (hx : Loc X.env.scope x) (r : RelV v u)
    (h : ∀ s', Inv X pins (σ.set i (some v)) H s' → Q () s') (hf : X.fn x = true ∨ X.env.scope.names.lookup x = some .local := by first | exact .inl rfl | exact .inr rfl | assumption) : wpAny M A (storeName X.env x u) Q E s :=
  store_ok2 I hN hi hx r (fun s' I' _ => h s' I') hf
/-- behind a call or a block, the state as it is -/
theorem Inv.call' {s' : Shared} {ch : List Addr} (I : Inv X pins σ H s) (ho : s'.os = s.os) (u : Un (frs X.stack) ch H H' s.heap s'.heap) (hok : HOk X.prog X.w H' s'.heap) (hg : AllBare s'.gens)
    (hch : ∀ b ∈ ch, (b ∈ X.ex ∨ X.s₀.heap.objs.size ≤ b) ∧ b ≠ X.env.locals ∧ (∀ x c, X.env.cells.lookup x = some c → c ≠ b) ∧ ∀ p ∈ X.pn ++ pins, p.1 ≠ b) : Inv X pins σ H' s' := by
  obtain ⟨h', g', d', t', o'⟩ := s'
  have e : o' = s.os := ho
  subst e
  exact I.call (g' := g') (t' := t') (d' := d') u hok hg hch
end

/-! ### the judgements -/
/-- an exception: its class, its own dict's address (where it has one), the abstract heap behind it -/
abbrev XK := Value → Option Addr → Hp → Prop
abbrev St := List (Option V)
abbrev VK := V → Hp → Prop
/-- an expression's reading; a test's; an argument list's -/
abbrev TE := St → Hp → VK → Prop
abbrev TT := St → Hp → (Bool → Hp → Prop) → Prop
abbrev TA := St → Hp → (List V → Hp → Prop) → Prop
/-- what is wanted behind a statement -/
structure Ends where
  nx : St → Hp → Prop
  rt : VK
  bk : St → Hp → Prop := fun _ _ => False
  ct : St → Hp → Prop := fun _ _ => False
abbrev TS := Ends → St → Hp → Prop

def EP (X : Cx) (pins : List (Addr × Obj)) (σ : St) (Q : VK) (u : Value) (s' : Shared) : Prop := ∃ v H', Inv X pins σ H' s' ∧ RelV v u ∧ Q v H'
def TP (X : Cx) (pins : List (Addr × Obj)) (σ : St) (Q : Bool → Hp → Prop) (b : Bool) (s' : Shared) : Prop := ∃ H', Inv X pins σ H' s' ∧ Q b H'
def AP (X : Cx) (pins : List (Addr × Obj)) (σ : St) (Q : List V → Hp → Prop) (us : List Value) (s' : Shared) : Prop := ∃ vs H', Inv X pins σ H' s' ∧ Vals vs us ∧ Q vs H'
def SP (X : Cx) (pins : List (Addr × Obj)) (D : Ends) (f : Flow) (s' : Shared) : Prop :=
  match f with
  | .next => ∃ σ' H', Inv X pins σ' H' s' ∧ D.nx σ' H'
  | .brk => ∃ σ' H', Inv X pins σ' H' s' ∧ D.bk σ' H'
  | .cont => ∃ σ' H', Inv X pins σ' H' s' ∧ D.ct σ' H'
  | .ret u => ∃ v σ' H', Inv X pins σ' H' s' ∧ RelV v u ∧ D.rt v H'

def PE (X : Cx) (e : Expr) (t : TE) : Prop :=
  ∀ (pins : List (Addr × Obj)) (s : Shared) (σ : St) (H : Hp) (Q : VK), Inv X pins σ H s → t σ H Q → wpAny (model X.prog X.w) X.A (eval e X.env) (EP X pins σ Q) X.xe s
def PT (X : Cx) (e : Expr) (t : TT) : Prop :=
  ∀ (pins : List (Addr × Obj)) (s : Shared) (σ : St) (H : Hp) (Q : Bool → Hp → Prop), Inv X pins σ H s → t σ H Q → wpAny (model X.prog X.w) X.A (isTrue e X.env (eval e X.env)) (TP X pins σ Q) X.xe s
/-- a test whatever its 'whole' is (and, or) -/
def PW (X : Cx) (e : Expr) (t : TT) : Prop :=
  ∀ (whole : Sem Value) (pins : List (Addr × Obj)) (s : Shared) (σ : St) (H : Hp) (Q : Bool → Hp → Prop), Inv X pins σ H s → t σ H Q → wpAny (model X.prog X.w) X.A (isTrue e X.env whole) (TP X pins σ Q) X.xe s
theorem PW.pt {X : Cx} {e : Expr} {t : TT} (h : PW X e t) : PT X e t := h _
/-- an argument list (no star), from the left -/
def PA (X : Cx) (es : List Expr) (t : TA) : Prop :=
  ∀ (pos : Pos) (pins : List (Addr × Obj)) (s : Shared) (σ : St) (H : Hp) (Q : List V → Hp → Prop), Inv X pins σ H s → t σ H Q → wpAny (model X.prog X.w) X.A (spliced (backTo pos (starEach es X.env))) (AP X pins σ Q) X.xe s
def PS (X : Cx) (st : Stmt) (t : TS) : Prop :=
  ∀ (pins : List (Addr × Obj)) (s : Shared) (σ : St) (H : Hp) (D : Ends), Inv X pins σ H s → t D σ H → wpAny (model X.prog X.w) X.A (exec st X.env) (SP X pins D) X.xe s
def PSs (X : Cx) (st : List Stmt) (t : TS) : Prop :=
  ∀ (pins : List (Addr × Obj)) (s : Shared) (σ : St) (H : Hp) (D : Ends), Inv X pins σ H s → t D σ H → wpAny (model X.prog X.w) X.A (execs st X.env) (SP X pins D) X.xe s
/-- weaken the end -/
theorem thn {α : Type} {t : Sem α} {Q Q' : α → Shared → Prop} {M : Model} {A : Around} {E : Value → Shared → Prop} {s : Shared} (h : wpAny M A t Q E s) (hQ : ∀ a s, Q a s → Q' a s) : wpAny M A t Q' E s := wpAny_mono h hQ fun _ _ x => x
end L2

namespace L2
open PySem PySem.Spec PyProof.Rows
section
variable {X : Cx}

/-- two expressions in a row -/
theorem bin {a b : Expr} {ta tb : TE} (ha : PE X a ta) (hb : PE X b tb) {pins : List (Addr × Obj)} {s : Shared} {σ : St} {H : Hp} {R : V → V → Hp → Prop} (I : Inv X pins σ H s) (h : ta σ H fun x H1 => tb σ H1 fun y H2 => R x y H2)
    {α : Type} {Q : α → Shared → Prop} {f : Value → Value → Sem α}
    (hf : ∀ v u s2 x y H2, Inv X pins σ H2 s2 → RelV x v → RelV y u → R x y H2 → wpAny (model X.prog X.w) X.A (f v u) Q X.xe s2) :
    wpAny (model X.prog X.w) X.A (eval a X.env) (fun v s₁ => wpAny (model X.prog X.w) X.A (eval b X.env) (fun u s₂ => wpAny (model X.prog X.w) X.A (f v u) Q X.xe s₂) X.xe s₁) X.xe s := by
  refine thn (ha pins s σ H _ I h) fun v s1 ⟨x, H1, I1, r1, q1⟩ => ?_
  refine thn (hb pins s1 σ H1 _ I1 q1) fun u s2 ⟨y, H2, I2, r2, q2⟩ => ?_
  exact hf v u s2 x y H2 I2 r1 r2 q2

/-! ### names and constants -/
def tVar (i : Nat) : TE := fun σ H Q => ∃ v, σ[i]? = some (some v) ∧ Q v H
def tC (v : V) : TE := fun _ H Q => Q v H
theorem pe_var {i : Nat} {x : Str} {pos : Pos} (hN : X.N[i]? = some x) (hv : Vis X.env.scope x) (hd : (x == ("__debug__" : Str)) = false := by decide) (hcd : (x == ("__classdict__" : Str)) = false := by decide) : PE X (.Name x pos) (tVar i) := by
  intro pins s σ H Q I h
  obtain ⟨v, e, h⟩ := h
  obtain ⟨m, hn, hl⟩ := I.loc
  obtain ⟨u, r, l⟩ := hl i x v hN e hv
  have fin : EP X pins σ Q u s := ⟨v, H, I, r, h⟩
  rcases l with ⟨hk, hm⟩ | ⟨hk, c, hc, hcell⟩
  · exact wpAny_Name (wpAny_loadName_local I.ok.kind hk hn hm fin) hd
  · rcases hk with hk | hk
    · exact wpAny_Name (wpAny_loadName_cell I.ok.kind hk hc hcell fin) hd
    · exact wpAny_Name (wpAny_loadName_free I.ok.kind hk hc hcell fin hcd) hd
theorem pe_int {i j pos} : PE X (.Constant (.int i) j pos) (tC (.int i)) := fun _ _ _ H _ I h => wpAny_Constant_int ⟨.int i, H, I.tok _, ⟨_, rfl⟩, h⟩
theorem pe_bl {b j pos} : PE X (.Constant (.bool b) j pos) (tC (.bl b)) := fun _ _ _ H _ I h => Constant_bool ⟨.bl b, H, I, rfl, h⟩
theorem pe_non {j pos} : PE X (.Constant .none j pos) (tC .non) := fun _ _ _ H _ I h => Constant_none ⟨.non, H, I, rfl, h⟩
theorem pe_str {x j pos} : PE X (.Constant (.str x) j pos) (tC (.str x)) := fun _ _ _ H _ I h => Calls.Constant_str ⟨.str x, H, I.tok _, ⟨_, rfl⟩, h⟩

/-- a global name of the def -/
def Gl (X : Cx) (x : Str) : Prop := X.env.kindOf x = some .globalImplicit
theorem ld_glob {E : Value → Shared → Prop} {pins : List (Addr × Obj)} {s : Shared} {σ : St} {H : Hp} {x : Str} {u : Value} {pos : Pos} {Q : Value → Shared → Prop} (I : Inv X pins σ H s) (hg : Gl X x) (hm : X.mg x = some u) (h : Q u s)
    (hd : (x == ("__debug__" : Str)) = false := by decide) : wpAny (model X.prog X.w) X.A (eval (.Name x pos) X.env) Q E s :=
  Calls.Name_function_global I.ok.kind hg (Calls.loadGlobal_global (by rw [I.ok.glob]; exact I.mod.glob.keeps I.bk) hm h) hd
theorem ld_blt {E : Value → Shared → Prop} {pins : List (Addr × Obj)} {s : Shared} {σ : St} {H : Hp} {x : Str} {u : Value} {pos : Pos} {Q : Value → Shared → Prop} (I : Inv X pins σ H s) (hg : Gl X x) (hm : X.mg x = none) (hv : bootBuiltins x = some u) (h : Q u s)
    (hn : x ≠ "__name__" := by decide) (hd : (x == ("__debug__" : Str)) = false := by decide) : wpAny (model X.prog X.w) X.A (eval (.Name x pos) X.env) Q E s := by
  obtain ⟨mb, h1, h2⟩ := I.mod.blt
  exact Calls.Name_function_global I.ok.kind hg (Calls.loadGlobal_builtin (by rw [I.ok.glob]; exact I.mod.glob.keeps I.bk) hm (by rw [I.ok.blt]; exact h1.keeps I.bk) ((h2 x hn).trans hv) h) hd
/-- a module's constant, a class, a function, as a value -/
theorem pe_glob {x : Str} {v : V} {u : Value} {pos : Pos} (hg : Gl X x) (hm : X.mg x = some u) (r : RelV v u) (hd : (x == ("__debug__" : Str)) = false := by decide) : PE X (.Name x pos) (tC v) :=
  fun _ _ _ H _ I h => ld_glob I hg hm ⟨v, H, I, r, h⟩ hd
theorem pe_bltn {x : Str} {v : V} {u : Value} {pos : Pos} (hg : Gl X x) (hm : X.mg x = none) (hv : bootBuiltins x = some u) (r : RelV v u) (hn : x ≠ "__name__" := by decide) (hd : (x == ("__debug__" : Str)) = false := by decide) : PE X (.Name x pos) (tC v) :=
  fun _ _ _ H _ I h => ld_blt I hg hm hv ⟨v, H, I, r, h⟩ hn hd

/-! ### arithmetic -/
variable {a b : Expr} {ta tb : TE} {pos : Pos}
/-! ### comparisons -/
/-- a comparison as a value, as a test -/
def tB (t : TE) : TT := fun σ H Q => t σ H fun x H1 => ∃ c, x = .bl c ∧ Q c H1
/-- an expression whose value is a bool, as a test -/
theorem pt_val {e : Expr} {t : TE} (h : PE X e t) (he : ∀ whole, isTrue e X.env whole = (do let v ← whole; standAt e.pos; holding [v] (truthy v)) := by intro _; rfl) : PT X e (tB t) := by
  intro pins s σ H Q I hw
  refine isTrue_plain (thn (h pins s σ H _ I hw) fun v s1 ⟨x, H1, I1, r1, q1⟩ => ?_) (he _)
  obtain ⟨d, rfl, q⟩ := q1
  cases r1
  exact wpAny_truthy_bool ⟨H1, I1, q⟩

/-! ### and, or, not -/
variable {tA tB' : TT} {rest : List Expr}
def tAnd (t u : TT) : TT := fun σ H Q => t σ H fun c H1 => if c = true then u σ H1 Q else Q false H1
def tOr (t u : TT) : TT := fun σ H Q => t σ H fun c H1 => if c = true then Q true H1 else u σ H1 Q
def tNot (t : TT) : TT := fun σ H Q => t σ H fun c H1 => Q (!c) H1
theorem pw_and1 (ha : PT X a tA) : PW X (.BoolOp .And [a] pos) tA := by
  intro wh pins s σ H Q I h
  refine isTrue_and (thn (ha pins s σ H Q I h) fun c s1 e => ?_)
  cases c with
  | true => exact isTrue_and_nil e
  | false => exact e
theorem pw_or1 (ha : PT X a tA) : PW X (.BoolOp .Or [a] pos) tA := by
  intro wh pins s σ H Q I h
  refine isTrue_or (thn (ha pins s σ H Q I h) fun c s1 e => ?_)
  cases c with
  | false => exact isTrue_or_nil e
  | true => exact e
theorem pw_and (ha : PT X a tA) (hb : PW X (.BoolOp .And (b :: rest) pos) tB') : PW X (.BoolOp .And (a :: b :: rest) pos) (tAnd tA tB') := by
  intro wh pins s σ H Q I h
  refine isTrue_and (thn (ha pins s σ H _ I h) fun c s1 ⟨H1, I1, q1⟩ => ?_)
  cases c with
  | true => exact hb wh pins s1 σ H1 Q I1 q1
  | false => exact ⟨H1, I1, q1⟩
theorem pw_or (ha : PT X a tA) (hb : PW X (.BoolOp .Or (b :: rest) pos) tB') : PW X (.BoolOp .Or (a :: b :: rest) pos) (tOr tA tB') := by
  intro wh pins s σ H Q I h
  refine isTrue_or (thn (ha pins s σ H _ I h) fun c s1 ⟨H1, I1, q1⟩ => ?_)
  cases c with
  | true => exact ⟨H1, I1, q1⟩
  | false => exact hb wh pins s1 σ H1 Q I1 q1
theorem pt_not (ha : PT X a tA) : PT X (.UnaryOp .Not a pos) (tNot tA) := by
  intro pins s σ H Q I h
  exact isTrue_not (ha pins s σ H (fun c H1 => Q (!c) H1) I h)
/-- .. as values (bools) -/
def tAndV (ta tb : TE) : TE := fun σ H Q => ta σ H fun x H1 => ∃ c, x = .bl c ∧ if c = true then tb σ H1 Q else Q (.bl false) H1
def tOrV (ta tb : TE) : TE := fun σ H Q => ta σ H fun x H1 => ∃ c, x = .bl c ∧ if c = true then Q (.bl true) H1 else tb σ H1 Q
def tNotV (ta : TE) : TE := fun σ H Q => ta σ H fun x H1 => ∃ c, x = .bl c ∧ Q (.bl (!c)) H1
theorem pe_one {op} {t : TE} (h : PE X a t) : PE X (.BoolOp op [a] pos) t := fun pins s σ H Q I hw => BoolOp_one (h pins s σ H Q I hw)
theorem pe_and (ha : PE X a ta) (hb : PE X (.BoolOp .And (b :: rest) pos) tb) : PE X (.BoolOp .And (a :: b :: rest) pos) (tAndV ta tb) := by
  intro pins s σ H Q I h
  refine BoolOp_and (thn (ha pins s σ H _ I h) fun v s1 ⟨x, H1, I1, r1, q1⟩ => ?_)
  obtain ⟨c, rfl, q1⟩ := q1
  cases r1
  refine wpAny_truthy_bool ?_
  cases c with
  | true => exact hb pins s1 σ H1 Q I1 q1
  | false => exact ⟨.bl false, H1, I1, rfl, q1⟩
/-- a if t else b -/
def tIf (t : TT) (ta tb : TE) : TE := fun σ H Q => t σ H fun c H1 => if c = true then ta σ H1 Q else tb σ H1 Q
end
end L2

namespace L2
open PySem PySem.Spec PyProof.Rows

/-! ### a list, a tuple that is read: tracked, frozen, or an object of the module -/
def SqL (K : PySem.W.Frag) (H : Hp) (a : Addr) (xs : List V) : Prop :=
  Rd H a (.lst xs) ∨
    ∃ (o : Obj) (its : Array Value) (n : Nat), K.lookup a = some o ∧ o.cls = .type "list" ∧ o.dict = none ∧ o.data = .seq its n ∧ its.size ≤ sizeLine ∧ Vals xs its.toList
def SqT (K : PySem.W.Frag) (H : Hp) (a : Addr) (xs : List V) : Prop :=
  Rd H a (.tup xs) ∨
    ∃ (o : Obj) (its : Array Value) (n : Nat), K.lookup a = some o ∧ o.cls = .type "tuple" ∧ o.data = .seq its n ∧ its.size ≤ sizeLine ∧ Vals xs its.toList
def absV : Value → Option V
  | .none => some .non
  | .bool b => some (.bl b)
  | .int i _ => some (.int i)
  | .str x _ => some (.str x)
  | .bytes b _ => some (.byt b)
  | .float b _ => some (.flt b)
  | .ref a => some (.ref a)
  | .type n => some (.ty n)
  | _ => none
theorem RelV.abs {x : V} {u : Value} (r : RelV x u) : absV u = some x := by
  cases x with
  | non => cases r; rfl
  | bl _ => cases r; rfl
  | int _ => obtain ⟨t, rfl⟩ := r; rfl
  | str _ => obtain ⟨t, rfl⟩ := r; rfl
  | byt _ => obtain ⟨t, rfl⟩ := r; rfl
  | flt _ => obtain ⟨t, rfl⟩ := r; rfl
  | ref _ => cases r; rfl
  | ty _ => cases r; rfl
theorem RelV.inj {x y : V} {u : Value} (r : RelV x u) (q : RelV y u) : x = y := Option.some.inj (r.abs.symm.trans q.abs)
theorem Vals.inj : ∀ {xs ys : List V} {us : List Value}, Vals xs us → Vals ys us → xs = ys
  | _, _, _, .nil, .nil => rfl
  | _, _, _, .cons r t, .cons r' t' => by rw [r.inj r', Vals.inj t t']
section
variable {X : Cx} {pins : List (Addr × Obj)} {σ : St} {H : Hp} {s : Shared} {a : Addr} {xs ys : List V}
theorem SqL.of {K : PySem.W.Frag} (h : H a = some (.lst xs)) : SqL K H a xs := .inl (.inl h)
theorem SqT.of {K : PySem.W.Frag} (h : H a = some (.tup xs)) : SqT K H a xs := .inl (.inl h)
theorem Inv.list (I : Inv X pins σ H s) (h : SqL X.K H a xs) : ∃ its : List Value, Vals xs its ∧ PlainL s.heap a its.toArray ∧ xs.length ≤ sizeLine := by
  rcases h with h | ⟨o, its, n, hk, hc, hd, hs, hz, r⟩
  · obtain ⟨z, its, n, r, e⟩ := h.ok I.hok
    exact ⟨its, r, ⟨_, n, e, rfl, rfl, rfl⟩, z⟩
  · refine ⟨its.toList, r, ⟨o, n, I.kIn a o hk, hc, hd, by simpa using hs⟩, ?_⟩
    have e := r.length
    simp only [Array.length_toList] at e
    omega
theorem Inv.tuple (I : Inv X pins σ H s) (h : SqT X.K H a xs) : ∃ its : List Value, Vals xs its ∧ IsTup s.heap a its.toArray ∧ xs.length ≤ sizeLine := by
  rcases h with h | ⟨o, its, n, hk, hc, hs, hz, r⟩
  · obtain ⟨z, its, r, p⟩ := h.ok I.hok
    exact ⟨its, r, p, z⟩
  · refine ⟨its.toList, r, ⟨o, I.kIn a o hk, hc, n, by simpa using hs⟩, ?_⟩
    have e := r.length
    simp only [Array.length_toList] at e
    omega
theorem Inv.list_inj (I : Inv X pins σ H s) (h : SqL X.K H a xs) (h' : SqL X.K H a ys) : xs = ys := by
  obtain ⟨its, r, ⟨o, n, e, _, _, d⟩, _⟩ := I.list h
  obtain ⟨its', r', ⟨o', n', e', _, _, d'⟩, _⟩ := I.list h'
  rw [e] at e'; cases e'
  rw [d] at d'
  injection d' with d1 _
  have : its = its' := by simpa using congrArg Array.toList d1
  subst this
  exact r.inj r'
theorem Inv.tuple_inj (I : Inv X pins σ H s) (h : SqT X.K H a xs) (h' : SqT X.K H a ys) : xs = ys := by
  obtain ⟨its, r, ⟨o, e, _, n, d⟩, _⟩ := I.tuple h
  obtain ⟨its', r', ⟨o', e', _, n', d'⟩, _⟩ := I.tuple h'
  rw [e] at e'; cases e'
  rw [d] at d'
  injection d' with d1 _
  have : its = its' := by simpa using congrArg Array.toList d1
  subst this
  exact r.inj r'
end

/-! ### another wish about exceptions -/
abbrev Cx.wish (X : Cx) (E : Value → Shared → Prop) : Cx := { X with xe := E }
/-- no exception leaves -/
abbrev Cx.nox (X : Cx) : Cx := X.wish fun _ _ => False
theorem Cx.Ok.wish {X : Cx} (ok : X.Ok) (E : Value → Shared → Prop) : (X.wish E).Ok :=
  ⟨ok.mod, ok.kind, ok.glob, ok.blt, ok.above, ok.inj, ok.has, ok.cab, ok.hd, ok.frames, ok.stk, ok.exf, ok.bs, ok.bsz, ok.noex, ok.exfs, ok.funs, ok.frf⟩
theorem Cx.Ok.unwish {X : Cx} {E : Value → Shared → Prop} (ok : (X.wish E).Ok) : X.Ok :=
  ⟨ok.mod, ok.kind, ok.glob, ok.blt, ok.above, ok.inj, ok.has, ok.cab, ok.hd, ok.frames, ok.stk, ok.exf, ok.bs, ok.bsz, ok.noex, ok.exfs, ok.funs, ok.frf⟩
section
variable {X : Cx} {pins : List (Addr × Obj)} {σ : St} {H : Hp} {s : Shared} {E : Value → Shared → Prop}
theorem Inv.wish (I : Inv X pins σ H s) (E : Value → Shared → Prop) : Inv (X.wish E) pins σ H s := ⟨I.ok.wish E, I.os, I.bare, I.base, I.loc, I.cell, I.free, I.freeC, I.pin, I.hok, I.len⟩
theorem Inv.unwish (I : Inv (X.wish E) pins σ H s) : Inv X pins σ H s := ⟨I.ok.unwish, I.os, I.bare, I.base, I.loc, I.cell, I.free, I.freeC, I.pin, I.hok, I.len⟩
theorem SP.unwish {D : Ends} {f : Flow} {s' : Shared} (h : SP (X.wish E) pins D f s') : SP X pins D f s' := by
  cases f with
  | next => obtain ⟨σ', H', I, q⟩ := h; exact ⟨σ', H', I.unwish, q⟩
  | brk => obtain ⟨σ', H', I, q⟩ := h; exact ⟨σ', H', I.unwish, q⟩
  | cont => obtain ⟨σ', H', I, q⟩ := h; exact ⟨σ', H', I.unwish, q⟩
  | ret u => obtain ⟨v, σ', H', I, r, q⟩ := h; exact ⟨v, σ', H', I.unwish, r, q⟩
theorem PSs.nox {st : List Stmt} {t : TS} (h : PSs X.nox st t) : PSs X st t := fun pins s σ H D I hw =>
  wpAny_mono (h pins s σ H D (I.wish _) hw) (fun _ _ q => q.unwish) fun _ _ z => False.elim z
end

/-! ### blocks and small statements -/
section
variable {X : Cx} {st : Stmt} {rest : List Stmt} {t u : TS} {e : Expr} {te : TE} {pos : Pos}
def tNext : TS := fun D σ H => D.nx σ H
def tSeq (t u : TS) : TS := fun D σ H => t { D with nx := u D } σ H
theorem pss_nil : PSs X [] tNext := fun _ _ σ H _ I h => wpAny_execs_nil ⟨σ, H, I, h⟩
theorem pss_cons (h1 : PS X st t) (h2 : PSs X rest u) : PSs X (st :: rest) (tSeq t u) := by
  intro pins s σ H D I h
  refine wpAny_execs_cons (thn (h1 pins s σ H { D with nx := u D } I h) fun f s1 q => ?_)
  cases f with
  | next =>
    obtain ⟨σ', H', I', q⟩ := q
    exact h2 pins s1 σ' H' D I' q
  | ret v => exact q
  | brk => exact q
  | cont => exact q
theorem pss_one (h1 : PS X st t) : PSs X [st] t := by
  intro pins s σ H D I h
  refine wpAny_execs_cons (thn (h1 pins s σ H D I h) fun f s1 q => ?_)
  cases f with
  | next => exact wpAny_execs_nil q
  | ret v => exact q
  | brk => exact q
  | cont => exact q
def tBreak : TS := fun D σ H => D.bk σ H
def tCont : TS := fun D σ H => D.ct σ H
/-- in a def's body nothing is shown -/
theorem Inv.quiet {pins : List (Addr × Obj)} {σ : St} {H : Hp} {s : Shared} (I : Inv X pins σ H s) : interactive X.env = false := by simp [interactive, I.ok.kind]
/-- an expression whose value is dropped -/
def tDrop (te : TE) : TS := fun D σ H => te σ H fun _ H1 => D.nx σ H1
theorem ps_expr (he : PE X e te) (hs : swapsWith e none pos.line X.env = pure false := by rfl) : PS X (.Expr e pos) (tDrop te) := by
  intro pins s σ H D I h
  exact wpAny_Expr_any (thn (he pins s σ H _ I h) fun v s1 ⟨x, H1, I1, r1, q1⟩ => ⟨σ, H1, I1, q1⟩) I.quiet hs
def tRet (te : TE) : TS := fun D σ H => te σ H D.rt
theorem ps_ret (he : PE X e te) : PS X (.Return (some e) pos) (tRet te) := by
  intro pins s σ H D I h
  exact wpAny_Return_some (thn (he pins s σ H _ I h) fun v s1 ⟨x, H1, I1, r1, q1⟩ => ⟨x, σ, H1, I1, r1, q1⟩)
def tRetN : TS := fun D _ H => D.rt .non H
def tIfS (c : TT) (t u : TS) : TS := fun D σ H => c σ H fun b H1 => if b = true then t D σ H1 else u D σ H1
theorem ps_if {c : Expr} {a b : List Stmt} {tc : TT} (hc : PT X c tc) (ha : PSs X a t) (hb : PSs X b u) : PS X (.If c a b pos) (tIfS tc t u) := by
  intro pins s σ H D I h
  refine wpAny_If (thn (hc pins s σ H _ I h) fun d s1 ⟨H1, I1, q1⟩ => ?_)
  cases d with
  | true => exact ha pins s1 σ H1 D I1 q1
  | false => exact hb pins s1 σ H1 D I1 q1
end

/-! ### targets -/
abbrev TG := V → St → Hp → (St → Hp → Prop) → Prop
abbrev TGs := List V → St → Hp → (St → Hp → Prop) → Prop
def PG (X : Cx) (target : Expr) (t : TG) : Prop :=
  ∀ (pins : List (Addr × Obj)) (s : Shared) (σ : St) (H : Hp) (v : V) (u : Value) (Q : St → Hp → Prop), Inv X pins σ H s → RelV v u → t v σ H Q →
    wpAny (model X.prog X.w) X.A (assign target X.env u) (fun _ s' => ∃ σ' H', Inv X pins σ' H' s' ∧ Q σ' H') X.xe s
/-- several targets, one after another -/
def PGs (X : Cx) (ts : List Expr) (t : TGs) : Prop :=
  ∀ (pins : List (Addr × Obj)) (s : Shared) (σ : St) (H : Hp) (vs : List V) (us : List Value) (Q : St → Hp → Prop), Inv X pins σ H s → Vals vs us → t vs σ H Q →
    wpAny (model X.prog X.w) X.A (assignInOrder ((assignEach ts X.env).map (·.2)) us) (fun _ s' => ∃ σ' H', Inv X pins σ' H' s' ∧ Q σ' H') X.xe s
/-- o[i] = v, by values -/
abbrev TSet := V → V → V → Hp → (Hp → Prop) → Prop
def PSet (X : Cx) (t : TSet) : Prop :=
  ∀ (pins : List (Addr × Obj)) (s : Shared) (σ : St) (H : Hp) (o i v : V) (ov iv u : Value) (Q : Hp → Prop), Inv X pins σ H s → RelV o ov → RelV i iv → RelV v u → t o i v H Q →
    wpAny (model X.prog X.w) X.A (setItem ov iv u) (fun _ s' => ∃ H', Inv X pins σ H' s' ∧ Q H') X.xe s
/-- a op= b, by values -/
abbrev TIp := V → V → Hp → VK → Prop
section
variable {X : Cx} {pos : Pos}
def gName (i : Nat) : TG := fun v σ H Q => Q (σ.set i (some v)) H
theorem pg_name {i : Nat} {x : Str} (hN : X.N.Nodup) (hi : X.N[i]? = some x) (hx : Loc X.env.scope x) (hf : X.fn x = true ∨ X.env.scope.names.lookup x = some .local := by first | exact .inl rfl | exact .inr rfl | assumption) : PG X (.Name x pos) (gName i) := by
  intro pins s σ H v u Q I r h
  exact wpAny_assign_Name (store_ok I hN hi hx r (fun s' I' => ⟨_, H, I', h⟩) hf)
def gNil : TGs := fun vs σ H Q => vs = [] ∧ Q σ H
def gCons (t : TG) (u : TGs) : TGs := fun vs σ H Q => ∃ v r, vs = v :: r ∧ t v σ H fun σ' H' => u r σ' H' Q
theorem pgs_nil : PGs X [] gNil := by
  intro pins s σ H vs us Q I r h
  obtain ⟨e, h⟩ := h
  subst e
  cases r
  exact assignInOrder_nil ⟨σ, H, I, h⟩
theorem pgs_cons {e : Expr} {es : List Expr} {t : TG} {u : TGs} (h1 : PG X e t) (h2 : PGs X es u)
    (hs : (assignEach (e :: es) X.env).map (·.2) = assign e X.env :: (assignEach es X.env).map (·.2) := by rfl) : PGs X (e :: es) (gCons t u) := by
  intro pins s σ H vs us Q I r h
  obtain ⟨v, vr, e1, h⟩ := h
  subst e1
  cases r with
  | cons r rr =>
    rw [hs]
    refine assignInOrder_cons (thn (h1 pins s σ H _ _ _ I r h) fun _ s1 ⟨σ1, H1, I1, q1⟩ => ?_)
    exact h2 pins s1 σ1 H1 _ _ Q I1 rr q1
/-- (a, b, ..) = a tuple of that length -/
def gTup (K : PySem.W.Frag) (n : Nat) (t : TGs) : TG := fun v σ H Q => ∃ a xs, v = .ref a ∧ SqT K H a xs ∧ xs.length = n ∧ t xs σ H Q
theorem pg_tup {es : List Expr} {k : Nat} {t : TGs} {n : Nat} (hc : X.calm = true) (h : PGs X es t)
    (hn : (assignEach es X.env).length = n := by rfl) (hst : (assignEach es X.env).findIdx? (·.1) = none := by rfl) : PG X (.Tuple es k pos) (gTup X.K n t) := by
  intro pins s σ H v u Q I r hw
  obtain ⟨a, xs, e1, hq, hl, hw⟩ := hw
  subst e1
  cases r
  obtain ⟨its, rv, ht, hz⟩ := I.tuple hq
  refine assign_Tuple_tuple (I.ok.hd hc) ht (by simp [hn, ← hl, rv.length]) hst fun h' hx => ?_
  have I1 : Inv X pins σ H { s with heap := h' } := I.kept (t' := s.toks) fun b o e => hx b o (Nat.ne_of_lt (Heap.lt_size e)) e
  exact h pins _ σ H xs _ Q I1 (by simpa using rv) hw
/-- o[i] = .. -/
def gSub (to ti : TE) (t : TSet) : TG := fun v σ H Q => to σ H fun o H1 => ti σ H1 fun i H2 => t o i v H2 fun H3 => Q σ H3
theorem pg_sub {o i : Expr} {to ti : TE} {t : TSet} (ho : PE X o to) (hi : PE X i ti) (hs : PSet X t)
    (ha : ∀ v, assign (.Subscript o i pos) X.env v = (do
      let ov ← holding [v] (eval o X.env)
      let iv ← holding [v, ov] (eval i X.env)
      standAt pos
      holding [v, ov, iv] (setItem ov iv v)
      release [v, ov, iv] []) := by intro _; rfl) : PG X (.Subscript o i pos) (gSub to ti t) := by
  intro pins s σ H v u Q I r h
  rw [ha]
  refine wpAny_bind (wpAny_holding (thn (ho pins s σ H _ I h) fun ov s1 ⟨x, H1, I1, r1, q1⟩ => ?_))
  refine wpAny_bind (wpAny_holding (thn (hi pins s1 σ H1 _ I1 q1) fun iv s2 ⟨y, H2, I2, r2, q2⟩ => ?_))
  refine wpAny_bind (wpAny_standAt (wpAny_bind (wpAny_holding (thn (hs pins s2 σ H2 x y v ov iv u _ I2 r1 r2 r q2) fun _ s3 ⟨H3, I3, q3⟩ => ?_))))
  exact wpAny_release ⟨σ, H3, I3, q3⟩
/-- target = value -/
def tAsg (te : TE) (g : TG) : TS := fun D σ H => te σ H fun x H1 => g x σ H1 D.nx
theorem ps_asg {tg e : Expr} {te : TE} {g : TG} (he : PE X e te) (hg : PG X tg g) (hs : swapsWithSole [tg] e pos.line X.env = pure false := by rfl) (hw : swappedStores [tg] e X.env = pure none := by rfl)
    (h1 : (assignEach [tg] X.env).map (·.2) = [assign tg X.env] := by rfl) : PS X (.Assign [tg] e pos) (tAsg te g) := by
  intro pins s σ H D I h
  refine wpAny_Assign_stores (thn (he pins s σ H _ I h) fun v s1 ⟨x, H1, I1, r1, q1⟩ => ?_) hs hw
  rw [h1]
  exact thn (hg pins s1 σ H1 x v _ I1 r1 q1) fun _ s2 q => q
/-- name = value -/
theorem ps_set {i : Nat} {x : Str} {e : Expr} {te : TE} {pos' : Pos} (hN : X.N.Nodup) (hi : X.N[i]? = some x) (hx : Loc X.env.scope x) (he : PE X e te) (hs : swapsWith e (some (.Name x pos')) pos.line X.env = pure false := by rfl) (hf : X.fn x = true ∨ X.env.scope.names.lookup x = some .local := by first | exact .inl rfl | exact .inr rfl | assumption) :
    PS X (.Assign [.Name x pos'] e pos) (tAsg te (gName i)) := by
  intro pins s σ H D I h
  refine wpAny_Assign_Name (thn (he pins s σ H _ I h) fun v s1 ⟨y, H1, I1, r1, q1⟩ => ?_) hs
  exact store_ok I1 hN hi hx r1 (fun s2 I2 => ⟨_, H1, I2, q1⟩) hf
/-- name op= e -/
def tAug (i : Nat) (te : TE) (ti : TIp) : TS := fun D σ H => ∃ x, σ[i]? = some (some x) ∧ te σ H fun y H1 => ti x y H1 fun z H2 => D.nx (σ.set i (some z)) H2
end

/-! ### while -/
section
variable {X : Cx} {pos : Pos}
/-- the invariant W with its measure -/
def tWhile (c : TT) (tb : TS) : TS := fun D σ H => ∃ W : Nat → St → Hp → Prop, (∃ m, W m σ H) ∧ ∀ m σ H, W m σ H →
  c σ H fun b H1 => if b = true then ∃ N : St → Hp → Prop, (∀ σ' H', N σ' H' → ∃ m', m' < m ∧ W m' σ' H') ∧ tb { D with nx := N, ct := N, bk := D.nx } σ H1 else D.nx σ H1
theorem ps_while {c : Expr} {body : List Stmt} {tc : TT} {tb : TS} (hp : PassesOwn (model X.prog X.w) X.A X.env X.xe) (hc : PT X c tc) (hb : PSs X body tb) : PS X (.While c body [] pos) (tWhile tc tb) := by
  intro pins s σ H D I h
  obtain ⟨W, ⟨m0, w0⟩, turn⟩ := h
  refine wpAny_While (codeAny_whileLoop (fun n s' => ∃ σ' H', Inv X pins σ' H' s' ∧ W n σ' H') ?_ m0 ⟨σ, H, I, w0⟩)
  rintro n s1 ⟨σ1, H1, I1, w1⟩
  refine wpAny_passesOwn hp (thn (hc pins s1 σ1 H1 _ I1 (turn n σ1 H1 w1)) fun b s2 ⟨H2, I2, q2⟩ => ?_)
  cases b with
  | true =>
    obtain ⟨N, hN, q2⟩ := q2
    rw [if_pos rfl]
    refine wpAny_passesOwn hp (thn (hb pins s2 σ1 H2 _ I2 q2) fun f s3 q3 => ?_)
    cases f with
    | next =>
      obtain ⟨σ3, H3, I3, n3⟩ := q3
      obtain ⟨m', hm, w3⟩ := hN σ3 H3 n3
      exact ⟨m', hm, σ3, H3, I3, w3⟩
    | cont =>
      obtain ⟨σ3, H3, I3, n3⟩ := q3
      obtain ⟨m', hm, w3⟩ := hN σ3 H3 n3
      exact ⟨m', hm, σ3, H3, I3, w3⟩
    | brk => exact q3
    | ret v => exact q3
  | false =>
    rw [if_neg Bool.false_ne_true]
    exact wpAny_execs_nil ⟨σ1, H2, I2, q2⟩
end

/-! ### what a loop or a comprehension walks -/
/-- at turn i: it yields x (the heap may grow), or it stops -/
structure It where
  go : Nat → Hp → Prop
  yld : Nat → Hp → V → Hp → Prop
  stop : Nat → Hp → Prop
/-- the iterator's own objects may turn: they are not the frame's, not pinned, younger than the entry (or a comprehension's own) -/
def FpOk (X : Cx) (pins : List (Addr × Obj)) (H : Hp) (b : Addr) : Prop :=
  H b = none ∧ b ≠ X.env.locals ∧ b ∉ X.fs ∧ (b ∈ X.ex ∨ X.s₀.heap.objs.size ≤ b) ∧ (∀ x c, X.env.cells.lookup x = some c → c ≠ b) ∧ ∀ p ∈ X.pn ++ pins, p.1 ≠ b
theorem Inv.fpOk {X : Cx} {pins : List (Addr × Obj)} {σ : St} {H H' : Hp} {s : Shared} {b : Addr} (I : Inv X pins σ H s) (hb : s.heap.objs.size ≤ b) (hn : H' b = none) : FpOk X pins H' b := by
  refine ⟨hn, Nat.ne_of_gt (Nat.lt_of_lt_of_le I.lt hb), I.nofs hb, .inr (Nat.le_trans I.sz hb), fun x c e z => ?_, fun p hp z => ?_⟩
  · obtain ⟨v, q⟩ := I.cell x c e
    exact absurd (Nat.lt_of_lt_of_le q.lt (by rw [z]; exact hb)) (Nat.lt_irrefl _)
  · exact absurd (Nat.lt_of_lt_of_le (Heap.lt_size (I.pin p hp).1) (by rw [z]; exact hb)) (Nat.lt_irrefl _)
structure Turn (P : Program) (w : World) (K : PySem.W.Frag) (tg : Expr) (J : It) (fp : List Addr) (it : Addr) (tn : Nat → Heap → Prop) : Prop where
  mem : it ∈ fp
  obj : ∀ i h, tn i h → ∀ b ∈ fp, ∃ o, h.get? b = some o ∧ ∀ v, o.data ≠ .cell v
  keep : ∀ i h h', tn i h → (∀ b ∈ fp, ∀ o, h.get? b = some o → h'.get? b = some o) → tn i h'
  item : ∀ (X : Cx), X.prog = P → X.w = w → X.K = K → X.calm = true → ∀ (i : Nat) (pins : List (Addr × Obj)) (s : Shared) (σ : St) (H : Hp) (E : Value → Shared → Prop), Inv X pins σ H s → (∀ b ∈ fp, FpOk X pins H b) → tn i s.heap → J.go i H →
    wpAny (model P w) X.A (pyNext (.ref it)) (fun r s1 => ∃ u, r = some u ∧
      wpAny (model P w) X.A (letOwnedTupleGo tg (.ref it) u) (fun _ s2 => ∃ x H', Inv X pins σ H' s2 ∧ RelV x u ∧ J.yld i H x H' ∧ tn (i + 1) s2.heap ∧ ∀ b ∈ fp, H' b = none) E s1) E s
  done : ∀ (X : Cx), X.prog = P → X.w = w → X.K = K → X.calm = true → ∀ (i : Nat) (pins : List (Addr × Obj)) (s : Shared) (σ : St) (H : Hp) (E : Value → Shared → Prop), Inv X pins σ H s → (∀ b ∈ fp, FpOk X pins H b) → tn i s.heap → J.stop i H →
    wpAny (model P w) X.A (pyNext (.ref it)) (fun r s1 => r = none ∧ Inv X pins σ H s1) E s
  self : ∀ (A : Around) (i : Nat) (s : Shared) (Q : Value → Shared → Prop) (E : Value → Shared → Prop), tn i s.heap → Q (.ref it) s → wpAny (model P w) A (pyIter (.ref it)) Q E s
abbrev TI := St → Hp → (It → Hp → Prop) → Prop
/-- an iterator has come -/
def PIE (X : Cx) (pins : List (Addr × Obj)) (σ : St) (tg : Expr) (R : It → Hp → Prop) (itv : Value) (s2 : Shared) : Prop :=
  ∃ (it : Addr) (fp : List Addr) (tn : Nat → Heap → Prop) (J : It) (H' : Hp), itv = .ref it ∧ Inv X pins σ H' s2 ∧ Turn X.prog X.w X.K tg J fp it tn ∧ tn 0 s2.heap ∧ (∀ b ∈ fp, FpOk X pins H' b) ∧ R J H'
def PI (X : Cx) (tg iter : Expr) (wi : TI) : Prop :=
  ∀ (pins : List (Addr × Obj)) (s : Shared) (σ : St) (H : Hp) (R : It → Hp → Prop), Inv X pins σ H s → wi σ H R →
    wpAny (model X.prog X.w) X.A (eval iter X.env) (fun v s1 => wpAny (model X.prog X.w) X.A (pyIter v) (PIE X pins σ tg R) X.xe s1) X.xe s

/-- the step ahead of the store is nothing for an iterator that keeps no tuple -/
theorem go_of {M : Model} {A : Around} {E : Value → Shared → Prop} {s : Shared} {tg : Expr} {it : Addr} {u : Value} {o : Obj} {n : String} {vs : Array Value} {Q : Unit → Shared → Prop} (ho : s.heap.get? it = some o) (hc : o.cls = .type n) (hd : o.data = .fields vs)
    (hn : ["enumerate", "zip", "dict_itemiterator", "dict_reverseitemiterator", "odict_iterator", "itertools.zip_longest", "itertools.pairwise"].contains n = false) (hQ : Q () s) : wpAny M A (letOwnedTupleGo tg (.ref it) u) Q E s := by
  unfold letOwnedTupleGo
  cases tg <;> first
    | exact wpAny_pure hQ
    | (cases u <;> first
        | exact wpAny_pure hQ
        | (refine wpAny_bind (wpAny_load ho ?_)
           rw [hc, hd]
           show wpAny M A (if (["enumerate", "zip", "dict_itemiterator", "dict_reverseitemiterator", "odict_iterator", "itertools.zip_longest", "itertools.pairwise"].contains n && vs[0]? == some (rawInt _)) = true then _ else _) Q E s
           rw [if_neg (by intro h; rw [hn, Bool.false_and] at h; cases h)]
           exact wpAny_pure hQ))

/-- the list at a, as it stands at each turn (a loop may append to it) -/
def Itl (K : PySem.W.Frag) (a : Addr) : It :=
  ⟨fun i H => ∃ xs x, SqL K H a xs ∧ xs[i]? = some x, fun i H x H' => H' = H ∧ ∀ xs, SqL K H a xs → xs[i]? = some x, fun i H => ∃ xs, SqL K H a xs ∧ xs.length ≤ i⟩
def Itt (K : PySem.W.Frag) (a : Addr) : It :=
  ⟨fun i H => ∃ xs x, SqT K H a xs ∧ xs[i]? = some x, fun i H x H' => H' = H ∧ ∀ xs, SqT K H a xs → xs[i]? = some x, fun i H => ∃ xs, SqT K H a xs ∧ xs.length ≤ i⟩
/-- lo, lo + 1, .. (n of them) -/
def Itr (lo : Int) (n : Nat) : It := ⟨fun i _ => i < n, fun i H x H' => H' = H ∧ x = .int (lo + i), fun i _ => n ≤ i⟩
theorem turn_list {P : Program} {w : World} {K : PySem.W.Frag} {tg : Expr} (a it : Addr) : Turn P w K tg (Itl K a) [it] it (fun i h => h.IsListIter it a i) where
  mem := by simp
  obj := fun i h st b hb => by
    have e : b = it := by simpa using hb
    subst e
    obtain ⟨o, e, c, d⟩ := st
    exact ⟨o, e, fun v z => by rw [d] at z; cases z⟩
  keep := fun i h h' st k => st.at fun o e => k it (by simp) o e
  item := by
    intro X hP hw hK hc i pins s σ H E I hf st hg
    subst hP hw hK
    obtain ⟨xs, x, hq, hx⟩ := hg
    obtain ⟨its, rv, p, hz⟩ := I.list hq
    obtain ⟨u, hu, ru⟩ := rv.get hx
    obtain ⟨f0, f1, f2, f3, f4, f5⟩ := hf it (by simp)
    refine wpAny_pyNext_list_item st p.isList (x := u) (by simpa using hu) fun h' st' sb => ?_
    have I1 : Inv X pins σ H { s with heap := h' } := I.turned (t' := s.toks) (fun b o hb e => (sb.2 b hb).trans e) f0 f1 f3 f4 f5
    obtain ⟨o, e, c, d⟩ := id st'
    exact ⟨u, rfl, go_of (s := { s with heap := h' }) e c d (by decide) ⟨x, H, I1, ru, ⟨rfl, fun ys hy => by rw [I.list_inj hy hq]; exact hx⟩, st', fun b hb => (hf b hb).1⟩⟩
  done := by
    intro X hP hw hK hc i pins s σ H E I hf st hg
    subst hP hw hK
    obtain ⟨xs, hq, hx⟩ := hg
    obtain ⟨its, rv, p, hz⟩ := I.list hq
    obtain ⟨f0, f1, f2, f3, f4, f5⟩ := hf it (by simp)
    have hl := rv.length
    exact wpAny_pyNext_list_end (I.ok.hd hc) st p.isList (by simp; omega) fun h' eb => ⟨rfl, I.turned (t' := s.toks) (fun b o hb e => eb b o hb e) f0 f1 f3 f4 f5⟩
  self := fun _ _ _ _ _ st h => wpAny_pyIter_listiter st h
theorem turn_tuple {P : Program} {w : World} {K : PySem.W.Frag} {tg : Expr} (a it : Addr) : Turn P w K tg (Itt K a) [it] it (fun i h => h.IsTupleIter it a i) where
  mem := by simp
  obj := fun i h st b hb => by
    have e : b = it := by simpa using hb
    subst e
    obtain ⟨o, e, c, d⟩ := st
    exact ⟨o, e, fun v z => by rw [d] at z; cases z⟩
  keep := fun i h h' st k => st.at fun o e => k it (by simp) o e
  item := by
    intro X hP hw hK hc i pins s σ H E I hf st hg
    subst hP hw hK
    obtain ⟨xs, x, hq, hx⟩ := hg
    obtain ⟨its, rv, p, hz⟩ := I.tuple hq
    obtain ⟨u, hu, ru⟩ := rv.get hx
    obtain ⟨f0, f1, f2, f3, f4, f5⟩ := hf it (by simp)
    refine wpAny_pyNext_tuple_item st (show s.heap.IsTuple a its.toArray from p) (x := u) (by simpa using hu) fun h' st' sb => ?_
    have I1 : Inv X pins σ H { s with heap := h' } := I.turned (t' := s.toks) (fun b o hb e => (sb.2 b hb).trans e) f0 f1 f3 f4 f5
    obtain ⟨o, e, c, d⟩ := id st'
    exact ⟨u, rfl, go_of (s := { s with heap := h' }) e c d (by decide) ⟨x, H, I1, ru, ⟨rfl, fun ys hy => by rw [I.tuple_inj hy hq]; exact hx⟩, st', fun b hb => (hf b hb).1⟩⟩
  done := by
    intro X hP hw hK hc i pins s σ H E I hf st hg
    subst hP hw hK
    obtain ⟨xs, hq, hx⟩ := hg
    obtain ⟨its, rv, p, hz⟩ := I.tuple hq
    obtain ⟨f0, f1, f2, f3, f4, f5⟩ := hf it (by simp)
    have hl := rv.length
    exact wpAny_pyNext_tuple_end (I.ok.hd hc) st (show s.heap.IsTuple a its.toArray from p) (by simp; omega) fun h' eb => ⟨rfl, I.turned (t' := s.toks) (fun b o hb e => eb b o hb e) f0 f1 f3 f4 f5⟩
  self := fun _ _ _ _ _ st h => wpAny_pyIter_tupleiter st h
theorem turn_range {P : Program} {w : World} {K : PySem.W.Frag} {tg : Expr} (it : Addr) (lo : Int) (n : Nat) : Turn P w K tg (Itr lo n) [it] it (fun i h => IsRangeIter h it (lo + (i : Nat) * 1) ((n : Int) - (i : Nat)) 1) where
  mem := by simp
  obj := fun i h st b hb => by
    have e : b = it := by simpa using hb
    subst e
    exact ⟨_, st, fun v z => by
      have z' : Data.fields _ = Data.cell v := z
      cases z'⟩
  keep := fun i h h' st k => k it (by simp) _ st
  item := by
    intro X hP hw hK hc i pins s σ H E I hf st hg
    subst hP hw hK
    obtain ⟨f0, f1, f2, f3, f4, f5⟩ := hf it (by simp)
    have W := Walks.range (prog := X.prog) (w := X.w) (I.ok.hd hc) it lo 1 n
    refine W.item i s _ _ hg st fun v h' tk hv st' kk => ?_
    obtain ⟨t, rfl⟩ := hv
    have I1 : Inv X pins σ H { s with heap := h', toks := tk } := I.turned (fun b o hb e => kk b o (by simpa using hb) e) f0 f1 f3 f4 f5
    refine ⟨_, rfl, go_of (s := { s with heap := h', toks := tk }) (n := "range_iterator") st' rfl rfl (by decide) ⟨.int (lo + i), H, I1, ⟨t, ?_⟩, ⟨rfl, rfl⟩, st', fun b hb => (hf b hb).1⟩⟩
    rw [Int.mul_one]
  done := by
    intro X hP hw hK hc i pins s σ H E I hf st hg
    subst hP hw hK
    obtain ⟨f0, f1, f2, f3, f4, f5⟩ := hf it (by simp)
    exact wpAny_pyNext_range_end (I.ok.hd hc) st (by have : n ≤ i := hg; omega) fun h' eb => ⟨rfl, I.turned (t' := s.toks) (fun b o hb e => eb b o hb e) f0 f1 f3 f4 f5⟩
  self := fun _ _ _ _ _ st h => wpAny_pyIter_rangeiter st h
end L2

namespace L2
open PySem PySem.Spec PyProof.Rows
section
variable {X : Cx} {tg : Expr}
def iList (K : PySem.W.Frag) (tl : TE) : TI := fun σ H R => tl σ H fun x H1 => ∃ a, x = .ref a ∧ (∃ xs, SqL K H1 a xs) ∧ R (Itl K a) H1
def iTup (K : PySem.W.Frag) (tl : TE) : TI := fun σ H R => tl σ H fun x H1 => ∃ a, x = .ref a ∧ (∃ xs, SqT K H1 a xs) ∧ R (Itt K a) H1
theorem pi_list {l : Expr} {tl : TE} (hl : PE X l tl) : PI X tg l (iList X.K tl) := by
  intro pins s σ H R I h
  refine thn (hl pins s σ H _ I h) fun v s1 ⟨x, H1, I1, r1, q1⟩ => ?_
  obtain ⟨a, e, ⟨xs, hq⟩, q⟩ := q1
  subst e
  cases r1
  obtain ⟨its, rv, p, hz⟩ := I1.list hq
  refine wpAny_pyIter_list p.isList ?_
  refine ⟨s1.heap.objs.size, [s1.heap.objs.size], _, _, H1, rfl, I1.kept (t' := s1.toks) fun b o e => Heap.get?_push_of_some _ e, turn_list a _, ⟨_, Heap.get?_push_size _ rfl, rfl, rfl⟩, fun b hb => ?_, q⟩
  have e : b = s1.heap.objs.size := by simpa using hb
  subst e
  exact I1.fpOk (Nat.le_refl _) (I1.hok.fresh (Nat.le_refl _))
theorem pi_tup {l : Expr} {tl : TE} (hl : PE X l tl) : PI X tg l (iTup X.K tl) := by
  intro pins s σ H R I h
  refine thn (hl pins s σ H _ I h) fun v s1 ⟨x, H1, I1, r1, q1⟩ => ?_
  obtain ⟨a, e, ⟨xs, hq⟩, q⟩ := q1
  subst e
  cases r1
  obtain ⟨its, rv, p, hz⟩ := I1.tuple hq
  refine wpAny_pyIter_tuple (show s1.heap.IsTuple a its.toArray from p) ?_
  refine ⟨s1.heap.objs.size, [s1.heap.objs.size], _, _, H1, rfl, I1.kept (t' := s1.toks) fun b o e => Heap.get?_push_of_some _ e, turn_tuple a _, ⟨_, Heap.get?_push_size _ rfl, rfl, rfl⟩, fun b hb => ?_, q⟩
  have e : b = s1.heap.objs.size := by simpa using hb
  subst e
  exact I1.fpOk (Nat.le_refl _) (I1.hok.fresh (Nat.le_refl _))
/-- a range object just made, walked -/
theorem range_it {pins : List (Addr × Obj)} {σ : St} {H : Hp} {s : Shared} {R : It → Hp → Prop} {E : Value → Shared → Prop} {lo hi : Int} {t u v : Tok} {tk : Nat} (I : Inv X pins σ H s) (h1 : -(2 ^ 62) ≤ lo) (h2 : lo < 2 ^ 62) (h3 : -(2 ^ 62) ≤ hi) (h4 : hi < 2 ^ 62)
    (q : R (Itr lo (hi - lo).toNat) H) : wpAny (model X.prog X.w) X.A (pyIter (.ref s.heap.objs.size)) (PIE X pins σ tg R) E { s with heap := s.heap.push { cls := .type "range", data := .fields #[.int lo t, .int hi u, .int 1 v] }, toks := tk } := by
  refine wpAny_pyIter_range (IsRange.new ..) (small_one h1 h2 h3 h4) ?_
  have I1 : Inv X pins σ H { s with heap := s.heap.push { cls := .type "range", data := .fields #[.int lo t, .int hi u, .int 1 v] }, toks := tk } := I.kept fun b o e => Heap.get?_push_of_some _ e
  refine ⟨(s.heap.push { cls := .type "range", data := .fields #[.int lo t, .int hi u, .int 1 v] }).objs.size, [(s.heap.push { cls := .type "range", data := .fields #[.int lo t, .int hi u, .int 1 v] }).objs.size], _, _, H, rfl,
    I1.kept (t' := tk) fun b o e => Heap.get?_push_of_some _ e, turn_range _ lo (hi - lo).toNat, ?_, fun b hb => ?_, q⟩
  · have e1 : lo + ((0 : Nat) : Int) * 1 = lo := by simp
    have e2 : (((hi - lo).toNat : Nat) : Int) - ((0 : Nat) : Int) = Builtin.Range.rangeSize lo hi 1 := by rw [rangeSize_one]; split <;> omega
    show IsRangeIter _ _ (lo + ((0 : Nat) : Int) * 1) ((((hi - lo).toNat : Nat) : Int) - ((0 : Nat) : Int)) 1
    rw [e1, e2]
    exact Heap.get?_push_size _ rfl
  · have e : b = (s.heap.push { cls := .type "range", data := .fields #[.int lo t, .int hi u, .int 1 v] }).objs.size := by simpa using hb
    subst e
    exact I1.fpOk (Nat.le_refl _) (I1.hok.fresh (Nat.le_refl _))
def iRng1 (ta : TA) : TI := fun σ H R => ta σ H fun vs H1 => ∃ j : Int, vs = [.int j] ∧ -(2 ^ 62) ≤ j ∧ j < 2 ^ 62 ∧ R (Itr 0 j.toNat) H1
def iRng2 (ta : TA) : TI := fun σ H R => ta σ H fun vs H1 => ∃ i j : Int, vs = [.int i, .int j] ∧ (-(2 ^ 62) ≤ i ∧ i < 2 ^ 62 ∧ -(2 ^ 62) ≤ j ∧ j < 2 ^ 62) ∧ R (Itr i (j - i).toNat) H1
theorem pi_range1 {a : Expr} {ta : TA} {p pos : Pos} (hg : Gl X "range") (hm : X.mg "range" = none) (ha : PA X [a] ta) (hs : starEach [a] X.env = [(false, eval a X.env)] := by rfl) : PI X tg (.Call (.Name "range" p) [a] [] pos) (iRng1 ta) := by
  intro pins s σ H R I h
  refine Call_ (ld_blt I hg hm boot_range (PyProof.Rows.callWith_type1 (thn (ha pos pins s σ H _ I h) fun us s1 ⟨vs, H1, I1, r1, q1⟩ => ?_) hs rfl))
  obtain ⟨j, e, q1, q2, q⟩ := q1
  subst e
  cases r1 with
  | cons r rr =>
    cases rr
    obtain ⟨t, rfl⟩ := r
    exact call_range_1 (range_it I1 (by omega) (by omega) q1 q2 (by simpa using q))
/-! ### for -/
/-- W: the invariant by the turn and a measure; N: what the body is to reach -/
def tFor (wi : TI) (g : TG) (tb : TS) : TS := fun D σ H => wi σ H fun J H1 => ∃ W : Nat → Nat → St → Hp → Prop, (∃ m, W 0 m σ H1) ∧ ∀ i m σ H, W i m σ H →
  (J.stop i H ∧ D.nx σ H) ∨ (J.go i H ∧ ∃ N : St → Hp → Prop, (∀ σ' H', N σ' H' → ∃ m', m' < m ∧ W (i + 1) m' σ' H') ∧ ∀ x H', J.yld i H x H' → g x σ H' fun σ2 H2 => tb { D with nx := N, ct := N, bk := D.nx } σ2 H2)
/-- the records at fp as they stand -/
def pinsAt (fp : List Addr) (h : Heap) : List (Addr × Obj) := fp.filterMap fun b => (h.get? b).map fun o => (b, o)
theorem mem_pinsAt {fp : List Addr} {h : Heap} {b : Addr} {o : Obj} (hb : b ∈ fp) (e : h.get? b = some o) : (b, o) ∈ pinsAt fp h := List.mem_filterMap.mpr ⟨b, hb, by rw [e]; rfl⟩
theorem of_pinsAt {fp : List Addr} {h : Heap} {p : Addr × Obj} (hp : p ∈ pinsAt fp h) : p.1 ∈ fp ∧ h.get? p.1 = some p.2 := by
  obtain ⟨b, hb, e⟩ := List.mem_filterMap.mp hp
  cases q : h.get? b with
  | none => rw [q] at e; cases e
  | some o =>
    rw [q] at e
    have e' : (b, o) = p := Option.some.inj e
    subst e'
    exact ⟨hb, q⟩
theorem Inv.pinned {pins : List (Addr × Obj)} {σ : St} {H : Hp} {s : Shared} {fp : List Addr} (I : Inv X pins σ H s) (hf : ∀ b ∈ fp, FpOk X pins H b) (ho : ∀ b ∈ fp, ∃ o, s.heap.get? b = some o ∧ ∀ v, o.data ≠ .cell v) : Inv X (pins ++ pinsAt fp s.heap) σ H s :=
  I.pins_of fun p hp => (List.mem_append.mp hp).elim (fun z => I.pin p (List.mem_append_right _ z)) fun z => by
    obtain ⟨hb, e⟩ := of_pinsAt z
    obtain ⟨f0, f1, f2, _⟩ := hf p.1 hb
    obtain ⟨o, e', d⟩ := ho p.1 hb
    rw [e] at e'; cases e'
    exact ⟨e, f0, f1, f2, d⟩
theorem Inv.unpinned {pins pl : List (Addr × Obj)} {σ : St} {H : Hp} {s : Shared} (I : Inv X (pins ++ pl) σ H s) : Inv X pins σ H s := I.pins_of fun p hp => I.pin p (List.mem_append_right _ (List.mem_append_left _ hp))
theorem ps_for {iter : Expr} {body : List Stmt} {wi : TI} {g : TG} {tb : TS} {pos : Pos} (hp : PassesOwn (model X.prog X.w) X.A X.env X.xe) (hc : X.calm = true) (hi : PI X tg iter wi) (hg : PG X tg g) (hb : PSs X body tb)
    (hs : ∀ x, foldedSetIterable iter X.env x = pure x := by intro _; rfl) : PS X (.For tg iter body [] pos) (tFor wi g tb) := by
  intro pins s σ H D I h
  refine wpAny_For (thn (hi pins s σ H _ I h) fun v s1 h1 => thn h1 fun itv s2 h2 => ?_) hs
  obtain ⟨it, fp, tn, J, H2, e, I2, T, st2, f2, W, ⟨m0, w0⟩, turn⟩ := h2
  subst e
  -- what stays true of the iterator's objects through the loop
  have stat : ∀ {H' : Hp}, (∀ b ∈ fp, H' b = none) → ∀ b ∈ fp, FpOk X pins H' b := fun hn b hb => ⟨hn b hb, (f2 b hb).2⟩
  refine codeAny_forLoop_any (fun n s' => ∃ i σ' H', Inv X pins σ' H' s' ∧ tn i s'.heap ∧ (∀ b ∈ fp, H' b = none) ∧ W i n σ' H') ?_ m0 ⟨0, σ, H2, I2, st2, fun b hb => (f2 b hb).1, w0⟩
  rintro n s3 ⟨i, σ3, H3, I3, st3, fr3, w3⟩
  rcases turn i n σ3 H3 w3 with ⟨stop, qn⟩ | ⟨go, N, hN, step⟩
  · refine wpAny_passesOwn hp (thn (T.done X rfl rfl rfl hc i pins s3 σ3 H3 X.xe I3 (stat fr3) st3 stop) fun r s4 ⟨hr, I4⟩ => ?_)
    subst hr
    exact wpAny_execs_nil ⟨σ3, H3, I4, qn⟩
  · refine wpAny_passesOwn hp (thn (T.item X rfl rfl rfl hc i pins s3 σ3 H3 X.xe I3 (stat fr3) st3 go) fun r s4 ⟨u, hr, h4⟩ => ?_)
    subst hr
    refine wpAny_passesOwn hp (thn h4 fun _ s5 ⟨x, H5, I5, r5, y5, st5, fr5⟩ => ?_)
    have I5' := I5.pinned (stat fr5) (T.obj _ _ st5)
    refine wpAny_passesOwn hp (thn (hg _ s5 σ3 H5 x u _ I5' r5 (step x H5 y5)) fun _ s6 ⟨σ6, H6, I6, q6⟩ => ?_)
    refine wpAny_passesOwn hp (thn (hb _ s6 σ6 H6 _ I6 q6) fun f s7 q7 => ?_)
    have again : ∀ {σ7 : St} {H7 : Hp}, Inv X (pins ++ pinsAt fp s5.heap) σ7 H7 s7 → N σ7 H7 → ∃ m, m < n ∧ ∃ i σ' H', Inv X pins σ' H' s7 ∧ tn i s7.heap ∧ (∀ b ∈ fp, H' b = none) ∧ W i m σ' H' := fun {σ7 H7} I7 n7 => by
      obtain ⟨m', hm, w7⟩ := hN σ7 H7 n7
      refine ⟨m', hm, i + 1, σ7, H7, I7.unpinned, T.keep _ _ _ st5 fun b hb o e => (I7.pin (b, o) (List.mem_append_right _ (List.mem_append_right _ (mem_pinsAt hb e)))).1, fun b hb => ?_, w7⟩
      obtain ⟨o, e, d⟩ := T.obj _ _ st5 b hb
      exact (I7.pin (b, o) (List.mem_append_right _ (List.mem_append_right _ (mem_pinsAt hb e)))).2.1
    cases f with
    | next => obtain ⟨σ7, H7, I7, n7⟩ := q7; exact again I7 n7
    | cont => obtain ⟨σ7, H7, I7, n7⟩ := q7; exact again I7 n7
    | brk => obtain ⟨σ7, H7, I7, q7⟩ := q7; exact ⟨σ7, H7, I7.unpinned, q7⟩
    | ret v => obtain ⟨x7, σ7, H7, I7, r7, q7⟩ := q7; exact ⟨x7, σ7, H7, I7.unpinned, r7, q7⟩
end

/-! ### the forms one uses -/
/-- over a list that the body leaves as it is -/
theorem for_list {K : PySem.W.Frag} {a : Addr} {xs : List V} {g : TG} {tb : TS} {D : Ends} {σ : St} {H : Hp} (Pv : Nat → St → Hp → Prop) (h0 : Pv 0 σ H) (hl : ∀ i σ H, i ≤ xs.length → Pv i σ H → SqL K H a xs)
    (hs : ∀ i x σ H, xs[i]? = some x → Pv i σ H → g x σ H fun σ2 H2 => tb { D with nx := Pv (i + 1), ct := Pv (i + 1), bk := D.nx } σ2 H2) (hd : ∀ σ H, Pv xs.length σ H → D.nx σ H) :
    ∃ W : Nat → Nat → St → Hp → Prop, (∃ m, W 0 m σ H) ∧ ∀ i m σ H, W i m σ H →
      ((Itl K a).stop i H ∧ D.nx σ H) ∨ ((Itl K a).go i H ∧ ∃ N : St → Hp → Prop, (∀ σ' H', N σ' H' → ∃ m', m' < m ∧ W (i + 1) m' σ' H') ∧ ∀ x H', (Itl K a).yld i H x H' → g x σ H' fun σ2 H2 => tb { D with nx := N, ct := N, bk := D.nx } σ2 H2) := by
  refine ⟨fun i m σ H => m = xs.length - i ∧ i ≤ xs.length ∧ Pv i σ H, ⟨xs.length, by simp, Nat.zero_le _, h0⟩, ?_⟩
  rintro i m σ H ⟨rfl, hi, p⟩
  have q := hl i σ H hi p
  by_cases hlt : i < xs.length
  · refine .inr ⟨⟨xs, xs[i], q, by simp [hlt]⟩, Pv (i + 1), fun σ' H' p' => ⟨xs.length - (i + 1), by omega, rfl, hlt, p'⟩, fun x H' y => ?_⟩
    obtain ⟨e, y⟩ := y
    subst e
    exact hs i x σ _ (y xs q) p
  · have e : i = xs.length := by omega
    subst e
    exact .inl ⟨⟨xs, q, Nat.le_refl _⟩, hd σ H p⟩
theorem for_tup {K : PySem.W.Frag} {a : Addr} {xs : List V} {g : TG} {tb : TS} {D : Ends} {σ : St} {H : Hp} (Pv : Nat → St → Hp → Prop) (h0 : Pv 0 σ H) (hl : ∀ i σ H, i ≤ xs.length → Pv i σ H → SqT K H a xs)
    (hs : ∀ i x σ H, xs[i]? = some x → Pv i σ H → g x σ H fun σ2 H2 => tb { D with nx := Pv (i + 1), ct := Pv (i + 1), bk := D.nx } σ2 H2) (hd : ∀ σ H, Pv xs.length σ H → D.nx σ H) :
    ∃ W : Nat → Nat → St → Hp → Prop, (∃ m, W 0 m σ H) ∧ ∀ i m σ H, W i m σ H →
      ((Itt K a).stop i H ∧ D.nx σ H) ∨ ((Itt K a).go i H ∧ ∃ N : St → Hp → Prop, (∀ σ' H', N σ' H' → ∃ m', m' < m ∧ W (i + 1) m' σ' H') ∧ ∀ x H', (Itt K a).yld i H x H' → g x σ H' fun σ2 H2 => tb { D with nx := N, ct := N, bk := D.nx } σ2 H2) := by
  refine ⟨fun i m σ H => m = xs.length - i ∧ i ≤ xs.length ∧ Pv i σ H, ⟨xs.length, by simp, Nat.zero_le _, h0⟩, ?_⟩
  rintro i m σ H ⟨rfl, hi, p⟩
  have q := hl i σ H hi p
  by_cases hlt : i < xs.length
  · refine .inr ⟨⟨xs, xs[i], q, by simp [hlt]⟩, Pv (i + 1), fun σ' H' p' => ⟨xs.length - (i + 1), by omega, rfl, hlt, p'⟩, fun x H' y => ?_⟩
    obtain ⟨e, y⟩ := y
    subst e
    exact hs i x σ _ (y xs q) p
  · have e : i = xs.length := by omega
    subst e
    exact .inl ⟨⟨xs, q, Nat.le_refl _⟩, hd σ H p⟩
theorem for_range {lo : Int} {n : Nat} {g : TG} {tb : TS} {D : Ends} {σ : St} {H : Hp} (Pv : Nat → St → Hp → Prop) (h0 : Pv 0 σ H)
    (hs : ∀ i σ H, i < n → Pv i σ H → g (.int (lo + i)) σ H fun σ2 H2 => tb { D with nx := Pv (i + 1), ct := Pv (i + 1), bk := D.nx } σ2 H2) (hd : ∀ σ H, Pv n σ H → D.nx σ H) :
    ∃ W : Nat → Nat → St → Hp → Prop, (∃ m, W 0 m σ H) ∧ ∀ i m σ H, W i m σ H →
      ((Itr lo n).stop i H ∧ D.nx σ H) ∨ ((Itr lo n).go i H ∧ ∃ N : St → Hp → Prop, (∀ σ' H', N σ' H' → ∃ m', m' < m ∧ W (i + 1) m' σ' H') ∧ ∀ x H', (Itr lo n).yld i H x H' → g x σ H' fun σ2 H2 => tb { D with nx := N, ct := N, bk := D.nx } σ2 H2) := by
  refine ⟨fun i m σ H => m = n - i ∧ i ≤ n ∧ Pv i σ H, ⟨n, by simp, Nat.zero_le _, h0⟩, ?_⟩
  rintro i m σ H ⟨rfl, hi, p⟩
  by_cases hlt : i < n
  · refine .inr ⟨hlt, Pv (i + 1), fun σ' H' p' => ⟨n - (i + 1), by omega, rfl, hlt, p'⟩, fun x H' y => ?_⟩
    obtain ⟨e, y⟩ := y
    subst e y
    exact hs i σ _ hlt p
  · have e : i = n := by omega
    subst e
    exact .inl ⟨Nat.le_refl _, hd σ H p⟩
end L2

namespace L2
open PySem PySem.Spec PyProof.Rows

abbrev R2 := V → V → Hp → VK → Prop
/-- a two-place operation on values: f is binaryOp op, inplaceOp op or compareOp op -/
def OpR (X : Cx) (f : Value → Value → Sem Value) (r : R2) : Prop :=
  ∀ (pins : List (Addr × Obj)) (s : Shared) (σ : St) (H : Hp) (x y : V) (v u : Value) (Q : VK), Inv X pins σ H s → RelV x v → RelV y u → r x y H Q →
    wpAny (model X.prog X.w) X.A (f v u) (EP X pins σ Q) X.xe s
/-- a one-place operation -/
def UnR (X : Cx) (f : Value → Sem Value) (r : V → Hp → VK → Prop) : Prop :=
  ∀ (pins : List (Addr × Obj)) (s : Shared) (σ : St) (H : Hp) (x : V) (v : Value) (Q : VK), Inv X pins σ H s → RelV x v → r x H Q →
    wpAny (model X.prog X.w) X.A (f v) (EP X pins σ Q) X.xe s
/-- a call of a value that is known (a builtin, a type) with values -/
def CallR (X : Cx) (f : Value) (r : List V → Hp → VK → Prop) : Prop :=
  ∀ (pins : List (Addr × Obj)) (s : Shared) (σ : St) (H : Hp) (xs : List V) (us : List Value) (Q : VK), Inv X pins σ H s → Vals xs us → r xs H Q →
    wpAny (model X.prog X.w) X.A (call f us) (EP X pins σ Q) X.xe s
/-- a value's truth -/
def TruR (X : Cx) (r : V → Hp → (Bool → Hp → Prop) → Prop) : Prop :=
  ∀ (pins : List (Addr × Obj)) (s : Shared) (σ : St) (H : Hp) (x : V) (v : Value) (Q : Bool → Hp → Prop), Inv X pins σ H s → RelV x v → r x H Q →
    wpAny (model X.prog X.w) X.A (truthy v) (TP X pins σ Q) X.xe s

def tOp (r : R2) (ta tb : TE) : TE := fun σ H Q => ta σ H fun x H1 => tb σ H1 fun y H2 => r x y H2 Q
def tUn (r : V → Hp → VK → Prop) (ta : TE) : TE := fun σ H Q => ta σ H fun x H1 => r x H1 Q
/-- ints in, under C, and a value out -/
def rI (C : Int → Int → Prop) (g : Int → Int → V) : R2 := fun x y H Q => ∃ i j, x = .int i ∧ y = .int j ∧ C i j ∧ Q (g i j) H
def rI0 (g : Int → Int → V) : R2 := fun x y H Q => ∃ i j, x = .int i ∧ y = .int j ∧ Q (g i j) H
def rU (g : Int → V) : V → Hp → VK → Prop := fun x H Q => ∃ i, x = .int i ∧ Q (g i) H

section
variable {X : Cx} {a b c : Expr} {ta tb tc : TE} {pos : Pos}

theorem binT (ha : PE X a ta) (hb : PE X b tb) {pins : List (Addr × Obj)} {s : Shared} {σ : St} {H : Hp} {R : V → V → Hp → Prop} (I : Inv X pins σ H s)
    (h : ta σ H fun x H1 => tb σ H1 fun y H2 => R x y H2) {Q : Value → Shared → Prop} {f : Value → Value → Sem Value}
    (hf : ∀ v u s2 x y H2, Inv X pins σ H2 s2 → RelV x v → RelV y u → R x y H2 → wpAny (model X.prog X.w) X.A (f v u) Q X.xe s2) :
    wpAny (model X.prog X.w) X.A (eval a X.env) (fun v s₁ => wpAny (model X.prog X.w) X.A (eval b X.env) (fun u s₂ => wpAny (model X.prog X.w) X.A (f v u) Q X.xe s₂) X.xe s₁) X.xe s := by
  refine thn (ha pins s σ H _ I h) fun v s1 ⟨x, H1, I1, r1, q1⟩ => ?_
  refine thn (hb pins s1 σ H1 _ I1 q1) fun u s2 ⟨y, H2, I2, r2, q2⟩ => ?_
  exact hf v u s2 x y H2 I2 r1 r2 q2

theorem pe_op {op : Operator} {r : R2} (ho : OpR X (binaryOp op) r) (ha : PE X a ta) (hb : PE X b tb) : PE X (.BinOp a op b pos) (tOp r ta tb) := by
  intro pins s σ H Q I h
  exact wpAny_BinOp (binT ha hb I h fun v u s2 x y H2 I2 rx ry q => ho pins s2 σ H2 x y v u Q I2 rx ry q)
theorem pe_un {op : UnaryOp} {r : V → Hp → VK → Prop} (ho : UnR X (unaryOp op) r) (ha : PE X a ta) : PE X (.UnaryOp op a pos) (tUn r ta) := by
  intro pins s σ H Q I h
  exact UnaryOp_ (thn (ha pins s σ H _ I h) fun v s1 ⟨x, H1, I1, r1, q1⟩ => ho pins s1 σ H1 x v Q I1 r1 q1)
/-! ### ints -/
theorem opI {f : Value → Value → Sem Value} {C : Int → Int → Prop} {g : Int → Int → Int}
    (rule : ∀ (i j : Int) (t u : Tok) (s : Shared) (Q : Value → Shared → Prop) (E : Value → Shared → Prop), C i j → Q (.int (g i j) s.toks) { s with toks := s.toks + 1 } → wpAny (model X.prog X.w) X.A (f (.int i t) (.int j u)) Q E s) :
    OpR X f (rI C fun i j => .int (g i j)) := by
  intro pins s σ H x y v u Q I rx ry h
  obtain ⟨i, j, rfl, rfl, hc, q⟩ := h
  obtain ⟨t, rfl⟩ := rx
  obtain ⟨t', rfl⟩ := ry
  exact rule i j t t' s _ _ hc ⟨.int (g i j), H, I.tok _, ⟨_, rfl⟩, q⟩
theorem opI0 {f : Value → Value → Sem Value} {g : Int → Int → Int}
    (rule : ∀ (i j : Int) (t u : Tok) (s : Shared) (Q : Value → Shared → Prop) (E : Value → Shared → Prop), Q (.int (g i j) s.toks) { s with toks := s.toks + 1 } → wpAny (model X.prog X.w) X.A (f (.int i t) (.int j u)) Q E s) :
    OpR X f (rI0 fun i j => .int (g i j)) := by
  intro pins s σ H x y v u Q I rx ry h
  obtain ⟨i, j, rfl, rfl, q⟩ := h
  obtain ⟨t, rfl⟩ := rx
  obtain ⟨t', rfl⟩ := ry
  exact rule i j t t' s _ _ ⟨.int (g i j), H, I.tok _, ⟨_, rfl⟩, q⟩
theorem opB0 {f : Value → Value → Sem Value} {g : Int → Int → Bool}
    (rule : ∀ (i j : Int) (t u : Tok) (s : Shared) (Q : Value → Shared → Prop) (E : Value → Shared → Prop), Q (.bool (g i j)) s → wpAny (model X.prog X.w) X.A (f (.int i t) (.int j u)) Q E s) :
    OpR X f (rI0 fun i j => .bl (g i j)) := by
  intro pins s σ H x y v u Q I rx ry h
  obtain ⟨i, j, rfl, rfl, q⟩ := h
  obtain ⟨t, rfl⟩ := rx
  obtain ⟨t', rfl⟩ := ry
  exact rule i j t t' s _ _ ⟨.bl (g i j), H, I, rfl, q⟩

def CDiv (i j : Int) : Prop := 0 < j ∧ j < 1073741824
def CPow (i j : Int) : Prop := 0 ≤ j ∧ j ≤ 1000000 ∧ i.natAbs < 2 ^ 64
def CMul (i j : Int) : Prop := (-(2 ^ 64) < i ∧ i < 2 ^ 64) ∨ (-(2 ^ 64) < j ∧ j < 2 ^ 64)
theorem CMul.ok {i j : Int} (h : CMul i j) : IntMulOk i j := by
  rcases h with ⟨h1, h2⟩ | ⟨h1, h2⟩
  · exact .of_left (intBits_le_64 h1 h2)
  · exact .of_right (intBits_le_64 h1 h2)
theorem op_add : OpR X (binaryOp .Add) (rI0 fun i j => .int (i + j)) := opI0 fun _ _ _ _ _ _ _ q => add_int q
theorem op_sub : OpR X (binaryOp .Sub) (rI0 fun i j => .int (i - j)) := opI0 fun _ _ _ _ _ _ _ q => sub_int q
theorem op_mul : OpR X (binaryOp .Mult) (rI CMul fun i j => .int (i * j)) := opI fun _ _ _ _ _ _ _ hc q => mul_int q hc.ok
/-- // by a positive divisor -/
theorem op_fdiv : OpR X (binaryOp .FloorDiv) (rI CDiv fun i j => .int (i / j)) := opI fun i j _ _ _ _ _ hc q => by
  have h1 : (0 : Int) < j := hc.1
  have h2 : j < 1073741824 := hc.2
  exact floordiv_int (by omega) (by rw [Int.fdiv_eq_ediv_of_nonneg i (by omega)]; exact q) (.inl (PyProof.noPylong_small (by omega)))
/-- % by a positive divisor of any size -/
theorem op_mod : OpR X (binaryOp .Mod) (rI (fun _ j => 0 < j) fun i j => .int (i % j)) := opI fun i j _ _ _ _ _ hc q => by
  have h1 : (0 : Int) < j := hc
  exact mod_int' (by omega) (by rw [Int.fmod_eq_emod_of_nonneg i (by omega)]; exact q)
theorem op_pow : OpR X (binaryOp .Pow) (rI CPow fun i j => .int (i ^ j.toNat)) := opI fun _ _ _ _ _ _ _ hc q => pow_int_small hc.1 hc.2.1 hc.2.2 q
theorem unI {f : Value → Sem Value} {g : Int → Int}
    (rule : ∀ (i : Int) (t : Tok) (s : Shared) (Q : Value → Shared → Prop) (E : Value → Shared → Prop), Q (.int (g i) s.toks) { s with toks := s.toks + 1 } → wpAny (model X.prog X.w) X.A (f (.int i t)) Q E s) :
    UnR X f (rU fun i => .int (g i)) := by
  intro pins s σ H x v Q I rx h
  obtain ⟨i, rfl, q⟩ := h
  obtain ⟨t, rfl⟩ := rx
  exact rule i t s _ _ ⟨.int (g i), H, I.tok _, ⟨_, rfl⟩, q⟩
theorem un_neg : UnR X (unaryOp .USub) (rU fun i => .int (-i)) := unI fun _ _ _ _ _ q => neg_int q
/-! ### bools among ints: n += (a < b) -/
end

/-! ### comparisons -/
/-- the scalars that == tells apart as data does -/
def scal : V → V → Bool
  | .non, .non => true | .non, .int _ => true | .int _, .non => true | .non, .bl _ => true | .bl _, .non => true | .non, .str _ => true | .str _, .non => true
  | .int _, .int _ => true | .bl _, .bl _ => true | .str _, .str _ => true | .byt _, .byt _ => true
  | .int _, .str _ => true | .str _, .int _ => true | .bl _, .str _ => true | .str _, .bl _ => true
  | _, _ => false
def rEq : R2 := fun x y H Q => scal x y = true ∧ Q (.bl (decide (x = y))) H
def rNe : R2 := fun x y H Q => scal x y = true ∧ Q (.bl (!decide (x = y))) H

theorem dec_int {i j : Int} : decide (V.int i = V.int j) = (i == j) := by
  rw [Bool.eq_iff_iff]
  simp
theorem dec_bl {i j : Bool} : decide (V.bl i = V.bl j) = (i == j) := by
  rw [Bool.eq_iff_iff]
  simp
theorem dec_str {i j : Str} : decide (V.str i = V.str j) = (i == j) := by
  rw [Bool.eq_iff_iff]
  simp
theorem dec_byt {i j : Array UInt8} : decide (V.byt i = V.byt j) = (i.toList == j.toList) := by
  rw [Bool.eq_iff_iff]
  cases i
  cases j
  simp

section
variable {X : Cx} {a b c : Expr} {ta tb tc : TE} {pos : Pos}
theorem fin_bl {pins : List (Addr × Obj)} {σ : St} {H : Hp} {s : Shared} {Q : VK} {k k' : Bool} (I : Inv X pins σ H s) (q : Q (.bl k) H) (e : k = k') : EP X pins σ Q (.bool k') s := by
  subst e
  exact ⟨.bl k, H, I, rfl, q⟩
theorem op_eq : OpR X (compareOp .Eq) rEq := by
  intro pins s σ H x y v u Q I rx ry h
  obtain ⟨hs, q⟩ := h
  cases x with
  | non =>
    cases rx
    cases y with
    | non => cases ry; exact PySem.EqNone.eq_none_none (fin_bl I q (by simp))
    | bl j => cases ry; exact PySem.EqNone.eq_none_bool (fin_bl I q (by simp))
    | int j => obtain ⟨t', rfl⟩ := ry; exact PySem.EqNone.eq_none_int (fin_bl I q (by simp))
    | str j => obtain ⟨t', rfl⟩ := ry; exact PySem.EqNone.eq_none_str (fin_bl I q (by simp))
    | _ => exact absurd (show false = true from hs) Bool.false_ne_true
  | bl i =>
    cases rx
    cases y with
    | non => cases ry; exact PySem.EqNone.eq_bool_none (fin_bl I q (by simp))
    | bl j => cases ry; exact eq_bool (fin_bl I q dec_bl)
    | str j => obtain ⟨t', rfl⟩ := ry; exact PySem.EqMixed.eq_bool_str (fin_bl I q (by simp))
    | _ => exact absurd (show false = true from hs) Bool.false_ne_true
  | int i =>
    obtain ⟨t, rfl⟩ := rx
    cases y with
    | non => cases ry; exact PySem.EqNone.eq_int_none (fin_bl I q (by simp))
    | int j => obtain ⟨t', rfl⟩ := ry; exact eq_int (fin_bl I q dec_int)
    | str j => obtain ⟨t', rfl⟩ := ry; exact PySem.EqMixed.eq_int_str (fin_bl I q (by simp))
    | _ => exact absurd (show false = true from hs) Bool.false_ne_true
  | str i =>
    obtain ⟨t, rfl⟩ := rx
    cases y with
    | non => cases ry; exact PySem.EqNone.eq_str_none (fin_bl I q (by simp))
    | bl j => cases ry; exact PySem.EqMixed.eq_str_bool (fin_bl I q (by simp))
    | int j => obtain ⟨t', rfl⟩ := ry; exact PySem.EqMixed.eq_str_int (fin_bl I q (by simp))
    | str j => obtain ⟨t', rfl⟩ := ry; exact eq_str (fin_bl I q dec_str)
    | _ => exact absurd (show false = true from hs) Bool.false_ne_true
  | byt i =>
    obtain ⟨t, rfl⟩ := rx
    cases y with
    | byt j => obtain ⟨t', rfl⟩ := ry; exact PySem.W.eq_bytes (fin_bl I q dec_byt)
    | _ => exact absurd (show false = true from hs) Bool.false_ne_true
  | _ => cases y <;> exact absurd (show false = true from hs) Bool.false_ne_true
theorem op_lt : OpR X (compareOp .Lt) (rI0 fun i j => .bl (decide (i < j))) := opB0 fun _ _ _ _ _ _ _ q => lt_int q
theorem op_gt : OpR X (compareOp .Gt) (rI0 fun i j => .bl (decide (j < i))) := opB0 fun _ _ _ _ _ _ _ q => gt_int q
theorem op_ge : OpR X (compareOp .GtE) (rI0 fun i j => .bl (decide (j ≤ i))) := opB0 fun _ _ _ _ _ _ _ q => ge_int q
theorem op_notN : OpR X (compareOp .IsNot) (fun x y H Q => y = .non ∧ Q (.bl (!decide (x = .non))) H) := by
  intro pins s σ H x y v u Q I rx ry h
  obtain ⟨rfl, q⟩ := h
  cases ry
  refine isnot_none_gen (fin_bl I q ?_)
  cases x <;> first
    | (cases rx; rfl)
    | (obtain ⟨t, rfl⟩ := rx; rfl)

theorem nomark (b : Expr) {op : CmpOp} (h : op ≠ .In := by decide) (h2 : op ≠ .NotIn := by decide) : behindInMarks op b = false := by
  have e1 : (op == CmpOp.In) = false := by cases op <;> first | rfl | exact absurd rfl h
  have e2 : (op == CmpOp.NotIn) = false := by cases op <;> first | rfl | exact absurd rfl h2
  cases b <;> simp [behindInMarks, e1, e2]
/-- a comparison as a value; hm: nomark b, or (for in, not in) by with_unfolding_all rfl -/
theorem pe_cmpR {op : CmpOp} {r : R2} (ho : OpR X (compareOp op) r) (ha : PE X a ta) (hb : PE X b tb) (hm : behindInMarks op b = false) : PE X (.Compare a [op] [b] pos) (tOp r ta tb) := by
  intro pins s σ H Q I h
  exact wpAny_Compare1 (binT ha hb I h fun v u s2 x y H2 I2 rx ry q => ho pins s2 σ H2 x y v u Q I2 rx ry q) hm
/-- a reading of a value as a test -/
def tTest (t : TE) : TT := fun σ H Q => t σ H fun x H' => ∃ k, x = .bl k ∧ Q k H'
theorem pt_cmpR {op : CmpOp} {r : R2} (ho : OpR X (compareOp op) r) (ha : PE X a ta) (hb : PE X b tb) (hm : behindInMarks op b = false) : PT X (.Compare a [op] [b] pos) (tTest (tOp r ta tb)) := by
  intro pins s σ H Q I h
  refine wpAny_isTrue_Compare1 (thn (ha pins s σ H _ I h) fun v s1 ⟨x, H1, I1, r1, q1⟩ => thn (hb pins s1 σ H1 _ I1 q1) fun u s2 ⟨y, H2, I2, r2, q2⟩ =>
    thn (ho pins s2 σ H2 x y v u _ I2 r1 r2 q2) fun c s3 ⟨z, H3, I3, r3, k, e, q3⟩ => ?_) hm
  subst e
  cases r3
  exact wpAny_truthy_bool ⟨H3, I3, q3⟩
/-- a op1 b op2 c -/
def tChain (r r' : R2) (ta tb tc : TE) : TE := fun σ H Q => ta σ H fun x H1 => tb σ H1 fun y H2 => r x y H2 fun z H3 => ∃ k, z = .bl k ∧
  (if k = true then tc σ H3 fun w' H4 => r' y w' H4 Q else Q (.bl false) H3)
/-! ### truth -/
/-- a value's truth by the abstract heap -/
def TruV (K : PySem.W.Frag) (x : V) (H : Hp) (k : Bool) : Prop :=
  match x with
  | .non => k = false
  | .bl b => k = b
  | .int i => k = (i != 0)
  | .str y => y.length ≤ sizeLine ∧ k = ((y.length : Int) != 0)
  | .byt y => y.size ≤ sizeLine ∧ k = ((y.size : Int) != 0)
  | .ref p => (∃ xs, SqL K H p xs ∧ k = !xs.isEmpty) ∨ (∃ xs, SqT K H p xs ∧ k = !xs.isEmpty) ∨ ∃ kvs, H p = some (.dK kvs) ∧ k = !kvs.isEmpty
  | _ => False
theorem isEmpty_kv {κ : Type} {kvs : List (κ × V)} {vs : List (κ × Value)} (r : KV kvs vs) : (!vs.isEmpty) = !kvs.isEmpty := by
  cases r <;> rfl
theorem isEmpty_of {xs : List V} {its : List Value} (r : Vals xs its) : (!its.toArray.isEmpty) = !xs.isEmpty := by
  cases r <;> simp
theorem line63 : (sizeLine : Nat) < 2 ^ 63 := by rw [sizeLine_eq]; decide
theorem tru_ok : TruR X (fun x H Q => ∃ k, TruV X.K x H k ∧ Q k H) := by
  intro pins s σ H x v Q I rx h
  obtain ⟨k, e, q⟩ := h
  have hl := line63
  have hs : sizeLine = 16777216 := sizeLine_eq
  cases x with
  | non =>
    cases rx
    have e' : k = false := e
    subst e'
    exact truthy_none ⟨H, I, q⟩
  | bl b =>
    cases rx
    have e' : k = b := e
    subst e'
    exact wpAny_truthy_bool ⟨H, I, q⟩
  | int i =>
    obtain ⟨t, rfl⟩ := rx
    have e' : k = (i != 0) := e
    subst e'
    exact PySem.P.truthy_int ⟨H, I, q⟩
  | str y =>
    obtain ⟨t, rfl⟩ := rx
    obtain ⟨hy, e'⟩ : y.length ≤ sizeLine ∧ k = ((y.length : Int) != 0) := e
    subst e'
    exact PySem.P.truthy_str (by omega) ⟨H, I.tok _, q⟩
  | byt y =>
    obtain ⟨t, rfl⟩ := rx
    obtain ⟨hy, e'⟩ : y.size ≤ sizeLine ∧ k = ((y.size : Int) != 0) := e
    subst e'
    exact PySem.W.truthy_bytes (by omega) ⟨H, I.tok _, q⟩
  | ref p =>
    cases rx
    have e' : (∃ xs, SqL X.K H p xs ∧ k = !xs.isEmpty) ∨ (∃ xs, SqT X.K H p xs ∧ k = !xs.isEmpty) ∨ ∃ kvs, H p = some (.dK kvs) ∧ k = !kvs.isEmpty := e
    rcases e' with ⟨xs, hx, e'⟩ | ⟨xs, hx, e'⟩ | ⟨kvs, hx, e'⟩
    · subst e'
      obtain ⟨its, r, pl, hz⟩ := I.list hx
      have hlen := r.length
      exact wpAny_truthy_list pl.isList (by simp only [List.size_toArray]; omega) ⟨H, I.tok _, by rw [isEmpty_of r]; exact q⟩
    · subst e'
      obtain ⟨its, r, pl, hz⟩ := I.tuple hx
      have hlen := r.length
      exact truthy_tuple pl (by simp only [List.size_toArray]; omega) ⟨H, I.tok _, by rw [isEmpty_of r]; exact q⟩
    · subst e'
      obtain ⟨hz, hS, vs, r, m⟩ : kvs.length ≤ sizeLine ∧ (p == sysModules) = false ∧ ∃ vs, KV kvs vs ∧ s.heap.DictOf (mixKind X.prog X.w) p vs := I.hok p _ hx
      have hlen : kvs.length = vs.length := Paired.length r
      exact wpAny_truthy_dict hS m (by omega) ⟨H, I.tok _, by rw [isEmpty_kv r]; exact q⟩
  | _ => exact (show False from e).elim
/-- any expression whose test is its value's truth (a name, a call, a subscript, a field ..: he by fun _ => rfl) -/
theorem pt_truth (ha : PE X a ta) (he : ∀ whole, isTrue a X.env whole = (do let v ← whole; standAt a.pos; holding [v] (truthy v))) :
    PT X a (fun σ H Q => ta σ H fun x H' => ∃ k, TruV X.K x H' k ∧ Q k H') := by
  intro pins s σ H Q I h
  exact isTrue_plain (thn (ha pins s σ H _ I h) fun v s1 ⟨x, H1, I1, r1, q1⟩ => tru_ok pins s1 σ H1 x v Q I1 r1 q1) (he _)

/-! ### strs and bytes -/
/-! ### scalar builtins, by CallR -/
theorem vals1 {x : V} {us : List Value} (r : Vals [x] us) : ∃ u, us = [u] ∧ RelV x u := by
  cases r with
  | cons r1 r2 => cases r2; exact ⟨_, rfl, r1⟩
theorem vals2 {x y : V} {us : List Value} (r : Vals [x, y] us) : ∃ u w', us = [u, w'] ∧ RelV x u ∧ RelV y w' := by
  cases r with
  | cons r1 r2 =>
    cases r2 with
    | cons r3 r4 => cases r4; exact ⟨_, _, rfl, r1, r3⟩
theorem call_max2 (hc : X.calm = true) : CallR X (.builtin "max") (fun xs H Q => ∃ i j, xs = [.int i, .int j] ∧ Q (.int (if j > i then j else i)) H) := by
  intro pins s σ H xs us Q I r h
  obtain ⟨i, j, rfl, q⟩ := h
  obtain ⟨u, w', rfl, ⟨t, rfl⟩, ⟨t', rfl⟩⟩ := vals2 r
  refine max_two_ints (I.ok.hd hc) fun h' tk k => ⟨_, H, I.kept k, ?_, q⟩
  by_cases hj : j > i
  · rw [if_pos hj, if_pos hj]; exact ⟨_, rfl⟩
  · rw [if_neg hj, if_neg hj]; exact ⟨_, rfl⟩
theorem call_min2 (hc : X.calm = true) : CallR X (.builtin "min") (fun xs H Q => ∃ i j, xs = [.int i, .int j] ∧ Q (.int (if j < i then j else i)) H) := by
  intro pins s σ H xs us Q I r h
  obtain ⟨i, j, rfl, q⟩ := h
  obtain ⟨u, w', rfl, ⟨t, rfl⟩, ⟨t', rfl⟩⟩ := vals2 r
  refine min_two_ints (I.ok.hd hc) fun h' tk k => ⟨_, H, I.kept k, ?_, q⟩
  by_cases hj : j < i
  · rw [if_pos hj, if_pos hj]; exact ⟨_, rfl⟩
  · rw [if_neg hj, if_neg hj]; exact ⟨_, rfl⟩
end
end L2

namespace L2
open PySem PySem.Spec PyProof.Rows

/-! ### an instance, its attributes a map -/
structure ObjM (h : Heap) (x dx C : Addr) (mA : Str → Option Value) : Prop where
  obj : h.get? x = some (PySem.W.instObj C dx)
  ns : h.Ns1 dx mA
  ne : dx ≠ x

theorem lookIn_ns {h : Heap} {dx : Addr} {mA : Str → Option Value} (n : h.Ns1 dx mA) : ∃ od, h.get? dx = some od ∧ ∀ name, PySem.W.lookIn name od = some (mA name) := by
  obtain ⟨o, es, ep, ho, hd, hk, _, hm⟩ := n
  refine ⟨o, ho, fun name => ?_⟩
  have e := hm name
  unfold nsFind findBy at e
  rw [← Array.find?_toList] at e
  unfold PySem.W.lookIn
  rw [hd]
  dsimp only
  split
  · rename_i y q
    rw [q] at e
    exact congrArg some e
  · rename_i q
    rw [q] at e
    have a : es.toList.any (·.refKey) = false := by
      rw [List.any_eq_false]
      intro y hy
      obtain ⟨z, t, hkey⟩ := hk y (Array.mem_toList_iff.mp hy)
      simp [DictEntry.refKey, hkey]
    have a' : ¬ es.toList.any (·.refKey) = true := by rw [a]; exact Bool.false_ne_true
    rw [if_neg a']
    exact congrArg some e

theorem ObjM.look {h : Heap} {x dx C : Addr} {mA : Str → Option Value} (I : ObjM h x dx C mA) : ∃ od, PySem.W.InstAt h x (PySem.W.instObj C dx) C (some od) ∧ ∀ name, PySem.W.lookIn name od = some (mA name) :=
  let ⟨od, ho, hl⟩ := lookIn_ns I.ns
  ⟨od, ⟨I.obj, rfl, rfl, ho⟩, hl⟩

section
variable {prog : Program} {w : World} {A : Around} {E : Value → Shared → Prop} {s : Shared} {K : PySem.W.Frag} {x dx C f : Addr} {mA : Str → Option Value} {name : Str} {v : Value}

end

/-! ### the attributes as a list of pairs -/
def putF (f : Str) (v : V) : List (Str × V) → List (Str × V)
  | [] => [(f, v)]
  | (g, x) :: r => if g = f then (g, v) :: r else (g, x) :: putF f v r
theorem RelO.some_of {v : V} {o : Option Value} (r : RelO (some v) o) : ∃ u, o = some u ∧ RelV v u := by
  cases o with
  | none => exact (show False from r).elim
  | some u => exact ⟨u, rfl, r⟩
section
variable {P : Program} {w : World} {H H' : Hp} {h h' : Heap} {a C dx : Addr} {fs fs' : List (Str × V)}
theorem ins_get (hok : HOk P w H h) (e : H a = some (.ins C dx fs)) : ∃ mA, ObjM h a dx C mA ∧ (∀ f, RelO (fs.lookup f) (mA f)) ∧ PySem.Within mA (fs.map (·.1)) ∧ fs.length ≤ 1000 ∧ H dx = some (.own a) := by
  obtain ⟨d, z, ne, ob, mA, n, r, q⟩ := (show ObjOk P w H h a (.ins C dx fs) from hok a _ e)
  exact ⟨mA, ⟨ob, n, ne⟩, r, q, z, d⟩
end

/-! ### what of the text a class must have -/
structure Cls (K : PySem.W.Frag) (C : Addr) : Prop where
  pg : PySem.W.plainGet K C Str.empty = true
  hd : PySem.W.hasDictIn K C = true
  po : PySem.W.plainOver K C = true
  sa : PySem.W.findIn K (.ref C) "__setattr__" = some (some (.builtin "object.__setattr__"))
theorem Cls.get {K : PySem.W.Frag} {C : Addr} (c : Cls K C) (f : Str) : PySem.W.plainGet K C f = true := c.pg
/-- no class of it has the name -/
def NoAttr (K : PySem.W.Frag) (C : Addr) (f : Str) : Prop := PySem.W.findIn K (.ref C) f = some none
section
variable {X : Cx} {pins : List (Addr × Obj)} {σ : St} {H : Hp} {s : Shared} {a C dx : Addr} {fs : List (Str × V)} {f : Str} {v : V} {A : Around} {E : Value → Shared → Prop}

end

/-! ### readings and rules -/
/-- e.f, an attribute of the instance -/
def tFld (K : PySem.W.Frag) (ta : TE) (f : Str) : TE := fun σ H Q => ta σ H fun x H1 => ∃ a C dx fs v, x = .ref a ∧ H1 a = some (.ins C dx fs) ∧ Cls K C ∧ NoAttr K C f ∧ fs.lookup f = some v ∧ Q v H1
/-- e.f = value -/
def sFld (K : PySem.W.Frag) (ta tv : TE) (f : Str) : TS := fun D σ H => tv σ H fun y H1 => ta σ H1 fun x H2 => ∃ a C dx fs, x = .ref a ∧ H2 a = some (.ins C dx fs) ∧ Cls K C ∧ NoAttr K C f ∧ fs.length < 1000 ∧
  D.nx σ (upd H2 a (.ins C dx (putF f y fs)))
/-- e.f op= value -/
def sFldAug (K : PySem.W.Frag) (ta tv : TE) (rd : V → V → Hp → VK → Prop) (f : Str) : TS := fun D σ H => ta σ H fun x H1 => ∃ a C dx fs v, x = .ref a ∧ H1 a = some (.ins C dx fs) ∧ Cls K C ∧ NoAttr K C f ∧ fs.lookup f = some v ∧
  tv σ H1 fun y H2 => rd v y H2 fun z H3 => ∃ dx' fs', H3 a = some (.ins C dx' fs') ∧ fs'.length < 1000 ∧ D.nx σ (upd H3 a (.ins C dx' (putF f z fs')))

section
variable {X : Cx} {o e value : Expr} {f : Str} {pos pos' tpos : Pos} {ta tv : TE}
end

/-! ### isinstance -/
section
variable {X : Cx} {pins : List (Addr × Obj)} {σ : St} {H : Hp} {s : Shared} {A : Around} {E : Value → Shared → Prop} {Q : Value → Shared → Prop} {c : Value} {b : Bool}
/-- the type of a value, as the fragment's deciders take it; for an instance its class -/
inductive TyOf (K : PySem.W.Frag) (H : Hp) : V → Value → Prop where
  | non : TyOf K H .non (.type "NoneType")
  | bl (x : Bool) : TyOf K H (.bl x) (.type "bool")
  | int (i : Int) : TyOf K H (.int i) (.type "int")
  | str (x : Str) : TyOf K H (.str x) (.type "str")
  | flt (x : UInt64) : TyOf K H (.flt x) (.type "float")
  | lst {a : Addr} {xs : List V} (e : H a = some (.lst xs)) : TyOf K H (.ref a) (.type "list")
  | frz {a : Addr} {o : Obj} {xs : List V} (e : H a = some (.frz o (.lst xs))) : TyOf K H (.ref a) (.type "list")
  | tup {a : Addr} {xs : List V} (e : H a = some (.tup xs)) : TyOf K H (.ref a) (.type "tuple")
  | dK {a : Addr} {kvs : List (Key × V)} (e : H a = some (.dK kvs)) : TyOf K H (.ref a) (.type "dict")
  | dT {a : Addr} {kvs : List (List Key × V)} (e : H a = some (.dT kvs)) : TyOf K H (.ref a) (.type "dict")
  | ins {a C dx : Addr} {fs : List (Str × V)} (e : H a = some (.ins C dx fs)) (cl : Cls K C) (ha : PySem.W.findIn K (.ref C) "__class__" = some (some (.builtin "object.__class__")))
      (hn : PySem.W.specialIn K (.builtin "object.__class__") "__get__" = some (some (.builtin "getset_descriptor.__get__"))) (htk : PySem.W.takesIn K (.builtin "object.__class__") = some true)
      (hm : PySem.W.mroIn K C (.type "object") = some true) : TyOf K H (.ref a) (.ref C)
/-- isinstance(x, c) for one class c, a built-in or an own one: kitOne's answer -/
theorem isinst_ok {x : V} {u t : Value} (I : Inv X pins σ H s) (rx : RelV x u) (ty : TyOf X.K H x t) (e : PySem.W.kitOne X.K t c = some b) (h : ∀ tk, Q (.bool b) { s with toks := tk }) :
    wpAny (model X.prog X.w) A (call (.builtin "isinstance") [u, c]) Q E s := by
  cases ty with
  | non => cases (show u = Value.none from rx); exact PySem.W.kia_one PySem.W.kitx_none I.kIn True.intro e (fun z => nomatch z) h
  | bl y => cases (show u = Value.bool y from rx); exact PySem.W.kia_one PySem.W.kitx_bool I.kIn True.intro e (fun z => nomatch z) h
  | int i => obtain ⟨t, q⟩ := (show ∃ t, u = Value.int i t from rx); cases q; exact PySem.W.kia_one PySem.W.kitx_int I.kIn True.intro e (fun z => nomatch z) h
  | str y => obtain ⟨t, q⟩ := (show ∃ t, u = Value.str y t from rx); cases q; exact PySem.W.kia_one PySem.W.kitx_str I.kIn True.intro e (fun z => nomatch z) h
  | flt y => obtain ⟨t, q⟩ := (show ∃ t, u = Value.float y t from rx); cases q; exact PySem.W.kia_one PySem.W.kitx_float I.kIn True.intro e (fun z => nomatch z) h
  | @lst a xs ea =>
    cases (show u = Value.ref a from rx)
    obtain ⟨_, _, n, _, h1⟩ := (show ObjOk X.prog X.w H s.heap a (.lst xs) from I.hok a _ ea)
    exact PySem.W.kia_one PySem.W.kitx_list I.kIn ⟨_, h1, rfl⟩ e (fun z => nomatch z) h
  | @frz a ob xs ea =>
    cases (show u = Value.ref a from rx)
    obtain ⟨_, _, _, n, _, h1⟩ := (show ObjOk X.prog X.w H s.heap a (.frz ob (.lst xs)) from I.hok a _ ea)
    exact PySem.W.kia_one PySem.W.kitx_list I.kIn ⟨_, h1, rfl⟩ e (fun z => nomatch z) h
  | @tup a xs ea =>
    cases (show u = Value.ref a from rx)
    obtain ⟨_, _, _, p⟩ := (show ObjOk X.prog X.w H s.heap a (.tup xs) from I.hok a _ ea)
    obtain ⟨o, h1, h2, _⟩ := p
    exact PySem.W.kia_one PySem.W.kitx_tuple I.kIn ⟨o, h1, h2⟩ e (fun z => nomatch z) h
  | @dK a kvs ea =>
    cases (show u = Value.ref a from rx)
    obtain ⟨_, _, vs, _, p⟩ := (show ObjOk X.prog X.w H s.heap a (.dK kvs) from I.hok a _ ea)
    obtain ⟨o, es, ep, h1, h2, _⟩ := p
    exact PySem.W.kia_one PySem.W.kitx_dict I.kIn ⟨o, h1, h2.1⟩ e (fun z => nomatch z) h
  | @dT a kvs ea =>
    cases (show u = Value.ref a from rx)
    obtain ⟨_, _, xs, _, o, es, ep, h1, h2, _⟩ := (show ObjOk X.prog X.w H s.heap a (.dT kvs) from I.hok a _ ea)
    exact PySem.W.kia_one PySem.W.kitx_dict I.kIn ⟨o, h1, h2.1⟩ e (fun z => nomatch z) h
  | @ins a C dx fs ea cl ha hn htk hm =>
    cases (show u = Value.ref a from rx)
    obtain ⟨mA, O, _⟩ := ins_get I.hok ea
    obtain ⟨od, J, _⟩ := O.look
    exact PySem.W.kia_one (PySem.W.kitx_own (cl.get _) cl.hd ha hn htk hm) I.kIn J e (fun z => nomatch z) h
end
end L2

namespace L2
open PySem PySem.Spec PyProof.Rows

/-! ### room -/
structure Room (k : Nat) (A : Around) : Prop where
  hd : A.handled = none
  dp : A.depth + 3 * k + 5 < recursionLimit
  un : A.units + 16 * k + 200 < cLine
theorem Room.mono {j k : Nat} {A : Around} (r : Room k A) (h : j ≤ k) : Room j A := ⟨r.hd, by have := r.dp; omega, by have := r.un; omega⟩
theorem Room.deeper {k : Nat} {A : Around} (r : Room (k + 1) A) (env : Env) : Room k (A.deeper env) :=
  ⟨r.hd, by have := r.dp; show A.depth + 1 + 3 * k + 5 < _; omega, by have := r.un; show A.units + 3 + 16 * k + 200 < _; omega⟩
theorem Room.depth {k : Nat} {A : Around} (r : Room k A) : A.depth < recursionLimit := by have := r.dp; omega
theorem Room.units {k : Nat} {A : Around} (r : Room k A) : A.units + 64 < cLine := by have := r.un; omega
/-! ### argument lists and displays -/
def tNil : TA := fun _ H Q => Q [] H
def tCons (ta : TE) (tr : TA) : TA := fun σ H Q => ta σ H fun x H1 => tr σ H1 fun xs H2 => Q (x :: xs) H2
section
variable {X : Cx} {e : Expr} {es : List Expr} {te : TE} {t : TA} {pos : Pos}
theorem pa_nil : PA X [] tNil := fun _ _ _ _ H Q I h => Calls.spliced_nil ⟨[], H, I, .nil, h⟩
theorem pa_cons (ha : PE X e te) (hr : PA X es t) (hs : starEach (e :: es) X.env = (false, eval e X.env) :: starEach es X.env := by rfl) : PA X (e :: es) (tCons te t) := by
  intro pos pins s σ H Q I h
  rw [hs]
  show wpAny _ _ (spliced ((false, eval e X.env) :: backTo pos (starEach es X.env))) _ _ s
  refine Calls.spliced_cons (thn (ha pins s σ H _ I h) fun u s1 ⟨x, H1, I1, r1, q1⟩ => ?_)
  exact thn (hr pos pins s1 σ H1 _ I1 q1) fun us s2 ⟨xs, H2, I2, r2, q2⟩ => ⟨x :: xs, H2, I2, .cons r1 r2, q2⟩

/-- a tuple, a list of written items -/
def tTup (t : TA) : TE := fun σ H Q => t σ H fun xs H1 => xs.length ≤ sizeLine ∧ ∀ p, H1 p = none → Q (.ref p) (upd H1 p (.tup xs))
def tLst (t : TA) : TE := fun σ H Q => t σ H fun xs H1 => xs.length ≤ sizeLine ∧ ∀ p, H1 p = none → Q (.ref p) (upd H1 p (.lst xs))
theorem pe_tup {x1} (h : PA X es t) : PE X (.Tuple es x1 pos) (tTup t) := by
  intro pins s σ H Q I hq
  refine wpAny_Tuple_spliced (thn (h pos pins s σ H _ I hq) fun us s1 ⟨xs, H1, I1, r, z, q⟩ => ⟨by rw [← r.length]; exact z, ?_⟩)
  have hf : H1 s1.heap.objs.size = none := I1.hok.fresh (Nat.le_refl _)
  refine ⟨.ref s1.heap.objs.size, upd H1 s1.heap.objs.size (.tup xs), I1.laid (t' := s1.toks) (fun b u e => Heap.get?_push_of_some _ e) (Nat.le_refl _) ?_, rfl, q _ hf⟩
  exact ⟨z, us, r, ⟨_, Heap.get?_push_size _ rfl, rfl, _, rfl⟩⟩
theorem pe_lst (h : PA X es t) : PE X (.List es pos) (tLst t) := by
  intro pins s σ H Q I hq
  refine wpAny_List_spliced (thn (h pos pins s σ H _ I hq) fun us s1 ⟨xs, H1, I1, r, z, q⟩ => ⟨by rw [← r.length]; exact z, ?_⟩)
  have hf : H1 s1.heap.objs.size = none := I1.hok.fresh (Nat.le_refl _)
  refine ⟨.ref s1.heap.objs.size, upd H1 s1.heap.objs.size (.lst xs), I1.laid (t' := s1.toks) (fun b u e => Heap.get?_push_of_some _ e) (Nat.le_refl _) ?_, rfl, q _ hf⟩
  exact ⟨z, us, 0, r, Heap.get?_push_size _ rfl⟩
end

/-! ### what a def promises -/
/-- a def's promise: the bound arguments in the parameters' order, the heap, the wanted end, the wanted exception -/
abbrev Sp := List V → Hp → VK → XK → Prop
/-- how an exception lies behind a call (file 08 gives it): the callers' frames, abstract heap and state ahead of the call, the wish, the exception, the state -/
abbrev CXT := List Env → Hp → Shared → XK → Value → Shared → Prop

/-- the state at a call -/
structure Env0 (P : Program) (w : World) (K : PySem.W.Frag) (mg : Str → Option Value) (base : Heap) (A : Around) (outer : List Env) (s : Shared) (H : Hp) : Prop where
  frames : A.frames = some outer
  mod : Mod K mg base
  bs : ∀ b o, base.get? b = some o → s.heap.get? b = some o ∧ H b = none
  bsz : base.objs.size ≤ s.heap.objs.size
  funs : s.heap.FunFrames base outer
  frf : ∀ b ∈ frs outer, H b = none
  hok : HOk P w H s.heap
  bare : AllBare s.gens
/-- a call's end -/
def CE (outer : List Env) (P : Program) (w : World) (H : Hp) (s : Shared) (Q : VK) (u : Value) (s' : Shared) : Prop :=
  ∃ v H', s'.os = s.os ∧ AllBare s'.gens ∧ Un (frs outer) [] H H' s.heap s'.heap ∧ HOk P w H' s'.heap ∧ RelV v u ∧ Q v H'
def CR (CX : CXT) (outer : List Env) (P : Program) (w : World) (H : Hp) (s : Shared) (Q : VK) (E : XK) (r : Result) (s' : Shared) : Prop :=
  match r with
  | .ok (.ret u) => CE outer P w H s Q u s'
  | .ok _ => False
  | .error e => CX outer H s E e s'
structure FnOk (P : Program) (w : World) (K : PySem.W.Frag) (mg : Str → Option Value) (base : Heap) (CX : CXT) (k : Nat) (f : Addr) (fd : FuncData) (ps : List Str) (sp : Sp) : Prop where
  len : ∀ vs H Q E, sp vs H Q E → vs.length = ps.length
  run : ∀ (A : Around) (outer : List Env) (s : Shared) (H : Hp) (args : Args) (us : List Value) (vs : List V) (Q : VK) (E : XK), Room k A → Env0 P w K mg base A outer s H → BindsTo s fd args (ps.zip us) → Vals vs us → sp vs H Q E →
    codeAny (model P w) A (.call (.ref f) args) (CR CX outer P w H s Q E) s
section
variable {X : Cx} {pins : List (Addr × Obj)} {σ : St} {H : Hp} {s s' : Shared}
/-- from a body: what a callee wants -/
theorem Inv.env0 (I : Inv X pins σ H s) : Env0 X.prog X.w X.K X.mg X.base X.A X.stack s H :=
  ⟨I.ok.frames, I.ok.mod, I.bs, Nat.le_trans I.ok.bsz I.sz, I.stack, I.stkFree, I.hok, I.bare⟩
/-- behind a call -/
theorem Inv.after {Q : VK} {u : Value} (I : Inv X pins σ H s) (h : CE X.stack X.prog X.w H s Q u s') : EP X pins σ Q u s' := by
  obtain ⟨v, H', os, bare, un, hok, r, q⟩ := h
  obtain ⟨hh, g, d, t, os'⟩ := s'
  obtain rfl : os' = s.os := os
  exact ⟨v, H', I.call (h' := hh) (g' := g) (d' := d) (t' := t) (ch := []) un hok bare (fun b z => absurd z (by simp)), r, q⟩
end

/-! ### calls -/
/-- f(..): the written arguments, then the defaults dvs; E: what is wanted of an exception -/
def tCall (sp : Sp) (dvs : List V) (E : XK) (t : TA) : TE := fun σ H Q => t σ H fun vs H1 => sp (vs ++ dvs) H1 Q E
/-- o.m(..) of an instance of the class at C -/
def tMeth (C : Addr) (m : Str) (sp : Sp) (dvs : List V) (E : XK) (ta : TE) (t : TA) : TE := fun σ H Q => ta σ H fun x H1 => ∃ a dx fs, x = .ref a ∧ H1 a = some (.ins C dx fs) ∧ fs.lookup m = none ∧
  t σ H1 fun vs H2 => sp (x :: (vs ++ dvs)) H2 Q E
/-- C(..): a new instance and its dict, then __init__ -/
def tMake (C : Addr) (sp : Sp) (dvs : List V) (E : XK) (t : TA) : TE := fun σ H Q => t σ H fun vs H1 => ∀ x dx, H1 x = none → H1 dx = none → dx ≠ x →
  sp (.ref x :: (vs ++ dvs)) (upd (upd H1 dx (.own x)) x (.ins C dx [])) (fun v H2 => v = .non ∧ Q (.ref x) H2) E

/-- how the parameters are bound: us the positional arguments, kw the keywords' values by name, ds the defaults that fill up -/
def Binds (K : PySem.W.Frag) (fd : FuncData) (ps : List Str) (ds : List Value) : Prop :=
  ∀ (s : Shared) (us : List Value), K.In s.heap → (us ++ ds).length = ps.length → BindsTo s fd ⟨us, []⟩ (ps.zip (us ++ ds))
/-- every parameter is given -/
theorem Binds.all {K : PySem.W.Frag} {fd : FuncData} {ps : List Str} (h : ∀ us : List Value, us.length = ps.length → bindArgs fd ⟨us, []⟩ = pure (ps.zip us)) : Binds K fd ps [] := fun s us _ hl => by
  rw [List.append_nil] at hl ⊢
  exact .of_eq (h us hl)

/-- an exception of a callee reaches what this body wants of exceptions -/
def Passes (CX : CXT) (X : Cx) (E : XK) : Prop := ∀ (pins : List (Addr × Obj)) (σ : St) (H : Hp) (s : Shared) (e : Value) (s' : Shared), Inv X pins σ H s → CX X.stack H s E e s' → X.xe e s'

section
variable {X : Cx} {CX : CXT} {k : Nat} {f C : Addr} {fd : FuncData} {ps : List Str} {sp : Sp} {dvs : List V} {ds : List Value} {E : XK} {x m : Str} {p pos apos : Pos} {e o : Expr} {es : List Expr} {ta : TE} {t : TA}

/-- the callee runs -/
theorem run_fn {pins : List (Addr × Obj)} {σ : St} {H : Hp} {s : Shared} {Q : VK} {us : List Value} {vs : List V} (F : FnOk X.prog X.w X.K X.mg X.base CX k f fd ps sp) (hr : Room k X.A) (hb : Binds X.K fd ps ds) (hd : Vals dvs ds) (hx : Passes CX X E)
    (I : Inv X pins σ H s) (r : Vals vs us) (h : sp (vs ++ dvs) H Q E) : wpAny (model X.prog X.w) X.A (call (.ref f) us) (EP X pins σ Q) X.xe s := by
  have r2 : Vals (vs ++ dvs) (us ++ ds) := r.append hd
  have hl : (us ++ ds).length = ps.length := by rw [← r2.length]; exact F.len _ _ _ _ h
  refine wpAny_call (codeAny_mono (F.run X.A X.stack s H ⟨us, []⟩ (us ++ ds) (vs ++ dvs) Q E hr I.env0 (hb s us I.kIn hl) r2 h) fun r s' hq => ?_)
  cases r with
  | error e => exact hx pins σ H s e s' I hq
  | ok fl =>
    cases fl with
    | ret u => exact I.after hq
    | next => exact False.elim hq
    | brk => exact False.elim hq
    | cont => exact False.elim hq

theorem pe_call (F : FnOk X.prog X.w X.K X.mg X.base CX k f fd ps sp) (hr : Room k X.A) (hg : Gl X x) (hm : X.mg x = some (.ref f)) (hk : PySem.W.keepIn X.K (.ref f) = true) (hb : Binds X.K fd ps ds) (hd : Vals dvs ds) (hx : Passes CX X E)
    (ha : PA X (e :: es) t) (hdb : (x == ("__debug__" : Str)) = false := by decide) (he : starEach (e :: es) X.env = (false, eval e X.env) :: starEach es X.env := by rfl) (hpl : (backTo pos (starEach es X.env)).any (·.1) = false := by rfl) :
    PE X (.Call (.Name x p) (e :: es) [] pos) (tCall sp dvs E t) := by
  intro pins s σ H Q I h
  refine wpAny_Call_Name_kw (ld_glob I hg hm ?_ hdb)
  refine PySem.W.callWith_K (h₀ := X.base) I.ok.mod.kin hk (thn (ha pos pins s σ H _ I h) fun us s1 ⟨vs, H1, I1, r, q⟩ => ⟨I1.kIn, ?_⟩) he hpl
  exact run_fn F hr hb hd hx I1 r q
end

/-! ### keywords -/
section
variable {X : Cx} {CX : CXT} {k : Nat} {f C : Addr} {fd : FuncData} {ps ks : List Str} {sp : Sp} {E : XK} {x m : Str} {p pos apos kpos : Pos} {e o : Expr} {es : List Expr} {kws : List Keyword} {te ta : TE} {t tk : TA} {nm : Option Str}
variable {g : List Value → List Value → List Value} {gV : List V → List V → List V}
end

/-! ### a def's body keeps its promise -/
/-- names: the parameters first -/
structure FnScope (N P : List Str) (sc : Scope) : Prop where
  kind : sc.kind = .function
  co : sc.isCoroutine = false
  gen : sc.isGenerator = false
  nd : N.Nodup
  pre : N.take P.length = P
  par : ∀ x ∈ P, sc.names.lookup x = some .local ∨ sc.names.lookup x = some .cell
  nofree : ∀ y ∈ sc.names, y.2 ≠ .free

theorem bindL_out {kindOf : Str → Option NameKind} {x : Str} : ∀ {binds : List (Str × Value)} {m : Str → Option Value}, (∀ v, (x, v) ∉ binds) → bindL kindOf binds m x = m x
  | [], _, _ => rfl
  | (n, v) :: r, m, h => by
    unfold bindL
    rw [bindL_out fun w hw => h w (List.mem_cons_of_mem _ hw)]
    split
    · have : x ≠ n := by rintro rfl; exact h v List.mem_cons_self
      simp [this]
    · rfl
theorem bindC_out {kindOf : Str → Option NameKind} {x : Str} : ∀ {binds : List (Str × Value)} {m : Str → Option Value}, (∀ v, (x, v) ∉ binds) → bindC kindOf binds m x = m x
  | [], _, _ => rfl
  | (n, v) :: r, m, h => by
    unfold bindC
    rw [bindC_out fun w hw => h w (List.mem_cons_of_mem _ hw)]
    split
    · rfl
    · have : x ≠ n := by rintro rfl; exact h v List.mem_cons_self
      simp [this]
theorem bindL_get {kindOf : Str → Option NameKind} {x : Str} {v : Value} : ∀ {P : List Str} {vs : List Value} {i : Nat} {m : Str → Option Value}, P.Nodup → P[i]? = some x → vs[i]? = some v → kindOf x = some .local →
    bindL kindOf (P.zip vs) m x = some v
  | [], _, _, _, _, h, _, _ => by simp at h
  | _ :: _, [], _, _, _, _, h, _ => by simp at h
  | p :: P, w :: vs, 0, m, nd, h1, h2, hk => by
    simp at h1 h2; subst h1; subst h2
    show bindL kindOf ((p, w) :: P.zip vs) m p = _
    unfold bindL
    rw [bindL_out fun v hv => (List.nodup_cons.mp nd).1 (List.of_mem_zip hv).1, if_pos hk]
    simp
  | p :: P, w :: vs, i + 1, m, nd, h1, h2, hk => by
    show bindL kindOf ((p, w) :: P.zip vs) m x = _
    unfold bindL
    exact bindL_get (i := i) (List.nodup_cons.mp nd).2 (by simpa using h1) (by simpa using h2) hk
theorem bindC_get {kindOf : Str → Option NameKind} {x : Str} {v : Value} : ∀ {P : List Str} {vs : List Value} {i : Nat} {m : Str → Option Value}, P.Nodup → P[i]? = some x → vs[i]? = some v → kindOf x ≠ some .local →
    bindC kindOf (P.zip vs) m x = some v
  | [], _, _, _, _, h, _, _ => by simp at h
  | _ :: _, [], _, _, _, _, h, _ => by simp at h
  | p :: P, w :: vs, 0, m, nd, h1, h2, hk => by
    simp at h1 h2; subst h1; subst h2
    show bindC kindOf ((p, w) :: P.zip vs) m p = _
    unfold bindC
    rw [bindC_out fun v hv => (List.nodup_cons.mp nd).1 (List.of_mem_zip hv).1, if_neg hk]
    simp
  | p :: P, w :: vs, i + 1, m, nd, h1, h2, hk => by
    show bindC kindOf ((p, w) :: P.zip vs) m x = _
    unfold bindC
    exact bindC_get (i := i) (List.nodup_cons.mp nd).2 (by simpa using h1) (by simpa using h2) hk

/-- the names' values at the entry -/
def start (N : List Str) (vs : List V) : St := vs.map some ++ List.replicate (N.length - vs.length) none

/-- the context of a def's body, at its entry; an exception leaves the frame, then lies as CX says -/
def cxOf (CX : CXT) (P : Program) (w : World) (K : PySem.W.Frag) (mg : Str → Option Value) (base : Heap) (N : List Str) (qual : Str) (scope : Scope) (f : Addr) (cd : Value) (A : Around) (outer : List Env) (s : Shared) (H : Hp) (E : XK) : Cx where
  prog := P
  w := w
  K := K
  mg := mg
  base := base
  A := A.deeper (envOfC qual scope s.heap.objs.size f cd)
  N := N
  s₀ := s
  H₀ := H
  env := envOfC qual scope s.heap.objs.size f cd
  outer := outer
  stack := envOfC qual scope s.heap.objs.size f cd :: outer
  ex := []
  calm := true
  fn := fun _ => true
  pn := []
  xe := fun e s' => wpAny (model P w) (A.deeper (envOfC qual scope s.heap.objs.size f cd)) (leaving (envOfC qual scope s.heap.objs.size f cd) e) (fun _ s'' => CX outer H s E e s'') (fun e' s'' => CX outer H s E e' s'') s'

theorem cell_has {sc : Scope} {n : Nat} {x : Str} (h : sc.names.lookup x = some .cell) : ∃ c, (cellsFrom n sc.names []).lookup x = some c := by
  have q := PySem.W.cellsFrom_some sc.names n [] (.inl h)
  exact Option.isSome_iff_exists.mp q

theorem inv_start {CX : CXT} {P : Program} {w : World} {K : PySem.W.Frag} {mg : Str → Option Value} {base : Heap} {N ps : List Str} {qual : Str} {scope : Scope} {f : Addr} {cd : Value} {A : Around} {outer : List Env} {s s1 : Shared} {H : Hp} {E : XK} {us : List Value} {vs : List V}
    (S : FnScope N ps scope) (hd : A.handled = none) (e0 : Env0 P w K mg base A outer s H) (hl : vs.length = ps.length) (r : Vals vs us)
    (x : InCallC s s.heap.objs.size (bindL (envOfC qual scope s.heap.objs.size f cd).kindOf (ps.zip us) fun _ => none) (cellsFrom (s.heap.objs.size + 1) scope.names []) (bindC (envOfC qual scope s.heap.objs.size f cd).kindOf (ps.zip us) fun _ => none) s1) :
    Inv (cxOf CX P w K mg base N qual scope f cd A outer s H E) [] (start N vs) H s1 := by
  have hpl : ps.length ≤ N.length := by have := congrArg List.length S.pre; rw [List.length_take] at this; omega
  obtain ⟨h1, tk, rfl, hk⟩ := x.done
  have noA : ∀ b : Addr, b ∉ (cxOf CX P w K mg base N qual scope f cd A outer s H E).ex := fun b z => absurd (show b ∈ ([] : List Addr) from z) (by simp)
  refine ⟨⟨e0.mod, S.kind, rfl, rfl, Nat.le_refl _, fun y z c h1 h2 => ?_, fun y hy => ?_, fun y c _ h => ?_, fun _ => hd, Around.frames_deeper e0.frames, .inr ⟨rfl, rfl⟩, fun b z => absurd z (noA b), e0.bs, e0.bsz, fun b _ _ => noA b, fun b z => absurd z (noA b), e0.funs, e0.frf⟩,
    rfl, e0.bare, Un.kept hk, ⟨_, x.toInCall.ns, fun i y v h1 h2 h3 => ?_⟩, fun y c h => ⟨_, x.cell y c h⟩, e0.hok.fresh (Nat.le_refl _), fun y c h => ?_, fun p hp => absurd (show p ∈ ([] : List (Addr × Obj)) from hp) (by simp), e0.hok.kept hk, ?_⟩
  · exact name_of_addr x.apart (PySem.mem_of_lookup h1) (PySem.mem_of_lookup h2)
  · have hy : scope.names.lookup y = some .cell ∨ scope.names.lookup y = some .free := hy
    rcases hy with hy | hy
    · exact cell_has hy
    · exact absurd rfl (S.nofree _ (PySem.mem_of_lookup hy))
  · exact Nat.le_of_lt (x.above y c (PySem.mem_of_lookup h))
  · have hi : i < vs.length := by
      unfold start at h2
      by_cases hi : i < vs.length
      · exact hi
      · rw [List.getElem?_append_right (by simpa using hi)] at h2
        rw [List.getElem?_replicate] at h2
        split at h2 <;> cases h2
    have ha : vs[i]? = some v := by
      unfold start at h2
      rw [List.getElem?_append_left (by simpa using hi), List.getElem?_map] at h2
      cases e : vs[i]? with
      | none => rw [e] at h2; cases h2
      | some a => rw [e] at h2; cases h2; rfl
    obtain ⟨u, hu, rv⟩ := r.get ha
    have hp : ps[i]? = some y := by
      rw [← S.pre, List.getElem?_take_of_lt (by omega)]; exact h1
    have ndP : ps.Nodup := by rw [← S.pre]; exact S.nd.sublist (List.take_sublist _ _)
    refine ⟨u, rv, ?_⟩
    rcases S.par y (List.mem_of_getElem? hp) with k | k
    · exact .inl ⟨k, bindL_get ndP hp hu k⟩
    · obtain ⟨c, e⟩ := cell_has (n := s.heap.objs.size + 1) k
      refine .inr ⟨.inl k, c, e, ?_⟩
      have q := x.cell y c e
      rw [bindC_get ndP hp hu (by show scope.names.lookup y ≠ _; rw [k]; decide)] at q
      exact q
  · exact e0.hok.fresh (Nat.le_of_lt (x.above y c (PySem.mem_of_lookup h)))
  · unfold start
    show _ = N.length
    rw [List.length_append, List.length_map, List.length_replicate]
    omega

/-- THE RULE: a def (or a method) of the text, by its body. The body's reading t is chosen for each entry; it is run at the parameters' values -/
theorem fn_of {CX : CXT} {P : Program} {w : World} {K : PySem.W.Frag} {mg : Str → Option Value} {base : Heap} {k : Nat} {f : Addr} {name qual : Str} {params : Arguments} {body : List Stmt} {scope : Scope} {dV kV doc pm cdv ct oc : Value} {an od : Option Addr}
    {osl : Array (Option Value)} {N ps : List Str} {sp : Sp} (lk : K.lookup f = some ⟨oc, od, .func (PySem.W.fnOf name qual params body scope dV kV doc pm an cdv ct), osl⟩) (hcd : PySem.W.codeIn K cdv qual = true) (S : FnScope N ps scope)
    (len : ∀ vs H Q E, sp vs H Q E → vs.length = ps.length)
    (hbody : ∀ (A : Around) (outer : List Env) (s : Shared) (H : Hp) (vs : List V) (Q : VK) (E : XK), Room k (A.deeper (envOfC qual scope s.heap.objs.size f cdv)) → sp vs H Q E →
      ∃ t, PSs (cxOf CX P w K mg base N qual scope f cdv A outer s H E) body t ∧ t { nx := fun _ H' => Q .non H', rt := Q } (start N vs) H) :
    FnOk P w K mg base CX (k + 1) f (PySem.W.fnOf name qual params body scope dV kV doc pm an cdv ct) ps sp := by
  refine ⟨len, fun A outer s H args us vs Q E hr e0 hb r hsp => ?_⟩
  have hl := len _ _ _ _ hsp
  have KX : K.In s.heap := e0.mod.kin.keeps fun b o e => (e0.bs b o e).1
  have lim : s.heap.NoLimit := e0.mod.nolimit.keeps fun b o e => (e0.bs b o e).1
  have hkind : ∀ y ∈ ps.zip us, scope.names.lookup y.1 = some .local ∨ (scope.names.lookup y.1 = some .cell ∧ ((cellsFrom (s.heap.objs.size + 1) scope.names []).lookup y.1).isSome = true) := fun ⟨n, v⟩ hy => by
    rcases S.par n (List.of_mem_zip hy).1 with q | q
    · exact .inl q
    · exact .inr ⟨q, PySem.W.cellsFrom_some _ _ _ (.inl q)⟩
  refine codeAny_call_function hr.depth (KX _ _ lk) rfl S.co S.gen rfl (PySem.W.codeRec_of KX hcd) (hb _ _ _ _ ?_)
  refine wpAny_newFunctionEnv_cells S.kind hkind fun env he s1 x => ?_
  subst he
  refine ⟨lim.keeps x.toInCall.keep, codeAny_func ?_⟩
  obtain ⟨t, ht, hq⟩ := hbody A outer s H vs Q E (hr.deeper _) hsp
  have I : Inv (cxOf CX P w K mg base N qual scope f cdv A outer s H E) [] (start N vs) H s1 := inv_start S hr.hd e0 hl r x
  refine wpAny_mono (ht [] s1 (start N vs) H _ I hq) (fun fl s' hs => ?_) fun e s' hs => hs
  have fin : ∀ {σ' : St} {H' : Hp} {v : V} {u : Value}, Inv (cxOf CX P w K mg base N qual scope f cdv A outer s H E) [] σ' H' s' → RelV v u → Q v H' → CE outer P w H s Q u s' :=
    fun {σ' H' v u} J rv q => ⟨v, H', J.os, J.bare, J.base, J.hok, rv, q⟩
  cases fl with
  | ret u =>
    obtain ⟨v, σ', H', J, rv, q⟩ := hs
    exact fin J rv q
  | next =>
    obtain ⟨σ', H', J, q⟩ := hs
    exact fin (v := V.non) (u := Value.none) J rfl q
  | brk =>
    obtain ⟨_, _, _, q⟩ := hs
    exact False.elim q
  | cont =>
    obtain ⟨_, _, _, q⟩ := hs
    exact False.elim q
end L2

namespace L2
open PySem PySem.Spec PyProof.Rows
section
variable {X : Cx} {x : Str} {p pos : Pos} {e : Expr} {es : List Expr} {t : TA} {id T : String} {r : List V → Hp → VK → Prop}

def tCB (r : List V → Hp → VK → Prop) (t : TA) : TE := fun σ H Q => t σ H fun vs H1 => r vs H1 Q
/-- f(e, ..), f a built-in function -/
theorem pe_callB (hc : CallR X (.builtin id) r) (hg : Gl X x) (hm : X.mg x = none) (hv : bootBuiltins x = some (.builtin id)) (ha : PA X (e :: es) t) (hn : x ≠ "__name__" := by decide) (hdb : (x == ("__debug__" : Str)) = false := by decide)
    (he : starEach (e :: es) X.env = (false, eval e X.env) :: starEach es X.env := by rfl) (hpl : (backTo pos (starEach es X.env)).any (·.1) = false := by rfl) : PE X (.Call (.Name x p) (e :: es) [] pos) (tCB r t) := by
  intro pins s σ H Q I h
  refine wpAny_Call_Name_kw (ld_blt I hg hm hv ?_ hn hdb)
  exact PyProof.Rows.callWith_builtin1 (thn (ha pos pins s σ H _ I h) fun us s1 ⟨vs, H1, I1, r1, q1⟩ => hc pins s1 σ H1 vs us Q I1 r1 q1) he hpl
/-- T(e, ..), T a built-in type -/
theorem pe_callTy (hc : CallR X (.type T) r) (hg : Gl X x) (hm : X.mg x = none) (hv : bootBuiltins x = some (.type T)) (ha : PA X (e :: es) t) (hn : x ≠ "__name__" := by decide) (hdb : (x == ("__debug__" : Str)) = false := by decide)
    (he : starEach (e :: es) X.env = (false, eval e X.env) :: starEach es X.env := by rfl) (hpl : (backTo pos (starEach es X.env)).any (·.1) = false := by rfl) : PE X (.Call (.Name x p) (e :: es) [] pos) (tCB r t) := by
  intro pins s σ H Q I h
  refine wpAny_Call_Name_kw (ld_blt I hg hm hv ?_ hn hdb)
  exact PyProof.Rows.callWith_type1 (thn (ha pos pins s σ H _ I h) fun us s1 ⟨vs, H1, I1, r1, q1⟩ => hc pins s1 σ H1 vs us Q I1 r1 q1) he hpl
end
end L2

namespace HT
open PySem PyProof.Rows

section
open PySem.SeqAt
open PySem.AutoSeq1 (wpAny_loadPart')
open PySem.MeetsSeq PySem.MeetsSeq2 PySem.MeetsSeq3

end

section
variable {prog : Program} {w : World} {A : Around} {E : Value → Shared → Prop} {s : Shared}

/-- t + u, t not empty -/
theorem cat_tup {t b : Addr} {vs ws : List Value} {Q : Value → Shared → Prop} (ht : IsTup s.heap t vs.toArray) (hb : IsTup s.heap b ws.toArray) (hv : vs ≠ [])
    (h1 : ws = [] → Q (.ref t) s) (h2 : ws ≠ [] → Q (.ref s.heap.objs.size) { s with heap := s.heap.push { cls := .type "tuple", data := .seq (vs ++ ws).toArray } })
    (hsz : vs.length + ws.length ≤ sizeLine) : wpAny (model prog w) A (binaryOp .Add (.ref t) (.ref b)) Q E s := by
  obtain ⟨⟨cls, dd, data, sl⟩, ho, hc, n, hd⟩ := id ht
  obtain ⟨⟨cls2, dd2, data2, sl2⟩, ho2, hc2, n2, hd2⟩ := id hb
  simp only at hc hd hc2 hd2
  subst hc hd hc2 hd2
  have e : vs.toArray ++ ws.toArray = (vs ++ ws).toArray := by simp
  by_cases hw : ws = []
  · exact concat_meets ⟨_, ho, rfl⟩ ⟨_, ho2, rfl⟩ noFill_tuple_add seq_tuple_add PySem.F.slot_tuple_add PySem.F.entry_tuple_add (PySem.F.args_tuple_add_2 _ _)
      (tuple_addW1 t b vs.toArray ws.toArray n n2 dd dd2 sl sl2 (by simpa using hv) (by simp [hw])) ⟨ho, ho2, h1 hw⟩
  · refine concat_meets ⟨_, ho, rfl⟩ ⟨_, ho2, rfl⟩ noFill_tuple_add seq_tuple_add PySem.F.slot_tuple_add PySem.F.entry_tuple_add (PySem.F.args_tuple_add_2 _ _)
      (tuple_addW2 t b vs.toArray ws.toArray n n2 dd dd2 sl sl2 (by simpa using hv) (by simpa using hw) (by rw [List.size_toArray, List.size_toArray]; exact hsz)) ⟨ho, ho2, ?_⟩
    rw [e]
    exact h2 hw

/-! ### t[a:b], not the whole -/
/-- a slice's bound as a place among n (d where it is left out) -/
def sIx (n d : Nat) : Option Int → Nat
  | none => d
  | some v => if v < 0 then (v + (n : Int)).toNat else min v.toNat n
theorem sIx_none (n d : Nat) : sIx n d none = d := rfl
theorem sIx_nat (n d k : Nat) : sIx n d (some (k : Int)) = min k n := by
  show (if (k : Int) < 0 then ((k : Int) + (n : Int)).toNat else min (k : Int).toNat n) = min k n
  rw [if_neg (by omega), Int.toNat_natCast]
theorem sIx_le (n d : Nat) (hd : d ≤ n) (o : Option Int) : sIx n d o ≤ n := by
  cases o with
  | none => exact hd
  | some v =>
    show (if v < 0 then (v + (n : Int)).toNat else min v.toNat n) ≤ n
    by_cases hv : v < 0
    · rw [if_pos hv]; omega
    · rw [if_neg hv]; exact Nat.min_le_right _ _
theorem clip_eq (v : Int) (n d : Nat) : (if v < 0 then max (v + (n : Int)) 0 else min v (n : Int)) = ((sIx n d (some v) : Nat) : Int) := by
  show (if v < 0 then max (v + (n : Int)) 0 else min v (n : Int)) = (((if v < 0 then (v + (n : Int)).toNat else min v.toNat n) : Nat) : Int)
  by_cases hv : v < 0
  · simp only [if_pos hv]; omega
  · simp only [if_neg hv]; omega
theorem adjust_gen (lo hi : Option Int) (n : Nat) : Builtin.Slice.sliceAdjust lo hi 1 (n : Int) = (((sIx n 0 lo : Nat) : Int), ((sIx n n hi : Nat) : Int)) := by
  have h1 : ¬ ((1 : Int) < 0) := by omega
  unfold Builtin.Slice.sliceAdjust
  simp only [h1, if_false]
  refine Prod.ext ?_ ?_
  · cases lo with
    | none => rfl
    | some v => exact clip_eq v n 0
  · cases hi with
    | none => rfl
    | some v => exact clip_eq v n n
theorem places_gen (i j : Nat) : Builtin.Slice.slicePlaces (i : Int) (j : Int) 1 = j - i := by
  unfold Builtin.Slice.slicePlaces
  have h1 : (1 : Int) > 0 := by omega
  simp only [h1, if_true, Int.ediv_one]
  split <;> omega
theorem slicePart_ {v : Value} {o : Option Int} {Q : Option Int → Shared → Prop} (p : IsPart v o) (h : Q o s) : wpAny (model prog w) A (Builtin.Slice.slicePartIndex v) Q E s := by
  cases p with
  | none => exact slicePart_none h
  | int i t => exact slicePart_int h
theorem sliceApplied_gen {sl : Addr} {vl vu : Value} {lo hi : Option Int} {n : Nat} {Q : Int × Int × Nat → Shared → Prop} (hs : s.heap.IsSliceOf sl vl vu .none) (pl : IsPart vl lo) (pu : IsPart vu hi)
    (h : Q (((sIx n 0 lo : Nat) : Int), 1, sIx n n hi - sIx n 0 lo) s) : wpAny (model prog w) A (Builtin.Slice.sliceApplied (.ref sl) (pure (n : Int))) Q E s := by
  obtain ⟨os, hos, hcs, hds⟩ := id hs
  unfold Builtin.Slice.sliceApplied Builtin.Slice.sliceFields
  refine wpAny_bind (wpAny_bind (wpAny_field hos hds (x := vl) rfl (wpAny_bind (wpAny_field hos hds (x := vu) rfl (wpAny_bind (wpAny_field hos hds (x := .none) rfl (wpAny_pure ?_)))))))
  refine wpAny_bind (slicePart_none ?_)
  show wpAny _ _ (if ((1 : Int) == 0) = true then _ else _) _ _ s
  rw [if_neg (by decide)]
  refine wpAny_bind (slicePart_ pl (wpAny_bind (slicePart_ pu (wpAny_bind (wpAny_pure ?_)))))
  show wpAny _ _ (match Builtin.Slice.sliceAdjust lo hi 1 (n : Int) with | (lo, hi) => pure (lo, (1 : Int), Builtin.Slice.slicePlaces lo hi 1)) _ _ s
  rw [adjust_gen lo hi n]
  show wpAny _ _ (pure (((sIx n 0 lo : Nat) : Int), (1 : Int), Builtin.Slice.slicePlaces ((sIx n 0 lo : Nat) : Int) ((sIx n n hi : Nat) : Int) 1)) _ _ s
  rw [places_gen]
  exact wpAny_pure h
theorem pick_gen (xs : Array Value) (i k : Nat) : ((List.range k).filterMap fun (m : Nat) => xs[((i : Int) + (m : Int) * 1).toNat]?).toArray = ((xs.toList.drop i).take k).toArray := by
  have e : (fun (m : Nat) => xs[((i : Int) + (m : Int) * 1).toNat]?) = fun m => xs[i + m]? := by
    funext m
    have : ((i : Int) + (m : Int) * 1).toNat = i + m := by omega
    rw [this]
  rw [e]
  have := pick_run xs i k
  rw [List.filterMap_map] at this
  have e2 : ((fun x => xs[x]?) ∘ fun x => i + x) = fun m => xs[i + m]? := rfl
  rw [e2] at this
  rw [this]

theorem getItem_tuple_cut {t sl : Addr} {items : Array Value} {vl vu : Value} {lo hi : Option Int} {Q : Value → Shared → Prop} (ht : IsTup s.heap t items) (hs : s.heap.IsSliceOf sl vl vu .none) (pl : IsPart vl lo) (pu : IsPart vu hi)
    (hw : ¬ (sIx items.size 0 lo = 0 ∧ sIx items.size items.size hi = items.size))
    (h : Q (.ref s.heap.objs.size) { s with heap := s.heap.push { cls := .type "tuple", data := .seq ((items.toList.drop (sIx items.size 0 lo)).take (sIx items.size items.size hi - sIx items.size 0 lo)).toArray } })
    (hsz : items.size ≤ sizeLine) : wpAny (model prog w) A (getItem (.ref t) (.ref sl)) Q E s := by
  have htake : sizeOk (.seq ((items.toList.drop (sIx items.size 0 lo)).take (sIx items.size items.size hi - sIx items.size 0 lo)).toArray) := by
    show ((items.toList.drop (sIx items.size 0 lo)).take (sIx items.size items.size hi - sIx items.size 0 lo)).toArray.size ≤ sizeLine
    rw [List.size_toArray, List.length_take, List.length_drop, Array.length_toList]
    omega
  have hj : sIx items.size items.size hi ≤ items.size := sIx_le _ _ (Nat.le_refl _) hi
  obtain ⟨os, hos, hcs, hds⟩ := id hs
  have hTs : s.TypeIs (.ref sl) "slice" := ⟨os, hos, hcs⟩
  unfold getItem
  try with_reducible refine wpAny_holding ?_
  first | refine wpAny_bind (wpAny_pure ?_) | skip
  refine wpAny_bind (wpAny_sequenceKey ht.typeIs (by decide) ?_)
  refine wpAny_bind (wpAny_callSpecial?_slot (name := Str.ofString "__getitem__") ht.typeIs PyProof.Rows.slot_tuple_getitem
    (wpAny_call_entry PyProof.Rows.slot_tuple_getitem ht.typeIs entry_tuple_getitem ?_ (args_tuple_getitem _ _)))
  show wpAny _ _ (Builtin.Tuple.tupleItemsOf (.ref t) >>= _) _ _ s
  refine wpAny_bind (tupleItemsOf_ ht ?_)
  refine wpAny_bind (wpAny_typeOf hTs ?_)
  rw [if_pos (by decide)]
  refine wpAny_bind (sliceApplied_gen hs pl pu ?_)
  have hno : ¬ ((((sIx items.size 0 lo : Nat) : Int) == 0 && (1 : Int) == 1 && (sIx items.size items.size hi - sIx items.size 0 lo) == items.size) = true) := by
    intro q
    rw [Bool.and_eq_true, Bool.and_eq_true] at q
    have q1 : ((sIx items.size 0 lo : Nat) : Int) = 0 := eq_of_beq q.1.1
    have q2 : sIx items.size items.size hi - sIx items.size 0 lo = items.size := eq_of_beq q.2
    exact hw ⟨by omega, by omega⟩
  show wpAny _ _ (if (((sIx items.size 0 lo : Nat) : Int) == 0 && (1 : Int) == 1 && (sIx items.size items.size hi - sIx items.size 0 lo) == items.size) = true then _ else _) _ _ s
  rw [if_neg hno, pick_gen]
  first
    | exact wpAny_bind (m := Builtin.Tuple.tupleExact _) (wpAny_newObj_type (wpAny_pure ⟨_, rfl, wpAny_pure h⟩) htake)
    | exact wpAny_bind (m := Builtin.Tuple.tupleExact _) (wpAny_newObj_type (wpAny_bind (wpAny_pure (wpAny_pure ⟨_, rfl, wpAny_pure h⟩))) htake)
    | exact wpAny_bind (wpAny_bind (m := Builtin.Tuple.tupleExact _) (wpAny_newObj_type (wpAny_pure (wpAny_pure ⟨_, rfl, wpAny_pure h⟩)) htake))
    | exact wpAny_bind (wpAny_bind (m := Builtin.Tuple.tupleExact _) (wpAny_newObj_type (wpAny_pure ⟨_, rfl, wpAny_pure h⟩) htake))
end
end HT

namespace L2
open PySem PySem.Spec PyProof.Rows

/-! ### the parts of a slice -/
abbrev TO := St → Hp → (Option Int → Hp → Prop) → Prop
/-- a slice's part (left out, or an int) -/
def PO (X : Cx) (e : Option Expr) (t : TO) : Prop :=
  ∀ (pins : List (Addr × Obj)) (s : Shared) (σ : St) (H : Hp) (Q : Option Int → Hp → Prop), Inv X pins σ H s → t σ H Q →
    wpAny (model X.prog X.w) X.A (evalPart e X.env) (fun u s' => ∃ o H', Inv X pins σ H' s' ∧ IsPart u o ∧ Q o H') X.xe s
def tNoPart : TO := fun _ H Q => Q none H
def tPart (t : TE) : TO := fun σ H Q => t σ H fun x H1 => ∃ i, x = .int i ∧ Q (some i) H1

section
variable {X : Cx} {e : Expr} {te : TE} {lo hi : Option Expr} {tl th : TO} {pos p2 : Pos}

theorem po_none : PO X none tNoPart := by
  intro pins s σ H Q I h
  rw [evalPart_none]
  exact wpAny_pure ⟨none, H, I, .none, h⟩
theorem po_some (h : PE X e te) : PO X (some e) (tPart te) := by
  intro pins s σ H Q I hw
  rw [evalPart_some]
  refine thn (h pins s σ H _ I hw) fun u s1 ⟨x, H1, I1, r1, q1⟩ => ?_
  obtain ⟨i, rfl, q⟩ := q1
  obtain ⟨t, rfl⟩ := r1
  exact ⟨some i, H1, I1, .int i t, q⟩

/-- what a slice of a value is, by values: the slice object stands at sl -/
def SlR (X : Cx) (r : V → Option Int → Option Int → Hp → VK → Prop) : Prop :=
  ∀ (pins : List (Addr × Obj)) (s : Shared) (σ : St) (H : Hp) (x : V) (v vl vu : Value) (lo hi : Option Int) (sl : Addr) (Q : VK), Inv X pins σ H s → RelV x v → s.heap.IsSliceOf sl vl vu .none → IsPart vl lo → IsPart vu hi → r x lo hi H Q →
    ∃ T id, typeLookup (.type T) "__getitem__" = pure (some (.builtin id)) ∧ s.TypeIs v T ∧ wpAny (model X.prog X.w) X.A (getItem v (.ref sl)) (EP X pins σ Q) X.xe s
def tSl (r : V → Option Int → Option Int → Hp → VK → Prop) (te : TE) (tl th : TO) : TE := fun σ H Q => te σ H fun x H1 => tl σ H1 fun l H2 => th σ H2 fun u H3 => r x l u H3 Q
/-- a[lo:hi], any a -/
theorem pe_slice {r : V → Option Int → Option Int → Hp → VK → Prop} (hr : SlR X r) (he : PE X e te) (hl : PO X lo tl) (hu : PO X hi th) : PE X (.Subscript e (.Slice lo hi none p2) pos) (tSl r te tl th) := by
  intro pins s σ H Q I h
  refine Subscript_ (thn (he pins s σ H _ I h) fun v s1 ⟨x, H1, I1, r1, q1⟩ => ?_)
  refine wpAny_Slice (thn (hl pins s1 σ H1 _ I1 q1) fun vl s2 ⟨l, H2, I2, pl, q2⟩ => thn (hu pins s2 σ H2 _ I2 q2) fun vu s3 ⟨u, H3, I3, pu, q3⟩ => ?_)
  rw [evalPart_none]
  refine wpAny_pure ?_
  have I4 : Inv X pins σ H3 { s3 with heap := s3.heap.push { cls := .type "slice", data := .fields #[vl, vu, .none] } } := I3.kept (t' := s3.toks) fun b ob q => Heap.get?_push_of_some _ q
  obtain ⟨T, id, hT, ht, hg⟩ := hr pins { s3 with heap := s3.heap.push { cls := .type "slice", data := .fields #[vl, vu, .none] } } σ H3 x v vl vu l u s3.heap.objs.size Q I4 r1 (Heap.IsSliceOf.new ..) pl pu q3
  show wpAny (model X.prog X.w) X.A (subscriptTail e (.Slice lo hi none p2) v (.ref s3.heap.objs.size)) (EP X pins σ Q) X.xe { s3 with heap := s3.heap.push { cls := .type "slice", data := .fields #[vl, vu, .none] } }
  exact tail_any (ops := [.ref s3.heap.objs.size, v]) ht hT hg (by with_unfolding_all rfl)

/-- the items of xs[lo:hi] -/
def cutV (xs : List V) (lo hi : Option Int) : List V := (xs.drop (HT.sIx xs.length 0 lo)).take (HT.sIx xs.length xs.length hi - HT.sIx xs.length 0 lo)
theorem cutV_length (xs : List V) (lo hi : Option Int) : (cutV xs lo hi).length ≤ xs.length := by
  unfold cutV
  rw [List.length_take, List.length_drop]
  omega
/-- t[lo:hi], not the whole of it (the whole would be t itself) -/
def rSlT (K : PySem.W.Frag) : V → Option Int → Option Int → Hp → VK → Prop := fun x lo hi H Q => ∃ a xs, x = .ref a ∧ SqT K H a xs ∧
  ¬ (HT.sIx xs.length 0 lo = 0 ∧ HT.sIx xs.length xs.length hi = xs.length) ∧ ∀ p, H p = none → Q (.ref p) (upd H p (.tup (cutV xs lo hi)))
theorem sl_tup : SlR X (rSlT X.K) := by
  intro pins s σ H x v vl vu lo hi sl Q I rx hs pl pu h
  obtain ⟨a, xs, rfl, hx, hw, q⟩ := h
  cases rx
  obtain ⟨its, r, ht, hz⟩ := I.tuple hx
  have hlen : its.toArray.size = xs.length := by rw [List.size_toArray]; exact r.length.symm
  refine ⟨"tuple", _, PyProof.Rows.slot_tuple_getitem.lookup, ht.typeIs, ?_⟩
  refine HT.getItem_tuple_cut ht hs pl pu (by rw [hlen]; exact hw) ?_ (by rw [hlen]; exact hz)
  rw [hlen]
  refine ⟨.ref s.heap.objs.size, _, I.laid (t' := s.toks) (o := .tup (cutV xs lo hi)) (fun b ob q => Heap.get?_push_of_some _ q) (Nat.le_refl _) ?_, rfl, q _ (I.hok.fresh (Nat.le_refl _))⟩
  exact ⟨Nat.le_trans (cutV_length xs lo hi) hz, _, (r.drop (HT.sIx xs.length 0 lo)).take (HT.sIx xs.length xs.length hi - HT.sIx xs.length 0 lo), IsTup.new _ _⟩

/-! ### t < u, t + u -/
/-- t + u, t not empty: u empty gives t itself -/
def rCatT (K : PySem.W.Frag) : R2 := fun x y H Q => ∃ a b xs ys, x = .ref a ∧ y = .ref b ∧ SqT K H a xs ∧ SqT K H b ys ∧ xs ≠ [] ∧ xs.length + ys.length ≤ sizeLine ∧
  (ys = [] → Q (.ref a) H) ∧ (ys ≠ [] → ∀ p, H p = none → Q (.ref p) (upd H p (.tup (xs ++ ys))))
theorem Vals.nil_iff {xs : List V} {us : List Value} (r : Vals xs us) : us = [] ↔ xs = [] := by
  cases r with
  | nil => simp
  | cons _ _ => simp
theorem op_catT : OpR X (binaryOp .Add) (rCatT X.K) := by
  intro pins s σ H x y v u Q I rx ry h
  obtain ⟨a, b, xs, ys, rfl, rfl, ha, hb, hx, hz, q1, q2⟩ := h
  cases rx
  cases ry
  obtain ⟨its, r1, p1, _⟩ := I.tuple ha
  obtain ⟨its2, r2, p2, _⟩ := I.tuple hb
  refine HT.cat_tup p1 p2 (fun z => hx (r1.nil_iff.mp z)) (fun z => ⟨.ref a, H, I, rfl, q1 (r2.nil_iff.mp z)⟩) (fun z => ?_) (by rw [← r1.length, ← r2.length]; exact hz)
  refine ⟨.ref s.heap.objs.size, _, I.laid (t' := s.toks) (o := .tup (xs ++ ys)) (fun b ob q => Heap.get?_push_of_some _ q) (Nat.le_refl _) ?_, rfl, q2 (fun w => z (r2.nil_iff.mpr w)) _ (I.hok.fresh (Nat.le_refl _))⟩
  exact ⟨by rw [List.length_append]; exact hz, _, r1.append r2, IsTup.new _ _⟩
end
end L2

namespace L2
open PySem PySem.Spec PyProof.Rows

/-! ### places -/
/-- the place that an index of any sign means -/
def ixN (n : Nat) (i : Int) : Option Nat := if 0 ≤ i then (if i < n then some i.toNat else none) else if -(n : Int) ≤ i then some (i + n).toNat else none
def atI {α : Type} (xs : List α) (i : Int) : Option α := (ixN xs.length i).bind fun j => xs[j]?
theorem ixN_seq {n : Nat} {i : Int} {j : Nat} (h : ixN n i = some j) : seqIndex? i n = some j ∧ j < n ∧ -(n : Int) ≤ i ∧ i < n := by
  unfold ixN at h
  by_cases h0 : 0 ≤ i
  · rw [if_pos h0] at h
    by_cases h1 : i < n
    · rw [if_pos h1] at h
      have e : i.toNat = j := Option.some.inj h
      exact ⟨by rw [seqIndex_of h0 h1, e], by omega, by omega, h1⟩
    · rw [if_neg h1] at h; cases h
  · rw [if_neg h0] at h
    by_cases h1 : -(n : Int) ≤ i
    · rw [if_pos h1] at h
      have e : (i + n).toNat = j := Option.some.inj h
      exact ⟨by rw [seqIndex_neg (by omega) h1, e], by omega, h1, by omega⟩
    · rw [if_neg h1] at h; cases h
theorem atI_get {α : Type} {xs : List α} {i : Int} {v : α} (h : atI xs i = some v) : ∃ j, seqIndex? i xs.length = some j ∧ xs[j]? = some v ∧ j < xs.length ∧ -(xs.length : Int) ≤ i ∧ i < xs.length := by
  unfold atI at h
  cases e : ixN xs.length i with
  | none => rw [e] at h; cases h
  | some j =>
    rw [e] at h
    obtain ⟨h1, h2, h3, h4⟩ := ixN_seq e
    exact ⟨j, h1, h, h2, h3, h4⟩
theorem atI_nat {α : Type} {xs : List α} {j : Nat} {v : α} (h : xs[j]? = some v) : atI xs (j : Int) = some v := by
  have hj : j < xs.length := (List.getElem?_eq_some_iff.mp h).1
  have e : ixN xs.length (j : Int) = some j := by
    unfold ixN
    rw [if_pos (by omega), if_pos (by omega)]; simp
  unfold atI; rw [e]; exact h
theorem atI_last {α : Type} (xs : List α) (v : α) : atI (xs ++ [v]) (-1) = some v := by
  have hl : (xs ++ [v]).length = xs.length + 1 := by simp
  have e : ixN (xs ++ [v]).length (-1) = some xs.length := by
    unfold ixN
    rw [hl, if_neg (by decide), if_pos (by omega)]
    congr 1
    omega
  unfold atI
  rw [e]
  show (xs ++ [v])[xs.length]? = some v
  simp

/-! ### what may be subscripted -/
/-- what stands as an index of a plain subscript -/
def PlainIx (b : Expr) : Prop := ∀ o i, subscripted b false o i = operate [o, i] (getItem o i)
/-- a subscript by values -/
def IxR (X : Cx) (r : R2) : Prop :=
  ∀ (value slice : Expr) (pins : List (Addr × Obj)) (s : Shared) (σ : St) (H : Hp) (x y : V) (v u : Value) (Q : VK), Inv X pins σ H s → RelV x v → RelV y u → r x y H Q →
    subscripted slice false v u = operate [v, u] (getItem v u) → wpAny (model X.prog X.w) X.A (subscriptTail value slice v u) (EP X pins σ Q) X.xe s
/-- a call of a builtin's method by values: the receiver, the arguments -/
def MtR (X : Cx) (id : String) (r : V → List V → Hp → VK → Prop) : Prop :=
  ∀ (pins : List (Addr × Obj)) (s : Shared) (σ : St) (H : Hp) (x : V) (xs : List V) (v : Value) (us : List Value) (Q : VK), Inv X pins σ H s → RelV x v → Vals xs us → r x xs H Q →
    wpAny (model X.prog X.w) X.A (call (.builtin id) (v :: us)) (EP X pins σ Q) X.xe s
section
variable {X : Cx} {a b : Expr} {ta tb : TE} {pos : Pos}
theorem IxR.or {r r' : R2} (h : IxR X r) (h' : IxR X r') : IxR X (fun x y H Q => r x y H Q ∨ r' x y H Q) := by
  intro value slice pins s σ H x y v u Q I rx ry q hs
  rcases q with q | q
  · exact h value slice pins s σ H x y v u Q I rx ry q hs
  · exact h' value slice pins s σ H x y v u Q I rx ry q hs
/-- a[b] -/
theorem pe_ix {r : R2} (hr : IxR X r) (ha : PE X a ta) (hb : PE X b tb) (hs : PlainIx b) : PE X (.Subscript a b pos) (tOp r ta tb) := by
  intro pins s σ H Q I h
  exact Subscript_ (binT ha hb I h fun v u s2 x y H2 I2 rx ry q => hr a b pins s2 σ H2 x y v u Q I2 rx ry q (hs _ _))

def rIxL (K : PySem.W.Frag) : R2 := fun x y H Q => ∃ p xs i v, x = .ref p ∧ y = .int i ∧ SqL K H p xs ∧ atI xs i = some v ∧ Q v H
def rIxT (K : PySem.W.Frag) : R2 := fun x y H Q => ∃ p xs i v, x = .ref p ∧ y = .int i ∧ SqT K H p xs ∧ atI xs i = some v ∧ Q v H
def rIxS : R2 := fun x y H Q => ∃ z i c, x = .str z ∧ y = .int i ∧ z.length ≤ sizeLine ∧ atI z.cps.toList i = some c ∧ Q (.str ⟨#[c]⟩) H
theorem ix_list : IxR X (rIxL X.K) := by
  intro value slice pins s σ H x y v u Q I rx ry h hs
  obtain ⟨p, xs, i, z, rfl, rfl, hq, he, q⟩ := h
  cases rx
  obtain ⟨t, rfl⟩ := ry
  obtain ⟨its, r, pl, hz⟩ := I.list hq
  obtain ⟨j, h1, h2, h3, h4, h5⟩ := atI_get he
  obtain ⟨w, ew, rw'⟩ := r.get h2
  have hl := r.length
  have hn := line63
  have fin : EP X pins σ Q w s := ⟨z, H, I, rw', q⟩
  by_cases h0 : 0 ≤ i
  · have hj : i.toNat = j := by
      rw [seqIndex_of h0 h5] at h1
      exact Option.some.inj h1
    exact item_listR pl.isList h0 (by omega) (by rw [hj]; simpa using ew) fin hs
  · have hj : (i + (its.toArray.size : Int)).toNat = j := by
      rw [seqIndex_neg (by omega) h4] at h1
      rw [List.size_toArray, ← hl]
      exact Option.some.inj h1
    exact subscriptTail_builtinR (x := w) pl.isList.typeIs slot_list_getitem.lookup
      (wpAny_getItem_list_neg (Q := fun r s' => r = w ∧ EP X pins σ Q r s') pl.isList (by omega) (by rw [List.size_toArray] <;> omega) (by omega) (by rw [hj]; simpa using ew) ⟨rfl, fin⟩) hs
theorem ix_tup : IxR X (rIxT X.K) := by
  intro value slice pins s σ H x y v u Q I rx ry h hs
  obtain ⟨p, xs, i, z, rfl, rfl, hq, he, q⟩ := h
  cases rx
  obtain ⟨t, rfl⟩ := ry
  obtain ⟨its, r, pl, hz⟩ := I.tuple hq
  obtain ⟨j, h1, h2, h3, h4, h5⟩ := atI_get he
  obtain ⟨w, ew, rw'⟩ := r.get h2
  have hl := r.length
  have hn := line63
  have fin : EP X pins σ Q w s := ⟨z, H, I, rw', q⟩
  exact subscriptTail_builtinR (x := w) pl.typeIs slot_tuple_getitem.lookup
    (getItem_tuple (j := j) (Q := fun r s' => r = w ∧ EP X pins σ Q r s') pl (by omega) (by omega) (by rw [List.size_toArray, ← hl]; exact h1) (by simpa using ew) ⟨rfl, fin⟩) hs
theorem ix_str : IxR X rIxS := by
  intro value slice pins s σ H x y v u Q I rx ry h hs
  obtain ⟨z, i, c, rfl, rfl, hz, he, q⟩ := h
  obtain ⟨t, rfl⟩ := rx
  obtain ⟨t', rfl⟩ := ry
  obtain ⟨j, h1, h2, h3, h4, h5⟩ := atI_get he
  have hl : z.cps.toList.length = z.length := by simp [Str.length]
  rw [hl] at h1 h4 h5
  have hn := line63
  exact tail_any (typeIs_str s z t) slot_str_getitem.lookup (getItem_str (c := c) (by
    have e1 : decide (i < -(2 ^ 63 : Int)) = false := decide_eq_false (by omega)
    have e2 : decide (i ≥ 2 ^ 63) = false := decide_eq_false (by omega)
    rw [e1, e2, Bool.or_false]) (by rw [h1]; simpa using h2) ⟨.str ⟨#[c]⟩, H, I.tok _, ⟨_, rfl⟩, q⟩) hs
/-- list, tuple or str -/
def rIx (K : PySem.W.Frag) : R2 := fun x y H Q => rIxL K x y H Q ∨ rIxT K x y H Q ∨ rIxS x y H Q
theorem ix_seq : IxR X (rIx X.K) := ix_list.or (ix_tup.or ix_str)

/-! ### xs[i] = v, any sign -/
/-- the list's object behind a store -/
theorem mapSeq_set (its : List Value) (n j : Nat) (u : Value) : Obj.mapSeq (·.setIfInBounds j u) { cls := .type "list", data := .seq its.toArray n } = { cls := .type "list", data := .seq (its.set j u).toArray n } := by
  simp [Obj.mapSeq]
theorem Inv.lst {pins : List (Addr × Obj)} {σ : St} {H : Hp} {s : Shared} {p : Addr} {xs : List V} (I : Inv X pins σ H s) (h : H p = some (.lst xs)) :
    ∃ (its : List Value) (n : Nat), Vals xs its ∧ s.heap.get? p = some { cls := .type "list", data := .seq its.toArray n } ∧ xs.length ≤ sizeLine := by
  obtain ⟨z, its, n, r, e⟩ := I.hok p _ h
  exact ⟨its, n, r, e, z⟩
/-- the list at p is written by an update of its object -/
theorem Inv.lstUpd {pins : List (Addr × Obj)} {σ : St} {H : Hp} {s : Shared} {p : Addr} {xs ys : List V} {its its' : List Value} {n n' : Nat} {f : Obj → Obj} (I : Inv X pins σ H s) (h : H p = some (.lst xs))
    (ho : s.heap.get? p = some { cls := .type "list", data := .seq its.toArray n }) (hf : f { cls := .type "list", data := .seq its.toArray n } = { cls := .type "list", data := .seq its'.toArray n' }) (r : Vals ys its') (hz : ys.length ≤ sizeLine) (t : Nat) :
    Inv X pins σ (upd H p (.lst ys)) { s with heap := s.heap.update p f, toks := t } := by
  have e : (s.heap.update p f).get? p = some { cls := .type "list", data := .seq its'.toArray n' } := by
    rw [Heap.get?_update_self f ho (by rw [hf] <;> rfl), hf]
  refine I.write (x := p) (e := p) (by rw [h]; trivial) (.inl rfl) (fun b u hb q => (Heap.get?_update_other _ _ (Ne.symm hb)).trans q) ⟨_, e⟩ ?_
  exact ⟨hz, its', n', r, e⟩
def rSetL : V → V → V → Hp → (Hp → Prop) → Prop := fun o i v H Q => ∃ p xs k j, o = .ref p ∧ i = .int k ∧ H p = some (.lst xs) ∧ ixN xs.length k = some j ∧ Q (upd H p (.lst (xs.set j v)))
theorem set_list : PSet X rSetL := by
  intro pins s σ H o i v ov iv u Q I ro ri rv h
  obtain ⟨p, xs, k, j, rfl, rfl, hp, hj, q⟩ := h
  cases ro
  obtain ⟨t, rfl⟩ := ri
  obtain ⟨its, n, r, ho, hz⟩ := I.lst hp
  obtain ⟨h1, h2, h3, h4⟩ := ixN_seq hj
  have hl := r.length
  have hn := line63
  have I' : Inv X pins σ (upd H p (.lst (xs.set j v))) { s with heap := s.heap.update p (Obj.mapSeq (·.setIfInBounds j u)) } :=
    I.lstUpd hp ho (mapSeq_set its n j u) (r.set rv j) (by rw [List.length_set]; exact hz) s.toks
  by_cases h0 : 0 ≤ k
  · have hk : k.toNat = j := by
      rw [seqIndex_of h0 h4] at h1
      exact Option.some.inj h1
    exact PySem.W.ki_setAt ho h0 (by omega) (by rw [List.size_toArray, ← hl]; exact h4) (by rw [hk]; exact ⟨_, I', q⟩)
  · have hk : (k + (its.toArray.size : Int)).toNat = j := by
      rw [seqIndex_neg (by omega) h3] at h1
      rw [List.size_toArray, ← hl]
      exact Option.some.inj h1
    exact PySem.W.ki_setBack ho (by omega) (by rw [List.size_toArray, ← hl]; exact h3) (by omega) (by rw [hk]; exact ⟨_, I', q⟩)

/-! ### slices -/
theorem slice_bounds (lo hi : Option Int) (n : Nat) : (sliceBounds lo hi none n).1 = ((HT.sIx n 0 lo : Nat) : Int) ∧ (sliceBounds lo hi none n).2.1 = ((HT.sIx n n hi : Nat) : Int) ∧ (sliceBounds lo hi none n).2.2 = 1 := by
  refine ⟨?_, ?_, rfl⟩
  · cases lo with
    | none => simp [sliceBounds, HT.sIx]
    | some i =>
      simp only [sliceBounds, HT.sIx, Option.getD_none, show (1 : Int) > 0 by decide, if_true]
      by_cases h : i < 0
      · simp only [h, if_true] <;> omega
      · simp only [h, if_false] <;> omega
  · cases hi with
    | none => simp [sliceBounds, HT.sIx]
    | some i =>
      simp only [sliceBounds, HT.sIx, Option.getD_none, show (1 : Int) > 0 by decide, if_true]
      by_cases h : i < 0
      · simp only [h, if_true] <;> omega
      · simp only [h, if_false] <;> omega
theorem slicePick_cut (its : List Value) (lo hi : Option Int) : slicePick its.toArray lo hi none = ((its.drop (HT.sIx its.length 0 lo)).take (HT.sIx its.length its.length hi - HT.sIx its.length 0 lo)).toArray := by
  obtain ⟨h1, h2, h3⟩ := slice_bounds lo hi its.toArray.size
  unfold slicePick
  rw [h1, h2, h3]
  simp only [sliceRange_one, pick_run, List.size_toArray] <;> rfl
/-- xs[lo:hi] of a list: a new list -/
def rSlL (K : PySem.W.Frag) : V → Option Int → Option Int → Hp → VK → Prop := fun x lo hi H Q => ∃ a xs, x = .ref a ∧ SqL K H a xs ∧ ∀ p, H p = none → Q (.ref p) (upd H p (.lst (cutV xs lo hi)))
theorem sl_list : SlR X (rSlL X.K) := by
  intro pins s σ H x v vl vu lo hi sl Q I rx hs pl pu h
  obtain ⟨a, xs, rfl, hx, q⟩ := h
  cases rx
  obtain ⟨its, r, ht, hz⟩ := I.list hx
  have hlen := r.length
  refine ⟨"list", _, slot_list_getitem.lookup, ht.isList.typeIs, ?_⟩
  refine wpAny_getItem_list_slice ht.isList hs pl pu .none (by simp) ?_ (by rw [List.size_toArray] <;> omega)
  rw [slicePick_cut, ← hlen]
  refine ⟨.ref s.heap.objs.size, _, I.laid (t' := s.toks) (o := .lst (cutV xs lo hi)) (fun b ob q => Heap.get?_push_of_some _ q) (Nat.le_refl _) ?_, rfl, q _ (I.hok.fresh (Nat.le_refl _))⟩
  exact ⟨Nat.le_trans (cutV_length xs lo hi) hz, _, 0, (r.drop (HT.sIx xs.length 0 lo)).take (HT.sIx xs.length xs.length hi - HT.sIx xs.length 0 lo), Heap.get?_push_size _ rfl⟩

/-! ### in, not in: flat items -/
def flatV : V → Bool
  | .non => true
  | .bl _ => true
  | .int _ => true
  | .str _ => true
  | _ => false
/-- == of flat values -/
def eqV : V → V → Bool
  | .non, .non => true
  | .bl a, .bl b => a == b
  | .bl a, .int b => (if a then 1 else 0) == b
  | .int a, .bl b => a == (if b then 1 else 0)
  | .int a, .int b => a == b
  | .str a, .str b => a == b
  | _, _ => false
theorem eqAt_V {A : Around} {s : Shared} {y x : V} {u v : Value} (ry : RelV y u) (rx : RelV x v) (fy : flatV y = true) (fx : flatV x = true) : SeqAt.EqAt A s u v (eqV y x) := by
  cases y with
  | non =>
    cases ry
    cases x with
    | non => cases rx; exact SeqAt.EqAt.same _
    | bl b => cases rx; exact SeqAt.EqAt.none_bool b
    | int b => obtain ⟨t, rfl⟩ := rx; exact SeqAt.EqAt.none_int b t
    | str b => obtain ⟨t, rfl⟩ := rx; exact SeqAt.EqAt.none_str b t
    | _ => exact absurd (show false = true from fx) Bool.false_ne_true
  | bl a =>
    cases ry
    cases x with
    | non => cases rx; exact SeqAt.EqAt.bool_none a
    | bl b => cases rx; exact SeqAt.EqAt.bool_bool a b
    | int b => obtain ⟨t, rfl⟩ := rx; exact SeqAt.EqAt.bool_int a b t
    | str b => obtain ⟨t, rfl⟩ := rx; exact SeqAt.EqAt.bool_str a b t
    | _ => exact absurd (show false = true from fx) Bool.false_ne_true
  | int a =>
    obtain ⟨t', rfl⟩ := ry
    cases x with
    | non => cases rx; exact SeqAt.EqAt.int_none a t'
    | bl b => cases rx; exact SeqAt.EqAt.int_bool a t' b
    | int b => obtain ⟨t, rfl⟩ := rx; exact SeqAt.EqAt.int_int a t' b t
    | str b => obtain ⟨t, rfl⟩ := rx; exact SeqAt.EqAt.int_str a t' b t
    | _ => exact absurd (show false = true from fx) Bool.false_ne_true
  | str a =>
    obtain ⟨t', rfl⟩ := ry
    cases x with
    | non => cases rx; exact SeqAt.EqAt.str_none a t'
    | bl b => cases rx; exact SeqAt.EqAt.str_bool a t' b
    | int b => obtain ⟨t, rfl⟩ := rx; exact SeqAt.EqAt.str_int a t' b t
    | str b => obtain ⟨t, rfl⟩ := rx; exact SeqAt.EqAt.str_str a t' b t
    | _ => exact absurd (show false = true from fx) Bool.false_ne_true
  | _ => exact absurd (show false = true from fy) Bool.false_ne_true
/-- the items' answers, read off the values (a value's own answer does not lean on its token) -/
def eqU (x : V) (u : Value) : Bool := match u with
  | .none => eqV .non x
  | .bool b => eqV (.bl b) x
  | .int i _ => eqV (.int i) x
  | .str z _ => eqV (.str z) x
  | _ => false
theorem eqU_of {x y : V} {u : Value} (r : RelV y u) (f : flatV y = true) : eqU x u = eqV y x := by
  cases y with
  | non => cases r; rfl
  | bl b => cases r; rfl
  | int i => obtain ⟨t, rfl⟩ := r; rfl
  | str z => obtain ⟨t, rfl⟩ := r; rfl
  | _ => exact absurd (show false = true from f) Bool.false_ne_true
theorem any_eqU {x : V} : ∀ {xs : List V} {us : List Value}, Vals xs us → xs.all flatV = true → us.any (eqU x) = xs.any fun y => eqV y x
  | _, _, .nil, _ => rfl
  | y :: xs, u :: us, .cons r t, f => by
    rw [List.all_cons, Bool.and_eq_true] at f
    rw [List.any_cons, List.any_cons, eqU_of r f.1, any_eqU t f.2]
theorem mem_eqAt {A : Around} {s : Shared} {x : V} {v : Value} (rx : RelV x v) (fx : flatV x = true) : ∀ {xs : List V} {us : List Value}, Vals xs us → xs.all flatV = true → ∀ u ∈ us, SeqAt.EqAt A s u v (eqU x u)
  | _, _, .nil, _ => fun u hu => by cases hu
  | y :: xs, u :: us, .cons r t, f => fun u' hu => by
    rw [List.all_cons, Bool.and_eq_true] at f
    rcases List.mem_cons.mp hu with rfl | hu
    · rw [eqU_of r f.1]; exact eqAt_V r rx f.1 fx
    · exact mem_eqAt rx fx t f.2 u' hu
def inV (x : V) (xs : List V) : Bool := xs.any fun y => eqV y x
/-- x in a list or tuple of flat items -/
def rIn (K : PySem.W.Frag) (neg : Bool) : R2 := fun x y H Q => ∃ p xs, y = .ref p ∧ (SqL K H p xs ∨ SqT K H p xs) ∧ flatV x = true ∧ xs.all flatV = true ∧ Q (.bl (if neg then !inV x xs else inV x xs)) H
theorem op_in_seq : OpR X (compareOp .In) (rIn X.K false) := by
  intro pins s σ H x y v u Q I rx ry h
  obtain ⟨p, xs, rfl, hq, fx, fs, q⟩ := h
  cases ry
  rcases hq with hq | hq
  · obtain ⟨its, r, pl, hz⟩ := I.list hq
    refine SeqAt.in_listAt (eqU x) pl.isList (fun w hw => mem_eqAt rx fx r fs w (by simpa using hw)) ⟨.bl _, H, I, rfl, ?_⟩
    rw [show its.toArray.any (eqU x) = its.any (eqU x) by simp, any_eqU r fs]
    exact q
  · obtain ⟨its, r, pl, hz⟩ := I.tuple hq
    refine SeqAt.in_tupleAt (eqU x) pl (fun w hw => mem_eqAt rx fx r fs w (by simpa using hw)) ⟨.bl _, H, I, rfl, ?_⟩
    rw [show its.toArray.any (eqU x) = its.any (eqU x) by simp, any_eqU r fs]
    exact q
theorem op_notIn_seq : OpR X (compareOp .NotIn) (rIn X.K true) := by
  intro pins s σ H x y v u Q I rx ry h
  obtain ⟨p, xs, rfl, hq, fx, fs, q⟩ := h
  cases ry
  rcases hq with hq | hq
  · obtain ⟨its, r, pl, hz⟩ := I.list hq
    refine SeqAt.notIn_listAt (eqU x) pl.isList (fun w hw => mem_eqAt rx fx r fs w (by simpa using hw)) ⟨.bl _, H, I, rfl, ?_⟩
    rw [show its.toArray.any (eqU x) = its.any (eqU x) by simp, any_eqU r fs]
    exact q
  · obtain ⟨its, r, pl, hz⟩ := I.tuple hq
    refine SeqAt.notIn_tupleAt (eqU x) pl (fun w hw => mem_eqAt rx fx r fs w (by simpa using hw)) ⟨.bl _, H, I, rfl, ?_⟩
    rw [show its.toArray.any (eqU x) = its.any (eqU x) by simp, any_eqU r fs]
    exact q
/-! ### len, list(x), tuple(x) of any list or tuple that is read -/
theorem call_len_seq : CallR X (.builtin "len") (fun xs H Q => ∃ p ys, xs = [.ref p] ∧ (SqL X.K H p ys ∨ SqT X.K H p ys) ∧ Q (.int ys.length) H) := by
  intro pins s σ H xs us Q I r h
  obtain ⟨p, ys, rfl, hq, q⟩ := h
  obtain ⟨u, rfl, rx⟩ := vals1 r
  cases rx
  have hn := line63
  rcases hq with hq | hq
  · obtain ⟨its, r', pl, hz⟩ := I.list hq
    have hlen := r'.length
    exact Calls.call_len_list pl.isList (by simp only [List.size_toArray] <;> omega) ⟨.int ys.length, H, I.tok _, ⟨s.toks + 1, by rw [List.size_toArray, hlen]⟩, q⟩
  · obtain ⟨its, r', pl, hz⟩ := I.tuple hq
    have hlen := r'.length
    exact len_tuple pl (by simp only [List.size_toArray] <;> omega) ⟨.int ys.length, H, I.tok _, ⟨s.toks + 1, by rw [List.size_toArray, hlen]⟩, q⟩
theorem call_list_of : CallR X (.type "list") (fun xs H Q => ∃ p ys, xs = [.ref p] ∧ (SqL X.K H p ys ∨ SqT X.K H p ys) ∧ ∀ l, H l = none → Q (.ref l) (upd H l (.lst ys))) := by
  intro pins s σ H xs us Q I r h
  obtain ⟨p, ys, rfl, hq, q⟩ := h
  obtain ⟨u, rfl, rx⟩ := vals1 r
  cases rx
  have fin : ∀ (its : List Value), Vals ys its → ys.length ≤ sizeLine → ∀ (h' : Heap) (c' : Nat), (∀ b o', s.heap.get? b = some o' → h'.get? b = some o') →
      h'.get? s.heap.objs.size = some { cls := .type "list", dict := none, data := .seq its.toArray c', slots := #[] } → EP X pins σ Q (.ref s.heap.objs.size) { s with heap := h' } := fun its r' hz h' c' kp e =>
    ⟨.ref s.heap.objs.size, _, I.laid (t' := s.toks) kp (Nat.le_refl _) (show ObjOk X.prog X.w _ h' _ (.lst ys) from ⟨hz, its, c', r', e⟩), rfl, q _ (I.hok.fresh (Nat.le_refl _))⟩
  rcases hq with hq | hq
  · obtain ⟨its, r', pl, hz⟩ := I.list hq
    have hlen := r'.length
    obtain ⟨o, ho, hc, n, hd⟩ := pl.isList
    exact call_list_seq p (.inl rfl) ho hc hd (fun h' c' kp e => fin its r' hz h' c' kp e) (by simp only [List.size_toArray] <;> omega)
  · obtain ⟨its, r', pl, hz⟩ := I.tuple hq
    have hlen := r'.length
    obtain ⟨o, ho, hc, n, hd⟩ := pl
    exact call_list_seq p (.inr rfl) ho hc hd (fun h' c' kp e => fin its r' hz h' c' kp e) (by simp only [List.size_toArray] <;> omega)
theorem call_tuple_of : CallR X (.type "tuple") (fun xs H Q => ∃ p ys, xs = [.ref p] ∧ ((SqL X.K H p ys ∧ ∀ l, H l = none → Q (.ref l) (upd H l (.tup ys))) ∨ (SqT X.K H p ys ∧ Q (.ref p) H))) := by
  intro pins s σ H xs us Q I r h
  obtain ⟨p, ys, rfl, h⟩ := h
  obtain ⟨u, rfl, rx⟩ := vals1 r
  cases rx
  rcases h with ⟨hq, q⟩ | ⟨hq, q⟩
  · obtain ⟨its, r', pl, hz⟩ := I.list hq
    have hlen := r'.length
    refine call_tuple_list pl.isList (fun h' kp => ?_) (by simp only [List.size_toArray] <;> omega)
    have I1 : Inv X pins σ H { s with heap := h' } := I.kept (t' := s.toks) kp
    have I2 : Inv X pins σ (upd H h'.objs.size (.tup ys)) { s with heap := h'.push { cls := .type "tuple", data := .seq its.toArray } } :=
      I1.laid (t' := s.toks) (fun b o e => Heap.get?_push_of_some _ e) (Nat.le_refl _) (show ObjOk X.prog X.w _ _ _ (.tup ys) from ⟨hz, its, r', IsTup.new _ _⟩)
    exact ⟨.ref h'.objs.size, _, I2, rfl, q _ (I1.hok.fresh (Nat.le_refl _))⟩
  · obtain ⟨its, r', pl, hz⟩ := I.tuple hq
    exact call_tuple_same pl ⟨.ref p, H, I, rfl, q⟩

/-! ### the call of a builtin's method: o.m(..) -/
/-- the value is of that builtin type -/
def tyV (K : PySem.W.Frag) (T : String) (x : V) (H : Hp) : Prop := match x with
  | .str _ => T = "str"
  | .int _ => T = "int"
  | .ref p => (T = "list" ∧ ∃ xs, SqL K H p xs) ∨ (T = "tuple" ∧ ∃ o, K.lookup p = some o ∧ o.cls = .type "tuple" ∧ o.dict = none) ∨
      (T = "dict" ∧ ((∃ kvs, H p = some (.dK kvs)) ∨ ∃ kvs, H p = some (.dT kvs))) ∨ (T = "set" ∧ ∃ S n, H p = some (.set S n))
  | _ => False
theorem tyV_is {pins : List (Addr × Obj)} {σ : St} {H : Hp} {s : Shared} {T : String} {x : V} {v : Value} (I : Inv X pins σ H s) (r : RelV x v) (ty : tyV X.K T x H) :
    s.TypeIs v T ∧ ∀ a, v = .ref a → ∃ ob, s.heap.get? a = some ob ∧ ob.dict = none := by
  cases x with
  | str z =>
    obtain ⟨t, rfl⟩ := r
    cases (show T = "str" from ty)
    exact ⟨typeIs_str s z t, fun _ e => nomatch e⟩
  | int i =>
    obtain ⟨t, rfl⟩ := r
    cases (show T = "int" from ty)
    exact ⟨typeIs_int s i t, fun _ e => nomatch e⟩
  | ref p =>
    cases r
    rcases ty with ⟨rfl, xs, hq⟩ | ⟨rfl, o, hk, hc, hd⟩ | ⟨rfl, hk⟩ | ⟨rfl, S, n, hk⟩
    · obtain ⟨its, _, pl, _⟩ := I.list hq
      refine ⟨pl.isList.typeIs, fun a e => ?_⟩
      cases e
      obtain ⟨o, n, e, c, hd, _⟩ := pl
      exact ⟨o, e, hd⟩
    · refine ⟨⟨o, I.kIn p o hk, hc⟩, fun a e => ?_⟩
      cases e
      exact ⟨o, I.kIn _ o hk, hd⟩
    · have z : ∃ o, s.heap.get? p = some o ∧ o.ExactDict := by
        rcases hk with ⟨kvs, hk⟩ | ⟨kvs, hk⟩
        · obtain ⟨_, _, _, _, o, _, _, e, ex, _⟩ := I.hok p _ hk
          exact ⟨o, e, ex⟩
        · obtain ⟨_, _, _, _, o, _, _, e, ex, _⟩ := I.hok p _ hk
          exact ⟨o, e, ex⟩
      obtain ⟨o, e, ex⟩ := z
      refine ⟨⟨o, e, ex.1⟩, fun a e2 => ?_⟩
      cases e2
      exact ⟨o, e, ex.2.1⟩
    · obtain ⟨o, _, _, _, e, ex, _⟩ := I.hok p _ hk
      refine ⟨⟨o, e, ex.1⟩, fun a e2 => ?_⟩
      cases e2
      exact ⟨o, e, ex.2.1⟩
  | _ => exact False.elim ty
def tBM0 (K : PySem.W.Frag) (T : String) (r : V → List V → Hp → VK → Prop) (to : TE) : TE := fun σ H Q => to σ H fun x H1 => tyV K T x H1 ∧ r x [] H1 Q
def tBM (K : PySem.W.Frag) (T : String) (r : V → List V → Hp → VK → Prop) (to : TE) (t : TA) : TE := fun σ H Q => to σ H fun x H1 => tyV K T x H1 ∧ t σ H1 fun xs H2 => r x xs H2 Q
variable {o e : Expr} {es : List Expr} {to : TE} {t : TA} {name : Str} {apos cpos : Pos} {T id : String} {r : V → List V → Hp → VK → Prop}
theorem pe_bm0 (pa : PlainAttrs T) (slot : Slot T name id) (hty : typeOf (.builtin id) = pure (.type "method_descriptor")) (hm : MtR X id r) (ho : PE X o to)
    (hbase : attributeBase o name X.env (eval o X.env) = eval o X.env := by rfl) (hline : (apos.endLine == cpos.line) = true := by rfl) : PE X (.Call (.Attribute o name apos) [] [] cpos) (tBM0 X.K T r to) := by
  intro pins s σ H Q I h
  refine wpAny_Call_method0_late hbase hline (thn (ho pins s σ H _ I h) fun v s1 ⟨x, H1, I1, r1, ty, q1⟩ => ?_)
  obtain ⟨h1, h2⟩ := tyV_is I1 r1 ty
  exact ⟨T, id, pa, slot, hty, h1, h2, Calls.callWith_builtin rfl (PySem.evalArgs_none (hm pins s1 σ H1 x [] v [] Q I1 r1 .nil q1))⟩
theorem pe_bm (pa : PlainAttrs T) (slot : Slot T name id) (hty : typeOf (.builtin id) = pure (.type "method_descriptor")) (hm : MtR X id r) (ho : PE X o to) (ha : PA X (e :: es) t)
    (hbase : attributeBase o name X.env (eval o X.env) = eval o X.env := by rfl)
    (hfew : ((backTo cpos (starEach (e :: es) X.env)).all (fun x => !x.1) && (backToKw cpos (keywordEach [] X.env)).all (fun x => x.1.isSome)
      && decide ((e :: es).length + ([] : List Keyword).length + (if ([] : List Keyword).isEmpty then 0 else 1) < 30)) = true := by rfl)
    (hline : (apos.endLine == cpos.line) = true := by rfl) (hs : starEach (e :: es) X.env = (false, eval e X.env) :: starEach es X.env := by rfl) (hplain : (backTo cpos (starEach es X.env)).any (·.1) = false := by rfl) :
    PE X (.Call (.Attribute o name apos) (e :: es) [] cpos) (tBM X.K T r to t) := by
  intro pins s σ H Q I h
  refine wpAny_Call_method_late hbase hfew hline rfl (thn (ho pins s σ H _ I h) fun v s1 ⟨x, H1, I1, r1, ty, q1⟩ => ?_)
  obtain ⟨h1, h2⟩ := tyV_is I1 r1 ty
  refine ⟨T, id, pa, slot, hty, h1, h2, ?_⟩
  have hA := ha cpos pins s1 σ H1 _ I1 q1
  rw [hs] at hA ⊢
  refine Calls.callWith_builtin (by show (false || (backTo cpos (starEach es X.env)).any (·.1)) = false; rw [hplain] <;> rfl) (Calls.evalArgs_plain ?_)
  exact thn hA fun us s2 ⟨vs, H2, I2, r2, q2⟩ => hm pins s2 σ H2 x vs v us Q I2 r1 r2 q2
/- xs.append(e), list.index on a module's tuple .. are MtR facts of 06m -/
end
end L2

namespace L2
open PySem PySem.Spec PyProof.Rows

def MtM (X : Cx) (id : String) (r : V → List V → Hp → VK → Prop) : Prop :=
  ∀ (pins : List (Addr × Obj)) (s : Shared) (σ : St) (H : Hp) (x : V) (xs : List V) (v : Value) (us : List Value) (Q : VK), Inv X pins σ H s → RelV x v → Vals xs us → r x xs H Q →
    wpAny (model X.prog X.w) X.A (call (.builtin id) (v :: us)) (EP X pins σ Q) X.xe s

/-! ### lists of values -/
theorem Vals.one : ∀ {x : V} {us : List Value}, Vals [x] us → ∃ u, us = [u] ∧ RelV x u
  | _, _, .cons r .nil => ⟨_, rfl, r⟩
theorem Vals.zero : ∀ {us : List Value}, Vals [] us → us = []
  | _, .nil => rfl
theorem Vals.dropLast {xs : List V} {us : List Value} (h : Vals xs us) : Vals xs.dropLast us.dropLast := by
  induction h with
  | nil => exact .nil
  | cons r t ih =>
    cases t with
    | nil => exact .nil
    | cons q t' => exact .cons r ih
theorem erase_last {α : Type} (l : List α) : l.eraseIdx (l.length - 1) = l.dropLast := by
  induction l with
  | nil => rfl
  | cons a r ih =>
    cases r with
    | nil => rfl
    | cons b r =>
      have e : (a :: b :: r).length - 1 = ((b :: r).length - 1) + 1 := by
        have h1 : (a :: b :: r).length = r.length + 2 := rfl
        have h2 : (b :: r).length = r.length + 1 := rfl
        omega
      rw [e, List.eraseIdx_cons_succ, ih]
      all_goals rfl
section
variable {X : Cx} {pins : List (Addr × Obj)} {σ : St} {H : Hp} {s : Shared} {l b : Addr} {xs ys zs : List V}

/-! ### the two steps: a tracked list is rewritten, a new list is laid -/
theorem Inv.lset {its its' : List Value} {n : Nat} {f : Array Value → Array Value} {t' : Nat} (I : Inv X pins σ H s) (hH : H l = some (.lst xs))
    (e : s.heap.get? l = some { cls := .type "list", data := .seq its.toArray n }) (hf : f its.toArray = its'.toArray) (hv : Vals ys its') (hz : ys.length ≤ sizeLine) :
    Inv X pins σ (upd H l (.lst ys)) { s with heap := s.heap.update l (Obj.mapSeq f), toks := t' } := by
  have q := PySem.IsL.update e f
  rw [hf] at q
  refine I.write (x := l) (e := l) (by rw [hH]; exact trivial) (.inl rfl) (fun b' u hb hu => (Heap.get?_update_other s.heap (Obj.mapSeq f) (Ne.symm hb)).trans hu) ⟨_, q⟩ ?_
  exact ⟨hz, its', _, hv, q⟩
theorem Inv.lstM (I : Inv X pins σ H s) (hH : H l = some (.lst xs)) : xs.length ≤ sizeLine ∧ ∃ (its : List Value) (n : Nat), Vals xs its ∧ xs.length = its.length ∧ s.heap.get? l = some { cls := .type "list", data := .seq its.toArray n } := by
  obtain ⟨z, its, n, r, e⟩ := I.hok l _ hH
  exact ⟨z, its, n, r, r.length, e⟩

theorem notLongL {n : Nat} (h : n ≤ sizeLine) : Builtin.List.listTooLong n = false := by
  unfold Builtin.List.listTooLong
  exact decide_eq_false (by omega)
end

section
variable {X : Cx}

/-! ### methods -/
def rAppend : V → List V → Hp → VK → Prop := fun x vs H Q => ∃ l xs y, x = .ref l ∧ vs = [y] ∧ H l = some (.lst xs) ∧ xs.length < sizeLine ∧ Q .non (upd H l (.lst (xs ++ [y])))
theorem mt_append : MtM X "list.append" rAppend := by
  intro pins s σ H x vs v us Q I rx rv h
  obtain ⟨l, xs, y, rfl, rfl, hH, hz, q⟩ := h
  cases rx
  obtain ⟨u, rfl, ru⟩ := rv.one
  obtain ⟨z, its, n, r, hl, e⟩ := I.lstM hH
  refine call_meets F.slot_list_append ⟨_, e, rfl⟩ F.entry_list_append (F.args_list_append_2 _ _) (PySem.list_append l its.toArray n u (by rw [List.size_toArray]; omega)) ⟨e, ?_⟩
  refine ⟨.non, _, I.lset (its' := its ++ [u]) hH e (by simp) (r.append (.cons ru .nil)) ?_, rfl, q⟩
  rw [List.length_append, List.length_singleton]
  omega

def rExtend : V → List V → Hp → VK → Prop := fun x vs H Q => ∃ l b xs zs, x = .ref l ∧ vs = [.ref b] ∧ H l = some (.lst xs) ∧ H b = some (.lst zs) ∧ xs.length + zs.length ≤ sizeLine ∧ Q .non (upd H l (.lst (xs ++ zs)))
theorem mt_extend : MtM X "list.extend" rExtend := by
  intro pins s σ H x vs v us Q I rx rv h
  obtain ⟨l, b, xs, zs, rfl, rfl, hH, hB, hz, q⟩ := h
  cases rx
  obtain ⟨u, rfl, ru⟩ := rv.one
  cases ru
  obtain ⟨z, its, n, r, hl, e⟩ := I.lstM hH
  obtain ⟨z2, its2, n2, r2, hl2, e2⟩ := I.lstM hB
  have hsz : its.toArray.size + its2.toArray.size ≤ sizeLine := by rw [List.size_toArray, List.size_toArray]; omega
  have hlong : ¬ (!its.toArray.isEmpty && Builtin.List.listTooLong (its.toArray.size + its2.toArray.size)) = true := by
    rw [notLongL hsz, Bool.and_false]
    exact Bool.false_ne_true
  refine call_meets F.slot_list_extend ⟨_, e, rfl⟩ F.entry_list_extend (F.args_list_extend_2 _ _)
    (AutoSeq1.list_extend_list_list_0 l its.toArray n b its2.toArray n2 hlong (by rw [List.size_toArray]; omega) (by omega)) ⟨e, e2, ?_⟩
  refine ⟨.non, _, I.lset (its' := its ++ its2) hH e (by simp) (r.append r2) ?_, rfl, q⟩
  rw [List.length_append]
  omega

def rPop : V → List V → Hp → VK → Prop := fun x vs H Q => ∃ l xs y, x = .ref l ∧ vs = [] ∧ H l = some (.lst xs) ∧ xs[xs.length - 1]? = some y ∧ Q y (upd H l (.lst xs.dropLast))
theorem mt_pop : MtM X "list.pop" rPop := by
  intro pins s σ H x vs v us Q I rx rv h
  obtain ⟨l, xs, y, rfl, rfl, hH, hy, q⟩ := h
  cases rx
  have hus := rv.zero
  subst hus
  obtain ⟨z, its, n, r, hl, e⟩ := I.lstM hH
  obtain ⟨u, hu, ru⟩ := r.get hy
  have hy' : its.toArray[its.toArray.size - 1]? = some u := by
    show its.toArray[its.length - 1]? = some u
    rw [← Array.getElem?_toList, ← hl]
    exact hu
  refine call_meets F.slot_list_pop ⟨_, e, rfl⟩ F.entry_list_pop (F.args_list_pop_1 _) (MeetsSeq.list_pop_last l its.toArray n u hy' (by rw [List.size_toArray]; omega)) ⟨e, ?_⟩
  refine ⟨y, _, I.lset (its' := its.dropLast) hH e ?_ r.dropLast ?_, ru, q⟩
  · show its.toArray.eraseIdxIfInBounds (its.toArray.size - 1) = its.dropLast.toArray
    rw [List.size_toArray, List.eraseIdxIfInBounds_toArray, erase_last]
  · rw [List.length_dropLast]
    omega

/-! ### list + list, list += list, list * int -/
/-! ### del xs[i] -/
end

/-! ### xs[a:b] = ys -/
section
variable {prog : Program} {w : World} {A : Around} {E : Value → Shared → Prop} {s : Shared}
end

section
variable {X : Cx}
end
end L2

namespace Att
open PySem PySem.W PySem.Calls PyProof.Rows

/-! ### the script -/
theorem ints_of_wellAll {P : Params} {h : Heap} : ∀ (ns : List Int) (vs : List Value), WellAll P h vs (ns.map WData.int) → IntsAre vs ns := by
  intro ns
  induction ns with
  | nil =>
    intro vs w
    rw [List.map_nil] at w
    cases w
    exact .nil
  | cons n ns ih =>
    intro vs w
    rw [List.map_cons] at w
    cases w with
    | cons a b =>
      cases a
      exact .cons _ _ (ih _ b)

theorem script_of {l : OpenLaw} {n : Nat} (hn : l.most = some n) {P : Params} {h : Heap} {args : List WData} {vals : List Value}
    (hpre : l.row.toRowW.claim.pre args = true) (hwl : WellAll P h vals args) :
    ∃ a vs ns, vals = [Value.ref a] ∧ args = [WData.list (ns.map WData.int)] ∧ h.get? a = some { cls := .type "list", data := .seq vs.toArray } ∧ IntsAre vs ns ∧ ns.length ≤ n := by
  have hsh : WShape.hasAll [] args [.list .int] = true := (pre_splitW hpre).1
  have hc : l.pre.holds [] { args := args } = true := (pre_splitW hpre).2
  obtain ⟨d, r, rfl, h1, h2⟩ := hasAllW_cons hsh
  obtain rfl := hasAllW_nil h2
  obtain ⟨xs, rfl, h3⟩ := hasW_list h1
  obtain ⟨ns, rfl⟩ := items_int h3
  have hlen : ns.length ≤ n := by
    unfold OpenLaw.pre at hc
    have h4 : (WTm.not (.lt (.lit (.int (n : Int))) (.len (.arg 0)))).holds [] { args := [.list (ns.map .int)] } = true := by
      have h4 := (holds_andW hc).1
      rw [hn] at h4
      exact h4
    have h5 := condW_of h4 (w_not (w_lt w_lit (w_len_list (w_arg rfl))))
    rw [List.length_map] at h5
    refine Nat.le_of_not_lt fun q => ?_
    have q' : (n : Int) < ((ns.length : Nat) : Int) := by omega
    first
      | (rw [decide_eq_true q'] at h5; exact absurd h5 (by decide))
      | (simp at h5; omega)
  cases hwl with
  | cons w1 w2 =>
    cases w2
    cases w1 with
    | list ho hall => exact ⟨_, _, ns, rfl, rfl, ho, ints_of_wellAll ns _ hall, hlen⟩

theorem post_true (l : OpenLaw) (args : List WData) : l.row.toRowW.claim.post args (.bool true) args = true :=
  postW_of (r := l.row.toRowW) (X := (true == true))
    (show WShape.has [] (.bool true) .bool = true by first | rfl | decide | simp [WShape.has, WShape.arms, WShape.armsAll])
    (show (WTm.eq .res (.lit (.bool true))).value [] { args := args, res := some (.bool true), after := args } = some (.bool (true == true)) from w_eq_bool (w_res rfl) w_lit) rfl

/-! ### the attachment: holds_open's last premise (the goal 'hc' behind k_head) from a wpAny of the law's body -/
/-- the same from a codeAny of the CALL (for a layer whose function contracts speak of calls) -/
theorem attach_call {l : OpenLaw} {n : Nat} {q : Program} {loose : List Str} {XP : (Str → Option Value) → Heap → Prop} {YP : World → Heap → Prop} {d : DefRec}
    (hn : l.most = some n) (hdf : d.params.defaults = [])
    (call : ∀ (w : World) (s₀ s₁ : Shared) (mg mb : Str → Option Value) (fa : Addr) (o : Obj) (pm cd doc : Value) (a : Addr) (vs : List Value) (ns : List Int),
      Ground q loose [] XP w s₀ mg mb s₁.heap → YP w s₁.heap →
      s₁.heap.get? fa = some o → o.data = .func (docDef d.name d.params d.body d.scope pm cd doc) → s₁.heap.CodeRec cd d.name → mg d.name = some (.ref fa) →
      s₁.heap.get? a = some { cls := .type "list", data := .seq vs.toArray } → IntsAre vs ns → ns.length ≤ n → s₁.gens = #[] →
      codeAny (model l.prog w) callerA (.call (.ref fa) ⟨[.ref a], []⟩) (fun r s' => r = .ok (.ret (.bool true)) ∧ OldK s₁.heap s'.heap ∧ s'.os = s₁.os ∧ AllBare s'.gens) s₁) :
    WalkO q loose XP YP l.row.toRowW d [] (fun f vs => PySem.call f vs) := by
  intro w s₀ s₁ mg mb G Y fa o pm cd doc dV kV ho hd hcd hD hmg hg args vals as hpre hlay hrd hwl hlo
  obtain rfl : dV = .none := Dflts.none hD hdf
  obtain rfl : kV = .none := Dflts.noKw hD
  obtain ⟨a, vs, ns, rfl, rfl, hobj, hints, hlen⟩ := script_of hn hpre hwl
  refine enter_call (codeAny_mono (call w s₀ s₁ mg mb fa o pm cd doc a vs ns G Y ho (fd_plain hd) hcd hmg hobj hints hlen hg) fun r s' hq => ?_)
  obtain ⟨rfl, h2, h3, h4⟩ := hq
  exact ⟨.inl ⟨.bool true, .bool true, [], rfl, fun _ => rfl, .bool true, post_true l _, fun _ => ⟨List.Pairwise.nil, fun _ hm => (nomatch hm)⟩⟩, h2, h3, h4⟩

/-! ### rules over ANY heap (no ledger) from facts about the written part K: the library's own take a ledger (News) for what they write -/
section
variable {prog : Program} {w : World} {A : Around} {E : Value → Shared → Prop} {s : Shared} {K : Frag}

/-! the whole heap as the ledger: makes every rule that writes through a ledger a rule over any heap -/
def ledger (h : Heap) (L d : Addr) : List (Addr × Obj) := (List.range h.objs.size).filterMap fun a => if a = L ∨ a = d then none else (h.get? a).map fun o => (a, o)
end
end Att

namespace L2
open PySem PySem.Spec PyProof.Rows

theorem vals_ints : ∀ {vs : List Value} {ns : List Int}, IntsAre vs ns → Vals (ns.map V.int) vs
  | _, _, .nil => .nil
  | _, _, .cons n t h => .cons ⟨t, rfl⟩ (vals_ints h)

/-- nothing is tracked but the script, known to the object (or it is an object of the module) -/
def Only (H : Hp) : Prop := ∀ b, H b = none ∨ ∃ o xs, H b = some (.frz o (.lst xs))

/-- THE HEAD: the law's promise, at the heap behind the top. F, the promise of the law's def, may use that base is part of the heap (so K.In base, base.Ns mainGlobals mg stand in Mod) -/
theorem law_call {P : Program} {w : World} {K : PySem.W.Frag} {mg mb : Str → Option Value} {CX : CXT} {k : Nat} {fa a : Addr} {fd : FuncData} {x : Str} {sp : Sp} {s₁ : Shared} {vs : List Value} {ns : List Int}
    (KX : K.In s₁.heap) (hns : s₁.heap.Ns mainGlobals mg) (hb : s₁.heap.Ns builtinsNs mb) (hbb : ∀ x : Str, x ≠ "__name__" → mb x = bootBuiltins x) (hlim : s₁.heap.NoLimit) (hg : s₁.gens = #[])
    (ha : s₁.heap.get? a = some { cls := .type "list", data := .seq vs.toArray }) (hi : IntsAre vs ns) (hl : ns.length ≤ sizeLine) (hr : Room k callerA)
    (F : ∀ base : Heap, K.In base → base.Ns mainGlobals mg → FnOk P w K mg base CX k fa fd [x] sp) (hbind : ∀ (s : Shared) (u : Value), BindsTo s fd ⟨[u], []⟩ [(x, u)])
    (hsp : ∀ H : Hp, Only H → SqL K H a (ns.map V.int) → sp [.ref a] H (fun v _ => v = .bl true) fun _ _ _ => False)
    (hCX : ∀ H e s', CX [] H s₁ (fun _ _ _ => False) e s' → False) :
    codeAny (model P w) callerA (.call (.ref fa) ⟨[.ref a], []⟩) (fun r s' => r = .ok (.ret (.bool true)) ∧ OldK s₁.heap s'.heap ∧ s'.os = s₁.os ∧ AllBare s'.gens) s₁ := by
  have rv := vals_ints hi
  have lenV := hi.length
  -- from an abstract heap in which nothing but the script may be tracked
  have core : ∀ H : Hp, Only H → SqL K H a (ns.map V.int) → HOk P w H s₁.heap → (∀ b, H b ≠ none → b = a) → (H a ≠ none → K.lookup a = none) →
      codeAny (model P w) callerA (.call (.ref fa) ⟨[.ref a], []⟩) (fun r s' => r = .ok (.ret (.bool true)) ∧ OldK s₁.heap s'.heap ∧ s'.os = s₁.os ∧ AllBare s'.gens) s₁ := by
    intro H hO hS hok hA hK
    have base_of : ∀ {b : Addr} {o : Obj}, s₁.heap.get? b = some o → H b = none → (hidT s₁.heap H).get? b = some o := fun e n => hidT_get e n
    have noA : ∀ {b : Addr} {o : Obj} {es : Array DictEntry} {ep : Nat}, s₁.heap.get? b = some o → o.data = .dict es ep → H b = none := fun {b o es ep} e d => by
      cases q : H b with
      | none => rfl
      | some u =>
        have e' : b = a := hA b (by rw [q]; simp)
        subst e'
        rw [ha] at e; cases e
        have d' : Data.seq vs.toArray _ = Data.dict es ep := d
        cases d'
    have nsK : ∀ {b : Addr} {m : Str → Option Value}, s₁.heap.Ns b m → (hidT s₁.heap H).Ns b m := fun {b m} ⟨o, es, ep, e, d, r⟩ => ⟨o, es, ep, base_of e (noA e d), d, r⟩
    have hKb : K.In (hidT s₁.heap H) := fun b o e => base_of (KX b o e) (by
      cases q : H b with
      | none => rfl
      | some u =>
        have e' : b = a := hA b (by rw [q]; simp)
        subst e'
        rw [hK (by rw [q]; simp)] at e; cases e)
    have hM : Mod K mg (hidT s₁.heap H) := ⟨hKb, nsK hns, ⟨mb, nsK hb, hbb⟩, let ⟨mc, h1, h2⟩ := hlim; ⟨mc, nsK h1, h2⟩⟩
    have e0 : Env0 P w K mg (hidT s₁.heap H) callerA [] s₁ H := ⟨rfl, hM, fun b o e => of_hidT e, Nat.le_of_eq (hidT_size _ _), trivial, fun b hb => absurd (show b ∈ ([] : List Addr) from hb) (by simp), hok, .of_eq hg⟩
    refine codeAny_mono ((F _ hKb (nsK hns)).run callerA [] s₁ H ⟨[.ref a], []⟩ [.ref a] [.ref a] _ _ hr e0 (hbind s₁ (.ref a)) (.cons rfl .nil) (hsp H hO hS)) fun r s' h => ?_
    cases r with
    | error e => exact (hCX H e s' h).elim
    | ok fl =>
      cases fl with
      | next => exact False.elim h
      | brk => exact False.elim h
      | cont => exact False.elim h
      | ret u =>
        obtain ⟨v, H', os, bare, un, hok', r', q⟩ := h
        have q' : v = .bl true := q
        subst q'
        obtain rfl : u = Value.bool true := r'
        refine ⟨rfl, OldK.of_keep fun b o e => ?_, os, bare⟩
        cases q : H b with
        | none => exact un.keep b o e q (by intro z; exact absurd (show b ∈ ([] : List Addr) from z) (by simp)) (by simp)
        | some u =>
          rcases hO b with z | ⟨ob, xs, z⟩
          · rw [q] at z; cases z
          · have z2 := un.frzs b ob _ z
            obtain ⟨e1, _⟩ := hok b _ z
            obtain ⟨e2, _⟩ := hok' b _ z2
            rw [e] at e1; cases e1
            exact e2
  cases hk : K.lookup a with
  | some o =>
    -- the script is one of the module's own objects
    have e := KX a o hk
    rw [ha] at e
    cases e
    refine core (fun _ => none) (fun _ => .inl rfl) (.inr ⟨_, vs.toArray, _, hk, rfl, rfl, rfl, by rw [List.size_toArray, lenV]; exact hl, by simpa using rv⟩) (fun b u z => by have z' : (none : Option HO) = some u := z; cases z') (fun b z => absurd rfl z) fun z => absurd rfl z
  | none =>
    refine core (fun b => if b = a then some (.frz { cls := .type "list", data := .seq vs.toArray } (.lst (ns.map V.int))) else none) (fun b => ?_) (.inl (.inr ⟨{ cls := .type "list", data := .seq vs.toArray }, if_pos rfl⟩)) (fun b u z => ?_) (fun b z => ?_) fun _ => hk
    · by_cases hb : b = a
      · exact .inr ⟨_, _, if_pos hb⟩
      · exact .inl (if_neg hb)
    · by_cases hb : b = a
      · have z' := (if_pos hb).symm.trans z
        cases z'
        subst hb
        exact ⟨ha, by rw [List.length_map]; exact hl, vs, _, rv, ha⟩
      · have z' := (if_neg hb).symm.trans z
        cases z'
    · by_cases hb : b = a
      · exact hb
      · exact absurd (if_neg hb) z
end L2

namespace L2
open PySem PySem.Spec PyProof.Rows

abbrev KOf {K : PySem.W.Frag} {h : Heap} (_ : K.In h) : PySem.W.Frag := K

/-- the goal that k_head leaves (case hc), from the law's promise. F gives the function object fd (K's own) once, then the promise over every base -/
theorem walk_of {l : PySem.W.OpenLaw} {n k : Nat} {q : Program} {loose : List Str} {XP : (Str → Option Value) → Heap → Prop} {YP : World → Heap → Prop} {d : DefRec} {K : Params → PySem.W.Frag} {CX : World → CXT} {sp : World → Sp} {x : Str}
    (hn : l.most = some n) (hn2 : n ≤ sizeLine) (hdf : d.params.defaults = []) (hr : Room k callerA)
    (hY : ∀ (w : World) (h : Heap), YP w h → (K w.params).In h)
    (F : ∀ (w : World) (mg : Str → Option Value) (fa : Addr) (h : Heap), (K w.params).In h → h.Ns mainGlobals mg → mg d.name = some (.ref fa) →
      ∃ fd : FuncData, (∀ (s : Shared) (u : Value), BindsTo s fd ⟨[u], []⟩ [(x, u)]) ∧
        ∀ base : Heap, (K w.params).In base → base.Ns mainGlobals mg → FnOk l.prog w (K w.params) mg base (CX w) k fa fd [x] (sp w))
    (hsp : ∀ (w : World) (H : Hp) (a : Addr) (ns : List Int), ns.length ≤ n → Only H → SqL (K w.params) H a (ns.map V.int) → sp w [.ref a] H (fun v _ => v = .bl true) fun _ _ _ => False)
    (hCX : ∀ (w : World) (H : Hp) (s : Shared) (e : Value) (s' : Shared), CX w [] H s (fun _ _ _ => False) e s' → False) :
    PySem.W.WalkO q loose XP YP l.row.toRowW d [] (fun f vs => PySem.call f vs) := by
  refine Att.attach_call hn hdf fun w s₀ s₁ mg mb fa o pm cd doc a vs ns G Y ho hd hcd hmg hobj hints hlen hg => ?_
  have KX := hY w _ Y
  obtain ⟨fd, hb, hF⟩ := F w mg fa _ KX G.T.g hmg
  exact law_call KX G.T.g G.T.b G.T.builtins G.T.nolimit hg hobj hints (Nat.le_trans hlen hn2) hr hF hb (fun H hO hS => hsp w H a ns hlen hO hS) fun H e s' => hCX w H s₁ e s'
end L2

/- THE LAST THEOREM (shape; LID, My.* are yours):
   My.Adr: a structure of the addresses that your layer names (classes, functions); My.Txt K t: a structure (Prop) of the equations over K;
   My.txt_mk : {K} {implicit addresses ..} (e1 : nsIn K mainGlobals "law" = some (some (.ref f))) (e2 : K.lookup f = some ⟨oc, od, .func (fnOf "law" "law" params body scope dV kV doc pm an cdv ct), sl⟩) (e3 : codeIn K cdv "law" = true) .. : ∃ t, My.Txt K t

set_option maxRecDepth 100000 in
set_option maxHeartbeats 0 in
theorem PySem.Challenge.cw_LID_holds : PySem.Challenge.rw_LID.Holds := by
  w_on; o_law; k_head; (case hw => w_witness2)
  k_fill
  refine L2.walk_of (l := PySem.Challenge.rw_LID) (n := 63) (k := 40) (x := "script") (CX := fun w => ..) (sp := fun _ => My.sp_law) rfl (by decide) rfl ⟨rfl, by decide, by decide⟩ (fun w h Y => PySem.W.kIn_of Y) ?F ?S ?C
  case F =>
    intro w mg fa h KX G hmg
    have T : ∃ t, My.Txt (L2.KOf KX) t := by
      dsimp only [L2.KOf]                          -- K must stand as «<heap const> w.params» for k_is
      refine' My.txt_mk ?e1 ?e2 ?e3 ..
      (case e1 => PySem.W.k_is)                    -- in the order: a name -> its address -> its object -> its parts
      (case e2 => PySem.W.k_is)
      ..
    obtain ⟨t, T⟩ := T
    have e0 := hmg.symm.trans (PySem.W.mg_of KX G T.law)
    cases e0                                       -- fa is the law's own address
    exact ⟨_, fun s u => .of_eq rfl, fun base kb nb => My.law_fn T kb nb⟩     -- if «.of_eq rfl» comes too early: refine' ⟨_, ?b, fun base kb nb => My.law_fn T kb nb⟩; exact fun s u => .of_eq rfl
  case S => exact fun w H a ns hl hO hS => ..
  case C => exact ..
(the tactic k_is has no namespace: write k_is) -/

/-! SHORT WORDS over the layer: a def of the text, its body, what a loop and a test want. -/
namespace L2
open PySem PySem.Spec PyProof.Rows

/-! ### the text by places -/
def defArgs (s : Stmt) : Arguments := match s with
  | .FunctionDef _ a _ _ _ _ _ _ _ _ => a
  | _ => { posonlyargs := [], args := [], vararg := none, kwonlyargs := [], kw_defaults := [], kwarg := none, defaults := [] }
def defBody (s : Stmt) : List Stmt := match s with
  | .FunctionDef _ _ b _ _ _ _ _ _ _ => b
  | _ => []
def defScope (s : Stmt) : Scope := match s with
  | .FunctionDef _ _ _ _ _ _ sc _ _ _ => sc
  | _ => { kind := .function, names := [], isGenerator := false, isCoroutine := false }

/-! ### no exception leaves a def -/
abbrev CX0 : CXT := fun _ _ _ _ _ _ => False
abbrev E0 : XK := fun _ _ _ => False
theorem pass0 {X : Cx} : Passes CX0 X E0 := fun _ _ _ _ _ _ _ h => h.elim

/-! ### a def (or method) of the text as it stands behind the top -/
structure Fun (K : PySem.W.Frag) (x qual : Str) (st : Stmt) (f : Addr) (fd : FuncData) : Prop where
  ex : ∃ (oc : Value) (od : Option Addr) (kV doc pm : Value) (an : Option Addr) (cdv ct : Value) (osl : Array (Option Value)),
    fd = PySem.W.fnOf x qual (defArgs st) (defBody st) (defScope st) .none kV doc pm an cdv ct ∧ K.lookup f = some ⟨oc, od, .func fd, osl⟩ ∧ PySem.W.codeIn K cdv qual = true
  kp : PySem.W.keepIn K (.ref f) = true
section
variable {P : Program} {w : World} {K : PySem.W.Frag} {mg : Str → Option Value} {base : Heap}
/-- THE RULE for a def: its body as a term of rules, and the reading of that term -/
theorem Fun.ok {x qual : Str} {st : Stmt} {f : Addr} {fd : FuncData} {N ps : List Str} {k : Nat} {sp : Sp} (F : Fun K x qual st f fd) (S : FnScope N ps (defScope st)) (len : ∀ vs H Q E, sp vs H Q E → vs.length = ps.length)
    (hbody : ∀ (cdv : Value) (A : Around) (outer : List Env) (s : Shared) (H : Hp) (vs : List V) (Q : VK) (E : XK), Room k (A.deeper (envOfC qual (defScope st) s.heap.objs.size f cdv)) → sp vs H Q E →
      ∃ t, PSs (cxOf CX0 P w K mg base N qual (defScope st) f cdv A outer s H E).nox (defBody st) t ∧ t { nx := fun _ H' => Q .non H', rt := Q } (start N vs) H) : FnOk P w K mg base CX0 (k + 1) f fd ps sp := by
  obtain ⟨oc, od, kV, doc, pm, an, cdv, ct, osl, rfl, lk, hcd⟩ := F.ex
  refine fn_of lk hcd S len fun A outer s H vs Q E hr hsp => ?_
  obtain ⟨t, h, q⟩ := hbody cdv A outer s H vs Q E hr hsp
  exact ⟨t, h.nox, q⟩
/-- how its arguments bind (no defaults): h is «fun _ _ _ _ _ _ us hl => match us, hl with | [_, _], _ => rfl», one _ a parameter -/
theorem Fun.binds {x qual : Str} {st : Stmt} {f : Addr} {fd : FuncData} {ps : List Str} (F : Fun K x qual st f fd)
    (h : ∀ (kV doc pm : Value) (an : Option Addr) (cdv ct : Value) (us : List Value), us.length = ps.length → bindArgs (PySem.W.fnOf x qual (defArgs st) (defBody st) (defScope st) .none kV doc pm an cdv ct) ⟨us, []⟩ = pure (ps.zip us)) : Binds K fd ps [] := by
  obtain ⟨oc, od, kV, doc, pm, an, cdv, ct, osl, rfl, lk, hcd⟩ := F.ex
  exact .all (h kV doc pm an cdv ct)
theorem fun_mk {x qual : Str} {st : Stmt} {f : Addr} {oc : Value} {od an : Option Addr} {osl : Array (Option Value)} {kV doc pm cdv ct : Value} (l : K.lookup f = some ⟨oc, od, .func (PySem.W.fnOf x qual (defArgs st) (defBody st) (defScope st) .none kV doc pm an cdv ct), osl⟩)
    (c : PySem.W.codeIn K cdv qual = true) (k : PySem.W.keepIn K (.ref f) = true) : Fun K x qual st f (PySem.W.fnOf x qual (defArgs st) (defBody st) (defScope st) .none kV doc pm an cdv ct) := ⟨⟨oc, od, kV, doc, pm, an, cdv, ct, osl, rfl, l, c⟩, k⟩
end
theorem hu_of {A : Around} {k : Nat} (hr : Room k A) : A.units + 1 < cLine := Nat.lt_of_le_of_lt (Nat.add_le_add_left (by decide : 1 ≤ 64) _) hr.units
theorem small1000 {n : Nat} (h : n ≤ 1000) : n < sizeLine := Nat.lt_of_le_of_lt h (by decide)

/-! ### expressions in short: the name that stands in the i-th slot -/
section
variable {X : Cx}
theorem pv (i : Nat) {x : Str} {pos : Pos} (hN : X.N[i]? = some x := by rfl) (hv : Vis X.env.scope x := by first | exact Or.inl rfl | exact Or.inr (Or.inl rfl) | exact Or.inr (Or.inr rfl)) (hd : (x == ("__debug__" : Str)) = false := by decide)
    (hcd : (x == ("__classdict__" : Str)) = false := by decide) : PE X (.Name x pos) (tVar i) := pe_var hN hv hd hcd
end

/-! ### tests -/
theorem ite2 {c A B : Prop} [Decidable c] (h1 : c → A) (h2 : ¬ c → B) : if c then A else B := by
  by_cases h : c
  · rw [if_pos h]
    exact h1 h
  · rw [if_neg h]
    exact h2 h
/-! ### heaps -/
/-- all that was tracked is as it was -/
def Same (H H' : Hp) : Prop := ∀ b o, H b = some o → H' b = some o
theorem Same.refl (H : Hp) : Same H H := fun _ _ h => h
theorem Same.trans {H H1 H2 : Hp} (a : Same H H1) (b : Same H1 H2) : Same H H2 := fun c o h => b c o (a c o h)
theorem Same.seq {K : PySem.W.Frag} {H H' : Hp} {a : Addr} {xs : List V} (e : Same H H') (h : SqL K H a xs) : SqL K H' a xs := by
  rcases h with (h | ⟨o, h⟩) | h
  · exact .inl (.inl (e _ _ h))
  · exact .inl (.inr ⟨o, e _ _ h⟩)
  · exact .inr h

end L2


namespace L2
open PySem PySem.Spec PyProof.Rows

end L2

namespace L2
open PySem PySem.Spec PyProof.Rows

section
variable (P : Program) (w : World)
end

section
variable {P : Program} {w : World} {H H' : Hp} {h h' : Heap} {a : Addr} {o : HO}
end

section
variable {P : Program} {w : World} {H : Hp} {h h' : Heap} {x e : Addr} {o' : HO}
end

section
variable {fs fs' ex ex' : List Addr} {H H1 H2 : Hp} {h h1 h2 h' : Heap} {a x e : Addr} {o : HO}
end

end L2

namespace L2
open PySem PySem.Spec PyProof.Rows

section
variable {X : Cx} {pins : List (Addr × Obj)} {σ : List (Option V)} {H H' : Hp} {s : Shared} {h' : Heap}

end

end L2

namespace L2
open PySem PySem.Spec PyProof.Rows
section
variable {X : Cx}

variable {a b : Expr} {ta tb : TE} {pos : Pos}
variable {tA tB' : TT} {rest : List Expr}
end
end L2

namespace L2
open PySem PySem.Spec PyProof.Rows

section
variable {X : Cx} {pins : List (Addr × Obj)} {σ : St} {H : Hp} {s : Shared} {a : Addr} {xs ys : List V}
end

section
variable {X : Cx} {pins : List (Addr × Obj)} {σ : St} {H : Hp} {s : Shared} {E : Value → Shared → Prop}
end

section
variable {X : Cx} {st : Stmt} {rest : List Stmt} {t u : TS} {e : Expr} {te : TE} {pos : Pos}
end

section
variable {X : Cx} {pos : Pos}
end

section
variable {X : Cx} {pos : Pos}
end

end L2

namespace L2
open PySem PySem.Spec PyProof.Rows
section
variable {X : Cx} {tg : Expr}
end

end L2

namespace L2
open PySem PySem.Spec PyProof.Rows

section
variable {X : Cx} {a b c : Expr} {ta tb tc : TE} {pos : Pos}

end

section
variable {X : Cx} {a b c : Expr} {ta tb tc : TE} {pos : Pos}
end
end L2

namespace L2
open PySem PySem.Spec PyProof.Rows

section
variable {prog : Program} {w : World} {A : Around} {E : Value → Shared → Prop} {s : Shared} {K : PySem.W.Frag} {x dx C f : Addr} {mA : Str → Option Value} {name : Str} {v : Value}

end

section
variable {P : Program} {w : World} {H H' : Hp} {h h' : Heap} {a C dx : Addr} {fs fs' : List (Str × V)}
end

section
variable {X : Cx} {pins : List (Addr × Obj)} {σ : St} {H : Hp} {s : Shared} {a C dx : Addr} {fs : List (Str × V)} {f : Str} {v : V} {A : Around} {E : Value → Shared → Prop}

end

section
variable {X : Cx} {o e value : Expr} {f : Str} {pos pos' tpos : Pos} {ta tv : TE}
end

section
variable {X : Cx} {pins : List (Addr × Obj)} {σ : St} {H : Hp} {s : Shared} {A : Around} {E : Value → Shared → Prop} {Q : Value → Shared → Prop} {c : Value} {b : Bool}
end
end L2

namespace L2
open PySem PySem.Spec PyProof.Rows

section
variable {X : Cx} {e : Expr} {es : List Expr} {te : TE} {t : TA} {pos : Pos}
end

section
variable {X : Cx} {pins : List (Addr × Obj)} {σ : St} {H : Hp} {s s' : Shared}
end

section
variable {X : Cx} {CX : CXT} {k : Nat} {f C : Addr} {fd : FuncData} {ps : List Str} {sp : Sp} {dvs : List V} {ds : List Value} {E : XK} {x m : Str} {p pos apos : Pos} {e o : Expr} {es : List Expr} {ta : TE} {t : TA}

end

section
variable {X : Cx} {CX : CXT} {k : Nat} {f C : Addr} {fd : FuncData} {ps ks : List Str} {sp : Sp} {E : XK} {x m : Str} {p pos apos kpos : Pos} {e o : Expr} {es : List Expr} {kws : List Keyword} {te ta : TE} {t tk : TA} {nm : Option Str}
variable {g : List Value → List Value → List Value} {gV : List V → List V → List V}
end

end L2

namespace L2
open PySem PySem.Spec PyProof.Rows
section
variable {X : Cx} {x : Str} {p pos : Pos} {e : Expr} {es : List Expr} {t : TA} {id T : String} {r : List V → Hp → VK → Prop}

end
end L2

namespace L2
open PySem PySem.Spec PyProof.Rows

section
variable {κ : Type} [DecidableEq κ]
def valV (kvs : List (κ × V)) (k : κ) : Option V := (kvs.find? fun kv => decide (kv.1 = k)).map (·.2)
/-- in its place, or at the end -/
def putK (kvs : List (κ × V)) (k : κ) (v : V) : List (κ × V) :=
  if (kvs.any fun kv => decide (kv.1 = k)) = true then kvs.map (fun kv => if kv.1 = k then (kv.1, v) else kv) else kvs ++ [(k, v)]
def dropK (kvs : List (κ × V)) (k : κ) : List (κ × V) := kvs.filter fun kv => decide (kv.1 ≠ k)

theorem valV_pos {p : κ × V} {r : List (κ × V)} {k : κ} (e : p.1 = k) : valV (p :: r) k = some p.2 := by simp [valV, List.find?_cons, e]
theorem valV_neg {p : κ × V} {r : List (κ × V)} {k : κ} (e : ¬ p.1 = k) : valV (p :: r) k = valV r k := by simp [valV, List.find?_cons, e]
theorem valV_any (k : κ) : ∀ kvs : List (κ × V), (kvs.any fun kv => decide (kv.1 = k)) = (valV kvs k).isSome
  | [] => rfl
  | p :: r => by
    rw [List.any_cons]
    by_cases e : p.1 = k
    · simp only [valV_pos e, decide_eq_true e, Bool.true_or, Option.isSome_some]
    · rw [valV_neg e, decide_eq_false e, Bool.false_or]; exact valV_any k r
theorem valV_map (k j : κ) (y : V) : ∀ kvs : List (κ × V), valV (kvs.map fun kv => if kv.1 = k then (kv.1, y) else kv) j = (valV kvs j).map fun x => if j = k then y else x
  | [] => rfl
  | p :: r => by
    have ih := valV_map k j y r
    rw [List.map_cons]
    by_cases h : p.1 = k
    · rw [if_pos h]
      by_cases e : p.1 = j
      · rw [valV_pos (p := (p.1, y)) e, valV_pos e, Option.map_some, if_pos (e.symm.trans h)]
      · rw [valV_neg (p := (p.1, y)) e, valV_neg e, ih]
    · rw [if_neg h]
      by_cases e : p.1 = j
      · rw [valV_pos (p := p) e, valV_pos e, Option.map_some, if_neg (fun z => h (e.trans z))]
      · rw [valV_neg (p := p) e, valV_neg e, ih]
theorem valV_snoc (k j : κ) (y : V) : ∀ kvs : List (κ × V), valV kvs k = none → valV (kvs ++ [(k, y)]) j = if j = k then some y else valV kvs j
  | [], _ => by
    by_cases e : k = j
    · rw [if_pos e.symm]; exact valV_pos (p := (k, y)) e
    · rw [if_neg (fun z => e z.symm)]; exact valV_neg (p := (k, y)) e
  | p :: r, hn => by
    rw [List.cons_append]
    have hk : ¬ p.1 = k := fun z => by rw [valV_pos z] at hn; cases hn
    rw [valV_neg hk] at hn
    have ih := valV_snoc k j y r hn
    by_cases e : p.1 = j
    · rw [valV_pos e, valV_pos e, if_neg (fun z => hk (e.trans z))]
    · rw [valV_neg e, valV_neg e, ih]
theorem valV_put (kvs : List (κ × V)) (k j : κ) (y : V) : valV (putK kvs k y) j = if j = k then some y else valV kvs j := by
  unfold putK
  by_cases a : (kvs.any fun kv => decide (kv.1 = k)) = true
  · rw [if_pos a, valV_map]
    rw [valV_any] at a
    by_cases e : j = k
    · obtain ⟨x, hx⟩ := Option.isSome_iff_exists.mp a
      rw [if_pos e, e, hx, Option.map_some, if_pos rfl]
    · rw [if_neg e]
      cases valV kvs j with
      | none => rfl
      | some x => rw [Option.map_some, if_neg e]
  · rw [if_neg a]
    refine valV_snoc k j y kvs ?_
    rw [valV_any] at a
    cases q : valV kvs k with
    | none => rfl
    | some x => rw [q] at a; exact (a rfl).elim
theorem length_putK (kvs : List (κ × V)) (k : κ) (v : V) : (putK kvs k v).length ≤ kvs.length + 1 := by
  unfold putK
  split
  · rw [List.length_map]; omega
  · rw [List.length_append, List.length_cons, List.length_nil]; omega
theorem RelO.isSome_eq {o : Option V} {u : Option Value} (r : RelO o u) : o.isSome = u.isSome := by
  cases o with
  | none => cases u with
    | none => rfl
    | some _ => exact (show False from r).elim
  | some _ => cases u with
    | none => exact (show False from r).elim
    | some _ => rfl
/-- raw tables of the same keys -/
theorem KV.val {kvs : List (κ × V)} {vs : List (κ × Value)} (r : KV kvs vs) (k : κ) : RelO (valV kvs k) (valueAt vs k) := by
  unfold KV at r
  induction r with
  | nil => exact True.intro
  | @cons p q ps qs h t ih =>
    obtain ⟨h1, h2⟩ := h
    by_cases e : p.1 = k
    · have e' : q.1 = k := h1.symm.trans e
      have b : valueAt (q :: qs) k = some q.2 := by simp [valueAt, List.find?_cons, e']
      rw [valV_pos e, b]; exact h2
    · have e' : ¬ q.1 = k := fun z => e (h1.trans z)
      have b : valueAt (q :: qs) k = valueAt qs k := by simp [valueAt, List.find?_cons, e']
      rw [valV_neg e, b]; exact ih
theorem KV.any {kvs : List (κ × V)} {vs : List (κ × Value)} (r : KV kvs vs) (k : κ) : (kvs.any fun kv => decide (kv.1 = k)) = vs.any fun kv => decide (kv.1 = k) := by
  unfold KV at r
  induction r with
  | nil => rfl
  | cons h t ih => rw [List.any_cons, List.any_cons, ih, h.1]
theorem KV.repl {kvs : List (κ × V)} {vs : List (κ × Value)} (r : KV kvs vs) (k : κ) {y : V} {u : Value} (ry : RelV y u) :
    KV (kvs.map fun kv => if kv.1 = k then (kv.1, y) else kv) (vs.map fun kv => if kv.1 = k then (kv.1, u) else kv) := by
  unfold KV at r ⊢
  induction r with
  | nil => exact .nil
  | @cons p q ps qs h t ih =>
    rw [List.map_cons, List.map_cons]
    refine .cons ?_ ih
    obtain ⟨h1, h2⟩ := h
    by_cases e : p.1 = k
    · rw [if_pos e, if_pos (h1.symm.trans e)]; exact ⟨h1, ry⟩
    · rw [if_neg e, if_neg (fun z => e (h1.trans z))]; exact ⟨h1, h2⟩
theorem KV.put {kvs : List (κ × V)} {vs : List (κ × Value)} (r : KV kvs vs) (k : κ) {y : V} {u : Value} (ry : RelV y u) : KV (putK kvs k y) (stored vs k u) := by
  unfold putK stored
  rw [r.any k]
  by_cases e : (vs.any fun kv => decide (kv.1 = k)) = true
  · rw [if_pos e, if_pos e]; exact r.repl k ry
  · rw [if_neg e, if_neg e]; exact Paired.snoc r ⟨rfl, ry⟩
theorem KV.length {kvs : List (κ × V)} {vs : List (κ × Value)} (r : KV kvs vs) : kvs.length = vs.length := Paired.length r
end


theorem kV_is {P : Program} {w : World} {k : Key} {u : Value} (r : RelV (kV k) u) : (mixKind P w).is k u = true := by
  cases k with
  | inl i => obtain ⟨t, e⟩ := (show ∃ t, u = Value.int i t from r); subst e; exact mixKind_int P w i t
  | inr x => obtain ⟨t, e⟩ := (show ∃ t, u = Value.str x t from r); subst e; exact mixKind_str P w x t
theorem items_are {P : Program} {w : World} : ∀ {ks : List Key} {us : List Value}, Vals (ks.map kV) us → ItemsAre (mixKind P w) ks us
  | [], _, r => by rw [List.map_nil] at r; cases r; exact .nil
  | k :: ks, _, r => by
    rw [List.map_cons] at r
    cases r with
    | cons h t => exact .cons (kV_is h) (items_are t)

/-- raw entries of a dict with tuple keys -/
abbrev KT (H : Hp) : List (List Key × V) → List (List Key × Addr × Value) → Prop := Paired fun p q => p.1 = q.1 ∧ H q.2.1 = some (.tup (p.1.map kV)) ∧ RelV p.2 q.2.2
theorem KT.val {H : Hp} {kvs : List (List Key × V)} {xs : List (List Key × Addr × Value)} (r : KT H kvs xs) (k : List Key) : RelO (valV kvs k) ((atKey xs k).map (·.2)) := by
  induction r with
  | nil => exact True.intro
  | @cons p q ps qs h t ih =>
    obtain ⟨h1, _, h2⟩ := h
    by_cases e : p.1 = k
    · have e' : q.1 = k := h1.symm.trans e
      have b : atKey (q :: qs) k = some q.2 := by simp [atKey, List.find?_cons, e']
      rw [valV_pos e, b]; exact h2
    · have e' : ¬ q.1 = k := fun z => e (h1.trans z)
      have b : atKey (q :: qs) k = atKey qs k := by simp [atKey, List.find?_cons, e']
      rw [valV_neg e, b]; exact ih
theorem KT.repl {H : Hp} {kvs : List (List Key × V)} {xs : List (List Key × Addr × Value)} (r : KT H kvs xs) (k : List Key) {y : V} {u : Value} (ry : RelV y u) :
    KT H (kvs.map fun kv => if kv.1 = k then (kv.1, y) else kv) (xs.map (putAt k u)) := by
  induction r with
  | nil => exact .nil
  | @cons p q ps qs h t ih =>
    rw [List.map_cons, List.map_cons]
    refine .cons ?_ ih
    obtain ⟨h1, h2, h3⟩ := h
    unfold putAt
    by_cases e : p.1 = k
    · rw [if_pos e, if_pos (h1.symm.trans e)]; exact ⟨h1, h2, ry⟩
    · rw [if_neg e, if_neg (fun z => e (h1.trans z))]; exact ⟨h1, h2, h3⟩
theorem KT.put {H : Hp} {kvs : List (List Key × V)} {xs : List (List Key × Addr × Value)} (r : KT H kvs xs) (k : List Key) {b : Addr} {y : V} {u : Value} (hb : H b = some (.tup (k.map kV))) (ry : RelV y u) :
    KT H (putK kvs k y) (storedH xs k b u) := by
  have e : (kvs.any fun kv => decide (kv.1 = k)) = (atKey xs k).isSome := by
    rw [valV_any, (r.val k).isSome_eq, Option.isSome_map]
  unfold putK storedH
  rw [e]
  by_cases q : (atKey xs k).isSome = true
  · rw [if_pos q, if_pos q]; exact r.repl k ry
  · rw [if_neg q, if_neg q]; exact Paired.snoc r ⟨rfl, hb, ry⟩
theorem KT.keeps {H H' : Hp} {kvs : List (List Key × V)} {xs : List (List Key × Addr × Value)} (r : KT H kvs xs) (ht : ∀ b ys, H b = some (.tup ys) → H' b = some (.tup ys)) : KT H' kvs xs :=
  Paired.mapP r fun _ _ z => ⟨z.1, ht _ _ z.2.1, z.2.2⟩

section
variable {P : Program} {w : World} {H : Hp} {h : Heap} {a : Addr}
theorem rd_of {u : HO} (ok : HOk P w H h) (e : Rd H a u) : ObjOk P w H h a u := e.ok ok
theorem dk_rd {kvs : List (Key × V)} (ok : HOk P w H h) (e : Rd H a (.dK kvs)) : kvs.length ≤ sizeLine ∧ (a == sysModules) = false ∧ ∃ vs, KV kvs vs ∧ h.DictOf (mixKind P w) a vs :=
  show ObjOk P w H h a (.dK kvs) from rd_of ok e
theorem dk_of {kvs : List (Key × V)} (ok : HOk P w H h) (e : H a = some (.dK kvs)) : kvs.length ≤ sizeLine ∧ (a == sysModules) = false ∧ ∃ vs, KV kvs vs ∧ h.DictOf (mixKind P w) a vs := dk_rd ok (.inl e)
/-- a tracked tuple of ints and texts is a key -/
theorem key_of {ks : List Key} (ok : HOk P w H h) (e : H a = some (.tup (ks.map kV))) : (tupleKind (mixKind P w)).is h ks a := by
  obtain ⟨_, its, r, o, h1, h2, n, h3⟩ := (show ObjOk P w H h a (.tup (ks.map kV)) from ok a _ e)
  exact ⟨o, its.toArray, n, h1, h2, h3, by simpa using items_are r⟩
theorem dt_rd {kvs : List (List Key × V)} (ok : HOk P w H h) (e : Rd H a (.dT kvs)) : kvs.length ≤ sizeLine ∧ (a == sysModules) = false ∧
    ∃ xs, KT H kvs xs ∧ h.DictOfH (tupleKind (mixKind P w)) a xs := by
  obtain ⟨z, y, xs, r, o, es, ep, h1, h2, h3, h4, h5⟩ := (show ObjOk P w H h a (.dT kvs) from rd_of ok e)
  refine ⟨z, y, xs, r, o, es, ep, h1, h2, h3, h4, fun x hx => ?_, h5⟩
  have all : ∀ {l : List (List Key × V)} {m : List (List Key × Addr × Value)}, KT H l m → ∀ x ∈ m, (tupleKind (mixKind P w)).is h x.1 x.2.1 := by
    intro l m q
    induction q with
    | nil => intro x hx; exact nomatch hx
    | @cons p q ps qs hq t ih =>
      intro x hx
      rcases List.mem_cons.mp hx with e | hx
      · subst e
        exact key_of ok (by rw [← hq.1]; exact hq.2.1)
      · exact ih x hx
  exact all r x hx
theorem dt_of {kvs : List (List Key × V)} (ok : HOk P w H h) (e : H a = some (.dT kvs)) : kvs.length ≤ sizeLine ∧ (a == sysModules) = false ∧
    ∃ xs, KT H kvs xs ∧ h.DictOfH (tupleKind (mixKind P w)) a xs := dt_rd ok (.inl e)
end

/-- what the dict at a holds at the key y -/
def DGet (H : Hp) (a : Addr) (y : V) (r : Option V) : Prop :=
  (∃ kvs k, Rd H a (.dK kvs) ∧ y = kV k ∧ r = valV kvs k) ∨ ∃ kvs k b, Rd H a (.dT kvs) ∧ y = .ref b ∧ H b = some (.tup (k.map kV)) ∧ r = valV kvs k
/-- the heap behind a[y] = v -/
def DPut (H : Hp) (a : Addr) (y v : V) (H' : Hp) : Prop :=
  (∃ kvs k, H a = some (.dK kvs) ∧ y = kV k ∧ kvs.length < sizeLine ∧ H' = upd H a (.dK (putK kvs k v))) ∨
  ∃ kvs k b, H a = some (.dT kvs) ∧ y = .ref b ∧ H b = some (.tup (k.map kV)) ∧ kvs.length < sizeLine ∧ H' = upd H a (.dT (putK kvs k v))
section
variable {X : Cx} {pins : List (Addr × Obj)} {σ : St} {H : Hp} {s : Shared} {a : Addr} {y v : V} {u r : Value} {o : Option V} {A : Around} {E : Value → Shared → Prop}

theorem Inv.big (I : Inv X pins σ H s) : sysModules < s.heap.objs.size := by
  have h : mainGlobals < s.heap.objs.size := (I.mod.glob.keeps I.bk).lt
  exact Nat.lt_trans (by decide) h

/-- d[y], there -/
theorem d_getItem {Q : Value → Shared → Prop} (hu : A.units + 1 < cLine) (I : Inv X pins σ H s) (g : DGet H a y (some v)) (ry : RelV y u) (h : ∀ w' s', Inv X pins σ H s' → RelV v w' → Q w' s') :
    wpAny (model X.prog X.w) A (getItem (.ref a) u) Q E s := by
  rcases g with ⟨kvs, k, e, ey, l⟩ | ⟨kvs, k, b, e, ey, eb, l⟩
  · subst ey
    obtain ⟨z, hd, vs, rel, dd⟩ := dk_rd I.hok e
    obtain ⟨w', hw, rw'⟩ := RelO.some_of (v := v) (o := valueAt vs k) (by rw [l]; exact rel.val k)
    exact wpAny_getItem_of (kV_is ry) dd.mapOf hw (h w' _ (I.tok _) rw')
  · subst ey
    cases (show u = Value.ref b from ry)
    obtain ⟨z, hd, xs, rel, dd⟩ := dt_rd I.hok e
    obtain ⟨w', hw, rw'⟩ := RelO.some_of (v := v) (o := (atKey xs k).map (·.2)) (by rw [l]; exact rel.val k)
    obtain ⟨p, hp, hp2⟩ := Option.map_eq_some_iff.mp hw
    refine wpAny_getItem_heap (tupleKind_room_in1 hu) (key_of I.hok eb) dd hp ?_
    rw [hp2]
    exact h w' _ (I.tok _) rw'
/-- a dict's object is replaced -/
theorem d_write {h' : Heap} {t' : Nat} {ob : HO} (I : Inv X pins σ H s) (mu : Mut (H a)) (hs : Heap.SameBut a s.heap h') (he : ∃ q, h'.get? a = some q) (new : ObjOk X.prog X.w (upd H a ob) h' a ob) :
    Inv X pins σ (upd H a ob) { s with heap := h', toks := t' } :=
  I.write (x := a) (e := a) mu (.inl rfl) (fun b q hb z => (hs.2 b hb).trans z) he new
theorem dk_new {P : Program} {w : World} {H' : Hp} {h' : Heap} {kvs : List (Key × V)} {vs : List (Key × Value)} (z : kvs.length ≤ sizeLine) (hd : (a == sysModules) = false) (rel : KV kvs vs) (dd : h'.DictOf (mixKind P w) a vs) :
    ObjOk P w H' h' a (.dK kvs) := ⟨z, hd, vs, rel, dd⟩
/-- d[y] = v -/
theorem d_setItem {H' : Hp} {Q : Unit → Shared → Prop} (hu : A.units + 1 < cLine) (I : Inv X pins σ H s) (g : DPut H a y v H') (ry : RelV y u) (rv : RelV v r) (h : ∀ s', Inv X pins σ H' s' → Q () s') :
    wpAny (model X.prog X.w) A (setItem (.ref a) u r) Q E s := by
  rcases g with ⟨kvs, k, e, ey, l, eH⟩ | ⟨kvs, k, b, e, ey, eb, l, eH⟩
  · subst ey eH
    obtain ⟨z, hd, vs, rel, dd⟩ := dk_of I.hok e
    have hz : vs.length ≤ sizeLine := by rw [← rel.length]; exact z
    have hl : (putK kvs k v).length ≤ sizeLine := by have := length_putK kvs k v; omega
    refine wpAny_setItem_pairs (hsz := hz) (kV_is ry) dd fun h' dd' hs => h _ ?_
    have he : ∃ q, h'.get? a = some q := let ⟨q, _, _, hq, _⟩ := dd'; ⟨q, hq⟩
    exact d_write I (by rw [e]; exact True.intro) hs he (dk_new hl hd (rel.put k rv) dd')
  · subst ey eH
    cases (show u = Value.ref b from ry)
    obtain ⟨z, hd, xs, rel, dd⟩ := dt_of I.hok e
    have hz : xs.length ≤ sizeLine := by rw [← Paired.length rel]; exact z
    have hl : (putK kvs k v).length ≤ sizeLine := by have := length_putK kvs k v; omega
    refine wpAny_setItem_heap (hsz := hz) (tupleKind_room_in1 hu) (key_of I.hok eb) dd fun h' dd' hs => h _ ?_
    obtain ⟨q, es, ep, hq, h2, h3, h4, _, h5⟩ := dd'
    refine d_write I (by rw [e]; exact True.intro) hs ⟨q, hq⟩ ⟨hl, hd, _, (rel.put k eb rv).keeps fun c ys ec => ?_, q, es, ep, hq, h2, h3, h4, h5⟩
    rw [upd_ne (ne_of ec e (fun z => nomatch z))]
    exact ec
end

section
variable {X : Cx} {pins : List (Addr × Obj)} {σ : St} {H : Hp} {s : Shared} {a : Addr} {kvs : List (Key × V)} {k : Key} {u : Value} {A : Around} {E : Value → Shared → Prop}
end


/-- the element of a subscription, not a slice -/
def NoSl (i : Expr) : Prop := ∀ ov iv, subscripted i false ov iv = operate [ov, iv] (getItem ov iv)
theorem subD_of {prog : Program} {w : World} {A : Around} {E : Value → Shared → Prop} {s : Shared} {env : Env} {value slice : Expr} {pos : Pos} {T id : String} {Q : Value → Shared → Prop}
    (hl : typeLookup (.type T) "__getitem__" = pure (some (.builtin id))) (hs : NoSl slice)
    (h : wpAny (model prog w) A (eval value env) (fun o s₁ => wpAny (model prog w) A (eval slice env) (fun i s₂ => s₂.TypeIs o T ∧ wpAny (model prog w) A (getItem o i) Q E s₂) E s₁) E s) :
    wpAny (model prog w) A (eval (.Subscript value slice pos) env) Q E s := by
  refine Subscript_ (wpAny_mono h (fun o s₁ h₁ => wpAny_mono h₁ (fun i s₂ h₂ => ?_) fun _ _ x => x) fun _ _ x => x)
  obtain ⟨hT, h₂⟩ := h₂
  unfold subscriptTail
  refine wpAny_bind ?_
  rw [getitemInPython_of_ne hT.not_modules]
  refine wpAny_bind (wpAny_specialOf hT hl ?_)
  have fin : wpAny (model prog w) A (subscripted slice false o i) (fun r s₃ => wpAny (model prog w) A (letTemporaryGo value o r >>= fun _ => pure r) Q E s₃) E s₂ := by
    rw [hs o i]
    exact wpAny_operating (wpAny_mono h₂ (fun r s₃ h₃ => wpAny_bind (wpAny_letTemporaryGo (wpAny_pure h₃))) fun _ _ x => x)
  first
    | exact wpAny_pure (wpAny_bind fin)
    | exact wpAny_bind (wpAny_pure (wpAny_bind fin))
    | exact wpAny_bind fin

theorem dict_typeIs {X : Cx} {pins : List (Addr × Obj)} {σ : St} {H : Hp} {s : Shared} {a : Addr} {y : V} {o : Option V} (I : Inv X pins σ H s) (g : DGet H a y o) : s.TypeIs (.ref a) "dict" := by
  rcases g with ⟨kvs, k, e, _, _⟩ | ⟨kvs, k, b, e, _, _, _⟩
  · obtain ⟨_, _, vs, _, dd⟩ := dk_rd I.hok e
    exact dd.typeIs
  · obtain ⟨_, _, xs, _, dd⟩ := dt_rd I.hok e
    exact dd.typeIs
/-- d[y] -/
def tDGet (td ty : TE) : TE := fun σ H Q => td σ H fun x H1 => ty σ H1 fun y H2 => ∃ a v, x = .ref a ∧ DGet H2 a y (some v) ∧ Q v H2
/-- d[y] = v -/
def sDPut (td ty tv : TE) : TS := fun D σ H => tv σ H fun v H1 => td σ H1 fun x H2 => ty σ H2 fun y H3 => ∃ a H4, x = .ref a ∧ DPut H3 a y v H4 ∧ D.nx σ H4
section
variable {X : Cx} {o i e value : Expr} {pos pos' tpos : Pos} {td ty tv : TE}
theorem pe_dget (hu : X.A.units + 1 < cLine) (ho : PE X o td) (hi : PE X i ty) (hs : NoSl i) : PE X (.Subscript o i pos) (tDGet td ty) := by
  intro pins s σ H Q I h
  refine subD_of PySem.F.slot_dict_getitem.lookup hs (thn (ho pins s σ H _ I h) fun u s1 ⟨x, H1, I1, rx, q1⟩ => thn (hi pins s1 σ H1 _ I1 q1) fun iv s2 ⟨y, H2, I2, ry, a, v, ex, g, q2⟩ => ?_)
  subst ex
  obtain rfl : u = Value.ref a := rx
  exact ⟨dict_typeIs I2 g, d_getItem hu I2 g ry fun w' s3 I3 rw' => ⟨v, H2, I3, rw', q2⟩⟩
theorem ps_dput (hu : X.A.units + 1 < cLine) (ho : PE X o td) (hi : PE X i ty) (hv : PE X value tv) (hs : swapsWith value (some (.Subscript o i pos')) pos.line X.env = pure false) :
    PS X (.Assign [.Subscript o i pos'] value pos) (sDPut td ty tv) := by
  intro pins s σ H D I h
  refine wpAny_Assign_Subscript (thn (hv pins s σ H _ I h) fun r s1 ⟨v, H1, I1, rv, q1⟩ => thn (ho pins s1 σ H1 _ I1 q1) fun u s2 ⟨x, H2, I2, rx, q2⟩ => thn (hi pins s2 σ H2 _ I2 q2) fun iv s3 ⟨y, H3, I3, ry, a, H4, ex, g, q3⟩ => ?_) hs
  subst ex
  obtain rfl : u = Value.ref a := rx
  exact d_setItem hu I3 g ry rv fun s4 I4 => ⟨σ, H4, I4, q3⟩
end


theorem dk_empty {P : Program} {w : World} {H : Hp} (h : Heap) (hb : sysModules < h.objs.size) : ObjOk P w H (h.push { cls := .type "dict", data := .dict #[] }) h.objs.size (.dK []) :=
  ⟨Nat.zero_le _, beq_eq_false_iff_ne.mpr (Ne.symm (Nat.ne_of_lt hb)), [], .nil, Heap.DictOf.new h⟩
/-- {}, to be a dict of the kind that is wanted -/
def tDNewK : TE := fun _ H Q => ∀ p, H p = none → Q (.ref p) (upd H p (.dK []))
section
variable {X : Cx} {pos : Pos}
theorem pe_dnewK : PE X (.Dict [] [] pos) tDNewK := fun pins s σ H Q I h =>
  wpAny_Dict_empty ⟨.ref s.heap.objs.size, _, I.laid (a := s.heap.objs.size) (o := .dK []) (t' := s.toks) (fun _ _ q => Heap.get?_push_of_some _ q) (Nat.le_refl _) (dk_empty s.heap I.big), rfl, h _ (I.hok.fresh (Nat.le_refl _))⟩
end

def mergeK (kvs more : List (Key × V)) : List (Key × V) := more.foldl (fun acc kv => putK acc kv.1 kv.2) kvs
theorem KV.merge : ∀ {more : List (Key × V)} {rs : List (Key × Value)} {kvs : List (Key × V)} {vs : List (Key × Value)}, KV more rs → KV kvs vs → KV (mergeK kvs more) (merged vs rs) := by
  intro more rs kvs vs r
  unfold KV at r
  induction r generalizing kvs vs with
  | nil => intro q; exact q
  | @cons p q ps qs h t ih =>
    intro r0
    have e : KV (putK kvs p.1 p.2) (stored vs q.1 q.2) := by
      have := r0.put p.1 h.2
      rw [← h.1]; exact this
    exact ih e
theorem length_mergeK : ∀ (more kvs : List (Key × V)), (mergeK kvs more).length ≤ kvs.length + more.length
  | [], kvs => by show kvs.length ≤ kvs.length + 0; omega
  | p :: r, kvs => by
    have h1 := length_mergeK r (putK kvs p.1 p.2)
    have h2 := length_putK kvs p.1 p.2
    show (mergeK (putK kvs p.1 p.2) r).length ≤ _
    rw [List.length_cons]; omega
section
variable {X : Cx} {pins : List (Addr × Obj)} {σ : St} {H : Hp} {s : Shared} {a : Addr} {y d : V} {u r : Value} {o : Option V} {A : Around} {E : Value → Shared → Prop}
end

section
variable {X : Cx} {o e f : Expr} {apos cpos : Pos} {td ty tx : TE}
end

section
variable {X : Cx} {pins : List (Addr × Obj)} {σ : St} {H : Hp} {s : Shared} {a : Addr} {kvs : List (Key × V)} {A : Around} {E : Value → Shared → Prop}
end


section
variable {X : Cx} {pins : List (Addr × Obj)} {σ : St} {H : Hp} {s : Shared} {a : Addr} {y : V} {u : Value} {A : Around} {E : Value → Shared → Prop}
end
end L2

namespace Att
open PySem PySem.W PySem.Calls PyProof.Rows

section
variable {prog : Program} {w : World} {A : Around} {E : Value → Shared → Prop} {s : Shared} {K : Frag}

end
end Att

namespace L2
open PySem PySem.Spec PyProof.Rows

end L2

namespace L2
open PySem PySem.Spec PyProof.Rows

end L2

/- THE LAST THEOREM (shape; LID, My.* are yours):
   My.Adr: a structure of the addresses that your layer names (classes, functions); My.Txt K t: a structure (Prop) of the equations over K;
   My.txt_mk : {K} {implicit addresses ..} (e1 : nsIn K mainGlobals "law" = some (some (.ref f))) (e2 : K.lookup f = some ⟨oc, od, .func (fnOf "law" "law" params body scope dV kV doc pm an cdv ct), sl⟩) (e3 : codeIn K cdv "law" = true) .. : ∃ t, My.Txt K t

(the tactic k_is has no namespace: write k_is) -/

namespace L2
open PySem PySem.Spec PyProof.Rows

section
variable {P : Program} {w : World} {K : PySem.W.Frag} {mg : Str → Option Value} {base : Heap}
end
section
variable {X : Cx}
end

section
variable {κ : Type} [DecidableEq κ]
end
end L2


/-! ### a list comprehension of one clause -/
namespace L2
open PySem PySem.Spec PyProof.Rows
def clOf (env : Env) : List (Str × NameKind) → List (Str × Addr) → List (Str × Addr)
  | [], cs => cs
  | (n, k) :: r, cs => clOf env r (if k == .free then (n, (env.cells.lookup n).getD 0) :: cs else cs)
theorem closureFor_some {scope : Scope} {env : Env} (h : ∀ p ∈ scope.names, p.2 = .free → ∃ c, env.cells.lookup p.1 = some c) : closureFor scope env = pure (clOf env scope.names []) := by
  have all : ∀ (l : List (Str × NameKind)) (cs : List (Str × Addr)), (∀ p ∈ l, p.2 = .free → ∃ c, env.cells.lookup p.1 = some c) →
      (forIn l cs fun (x : Str × NameKind) (r : List (Str × Addr)) => if (x.2 == NameKind.free) = true then do let a ← cellOf env x.1; pure (ForInStep.yield ((x.1, a) :: r)) else (pure (ForInStep.yield r) : Sem _)) = pure (clOf env l cs) := by
    intro l
    induction l with
    | nil => intro cs _; rfl
    | cons p r ih =>
      intro cs hp
      obtain ⟨n, k⟩ := p
      rw [List.forIn_cons]
      by_cases hk : k = .free
      · subst hk
        obtain ⟨c, e⟩ := hp (n, .free) List.mem_cons_self rfl
        have e1 : cellOf env n = pure c := by unfold cellOf; rw [e]
        simp only [beq_self_eq_true, if_true, e1, pure_bind]
        rw [ih _ fun p hp' => hp p (List.mem_cons_of_mem _ hp')]
        simp [clOf, e]
      · have hb : (k == NameKind.free) = false := by simpa using hk
        simp only [hb, Bool.false_eq_true, if_false, pure_bind]
        rw [ih _ fun p hp' => hp p (List.mem_cons_of_mem _ hp')]
        simp [clOf, hb]
  simp only [closureFor]
  rw [all scope.names [] h]
  simp
theorem clOf_sub {env : Env} {x : Str} {c : Addr} : ∀ {l : List (Str × NameKind)} {cs : List (Str × Addr)}, (∀ p ∈ l, p.2 = .free → ∃ c, env.cells.lookup p.1 = some c) → (∀ x c, cs.lookup x = some c → env.cells.lookup x = some c) →
    (clOf env l cs).lookup x = some c → env.cells.lookup x = some c
  | [], _, _, h, e => h x c e
  | (n, k) :: r, cs, hp, h, e => by
    unfold clOf at e
    refine clOf_sub (fun p q => hp p (List.mem_cons_of_mem _ q)) ?_ e
    intro y d q
    by_cases hk : k = .free
    · subst hk
      obtain ⟨c', e'⟩ := hp (n, .free) List.mem_cons_self rfl
      simp only [beq_self_eq_true, if_true] at q
      rw [List.lookup_cons] at q
      cases hy : y == n with
      | true =>
        rw [hy] at q
        have : y = n := by simpa using hy
        subst this
        simp only at e'
        rw [e'] at q ⊢
        exact q
      | false => rw [hy] at q; exact h y d q
    · have hb : (k == NameKind.free) = false := by simpa using hk
      simp only [hb, Bool.false_eq_true, if_false] at q
      exact h y d q
theorem clOf_has {env : Env} {x : Str} : ∀ {l : List (Str × NameKind)} {cs : List (Str × Addr)}, ((∃ c, cs.lookup x = some c) ∨ (x, NameKind.free) ∈ l) → ∃ c, (clOf env l cs).lookup x = some c
  | [], _, h => by
    rcases h with h | h
    · exact h
    · exact absurd h (by simp)
  | (n, k) :: r, cs, h => by
    unfold clOf
    apply clOf_has
    rcases h with ⟨c, h⟩ | h
    · left
      by_cases hk : k = .free
      · subst hk
        simp only [beq_self_eq_true, if_true]
        rw [List.lookup_cons]
        cases hy : x == n with
        | true => exact ⟨_, rfl⟩
        | false => exact ⟨c, h⟩
      · have hb : (k == NameKind.free) = false := by simpa using hk
        simp only [hb, Bool.false_eq_true, if_false]
        exact ⟨c, h⟩
    · rcases List.mem_cons.mp h with e | h
      · injection e with e1 e2
        subst e1; subst e2
        left
        simp only [beq_self_eq_true, if_true]
        rw [List.lookup_cons]
        simp
      · exact .inr h
theorem lookup_relabel {scope : Scope} {env : Env} {x : Str} : (relabel scope env).names.lookup x = (scope.names.lookup x).map fun k => if (k == NameKind.free && env.scope.kind == .function && env.kindOf x == some .cell) = true then .cell else k := by
  unfold relabel
  show List.lookup x (scope.names.map _) = _
  generalize scope.names = l
  induction l with
  | nil => rfl
  | cons p r ih =>
    obtain ⟨n, k⟩ := p
    rw [List.map_cons, List.lookup_cons (as := r)]
    show List.lookup x ((if (k == NameKind.free && env.scope.kind == .function && env.kindOf n == some .cell) = true then (n, NameKind.cell) else (n, k)) :: _) = _
    cases hx : x == n with
    | true =>
      have e : x = n := by simpa using hx
      subst e
      by_cases hc : (k == NameKind.free && env.scope.kind == .function && env.kindOf x == some .cell) = true
      · rw [if_pos hc]; simp only [List.lookup_cons, beq_self_eq_true, Option.map_some]; rw [if_pos hc]
      · rw [if_neg hc]; simp only [List.lookup_cons, beq_self_eq_true, Option.map_some]; rw [if_neg hc]
    | false =>
      by_cases hc : (k == NameKind.free && env.scope.kind == .function && env.kindOf n == some .cell) = true
      · rw [if_pos hc]; simp only [List.lookup_cons, hx]; exact ih
      · rw [if_neg hc]; simp only [List.lookup_cons, hx]; exact ih
theorem mem_of_lookup {x : Str} {k : NameKind} : ∀ {l : List (Str × NameKind)}, l.lookup x = some k → (x, k) ∈ l
  | [], h => by simp at h
  | (n, j) :: r, h => by
    rw [List.lookup_cons] at h
    cases hx : x == n with
    | true =>
      rw [hx] at h
      have e : x = n := by simpa using hx
      cases h; subst e
      exact List.mem_cons_self
    | false => rw [hx] at h; exact List.mem_cons_of_mem _ (mem_of_lookup h)

/-- the block's scope fits the def's: captured names are the def's cells, no cells of its own -/
def compFit (sc out : Scope) : Bool :=
  (sc.names.all fun p => p.2 != .cell && (p.2 != .free || out.names.lookup p.1 == some .cell || out.names.lookup p.1 == some .free) && (p.2 != .local || sc.names.lookup p.1 == some .local)) && decide (sc.kind = .function)
def captFit (sc out : Scope) (N : List Str) (ix : List Nat) : Bool :=
  ix.all fun i => sc.names.lookup (N.getD i "") == some .free && (out.names.lookup (N.getD i "") == some .cell || out.names.lookup (N.getD i "") == some .free)
def capt (σ : St) (ix : List Nat) : St := ix.map fun i => σ.getD i none
abbrev captN (N : List Str) (ix : List Nat) : List Str := ix.map fun i => N.getD i ""
def cmpCx (X : Cx) (scope : Scope) (own : List Str) (ix : List Nat) (C : Addr) (s₀ : Shared) (H₀ : Hp) (ex : List Addr) : Cx where
  prog := X.prog
  w := X.w
  K := X.K
  mg := X.mg
  base := X.base
  A := X.A
  N := own ++ captN X.N ix
  s₀ := s₀
  H₀ := H₀
  env := compEnvC scope (clOf X.env scope.names []) C X.env
  outer := X.stack
  stack := X.stack
  ex := ex
  fn := fun _ => false
  calm := X.calm
  pn := []
  xe := fun _ _ => False
section
variable {X : Cx} {pins : List (Addr × Obj)} {σ : St} {H : Hp} {s : Shared}
theorem compFit_all {sc out : Scope} (h : compFit sc out = true) : ∀ p ∈ sc.names, p.2 ≠ .cell ∧ (p.2 = .free → out.names.lookup p.1 = some .cell ∨ out.names.lookup p.1 = some .free) ∧ (p.2 = .local → sc.names.lookup p.1 = some .local) := by
  intro p hp
  unfold compFit at h
  rw [Bool.and_eq_true] at h
  have := List.all_eq_true.mp h.1 p hp
  simp only [Bool.and_eq_true, Bool.or_eq_true, bne_iff_ne, beq_iff_eq, ne_eq] at this
  obtain ⟨⟨h1, h2⟩, h3⟩ := this
  refine ⟨h1, fun e => ?_, fun e => ?_⟩
  · rcases h2 with (h2 | h2) | h2
    · exact absurd e h2
    · exact .inl h2
    · exact .inr h2
  · rcases h3 with h3 | h3
    · exact absurd e h3
    · exact h3
theorem compFit_kind {sc out : Scope} (h : compFit sc out = true) : sc.kind = .function := by
  unfold compFit at h
  rw [Bool.and_eq_true] at h
  exact of_decide_eq_true h.2
theorem comp_ok {scope : Scope} {own : List Str} {ix : List Nat} {ex : List Addr} (I : Inv X pins σ H s) (hf : compFit scope X.env.scope = true) (hx : ∀ b ∈ ex, FpOk X pins H b ∧ b < s.heap.objs.size) : (cmpCx X scope own ix s.heap.objs.size s H ex).Ok := by
  have fits := (compFit_all hf)
  have hfree : ∀ p ∈ scope.names, p.2 = .free → ∃ c, X.env.cells.lookup p.1 = some c := fun p hp e => I.ok.has p.1 ((fits p hp).2.1 e)
  have sub : ∀ {x : Str} {c : Addr}, (clOf X.env scope.names []).lookup x = some c → X.env.cells.lookup x = some c := fun {x c} e => clOf_sub hfree (fun x c e => by simp at e) e
  refine ⟨I.ok.mod, (show scope.kind = .function from compFit_kind hf), I.ok.glob, I.ok.blt, Nat.le_refl _, fun x y c a b => I.ok.inj x y c (sub a) (sub b), fun x hk => ?_, fun x c e => (by cases e), I.ok.hd, I.ok.frames, .inl rfl, fun b hb => ⟨Nat.ne_of_lt (hx b hb).2, fun x c e => (hx b hb).1.2.2.2.2.1 x c (sub e)⟩, I.bs, Nat.le_trans I.ok.bsz I.sz, fun b o e hb => ?_, fun b hb hs => ?_, I.stack, I.stkFree⟩
  · refine clOf_has (.inr ?_)
    have hk' : (relabel scope X.env).names.lookup x = some .cell ∨ (relabel scope X.env).names.lookup x = some .free := hk
    rw [lookup_relabel] at hk'
    cases q : scope.names.lookup x with
    | none => rw [q] at hk'; rcases hk' with z | z <;> cases z
    | some k =>
      have hm := mem_of_lookup q
      by_cases hkf : k = .free
      · subst hkf; exact hm
      · rw [q] at hk'
        have hb : (k == NameKind.free) = false := by simpa using hkf
        simp only [Option.map_some, hb, Bool.false_and, Bool.false_eq_true, if_false, Option.some.injEq] at hk'
        rcases hk' with z | z
        · exact absurd z (fits _ hm).1
        · exact absurd z hkf
  · rcases (hx b hb).1.2.2.2.1 with z | z
    · exact I.ok.noex b o e z
    · exact absurd (Nat.lt_of_lt_of_le (Heap.lt_size e) (Nat.le_trans I.ok.bsz z)) (Nat.lt_irrefl _)
  · rcases List.mem_cons.mp (I.stkSub b hs) with z | z
    · exact (hx b hb).1.2.1 z
    · exact (hx b hb).1.2.2.1 z
theorem comp_inv {scope : Scope} {own : List Str} {ix : List Nat} {ex : List Addr} {h' : Heap} {tk : Nat} (I : Inv X pins σ H s) (hf : compFit scope X.env.scope = true) (hc : captFit scope X.env.scope X.N ix = true) (hx : ∀ b ∈ ex, FpOk X pins H b ∧ b < s.heap.objs.size)
    (hn : h'.Ns s.heap.objs.size fun _ => none) (hk : ∀ b o, s.heap.get? b = some o → h'.get? b = some o) : Inv (cmpCx X scope own ix s.heap.objs.size s H ex) [] (List.replicate own.length none ++ capt σ ix) H { s with heap := h', toks := tk } := by
  have fits := (compFit_all hf)
  have hfree : ∀ p ∈ scope.names, p.2 = .free → ∃ c, X.env.cells.lookup p.1 = some c := fun p hp e => I.ok.has p.1 ((fits p hp).2.1 e)
  have sub : ∀ {x : Str} {c : Addr}, (clOf X.env scope.names []).lookup x = some c → X.env.cells.lookup x = some c := fun {x c} e => clOf_sub hfree (fun x c e => by simp at e) e
  refine ⟨comp_ok I hf hx, rfl, I.bare, Un.kept hk, ⟨_, hn, fun i x v e1 e2 e3 => ?_⟩, fun x c e => ?_, I.hok.fresh (Nat.le_refl _), fun x c e => I.freeC x c (sub e), fun p hp => absurd (show p ∈ ([] : List (Addr × Obj)) ++ [] from hp) (by simp), I.hok.kept hk, ?_⟩
  · have e1 : (own ++ captN X.N ix)[i]? = some x := e1
    by_cases hi : i < own.length
    · rw [List.getElem?_append_left (by simpa using hi), List.getElem?_replicate, if_pos hi] at e2
      cases e2
    · have hi' : own.length ≤ i := Nat.le_of_not_lt hi
      rw [List.getElem?_append_right (by simpa using hi'), List.length_replicate] at e2
      rw [List.getElem?_append_right hi'] at e1
      unfold capt at e2
      unfold captN at e1
      rw [List.getElem?_map] at e1 e2
      cases q : ix[i - own.length]? with
      | none => rw [q] at e2; cases e2
      | some j =>
        rw [q] at e1 e2
        simp only [Option.map_some, Option.some.injEq] at e1 e2
        have hj : j ∈ ix := List.mem_of_getElem? q
        have fit := List.all_eq_true.mp hc j hj
        simp only [Bool.and_eq_true, Bool.or_eq_true, beq_iff_eq] at fit
        rw [e1] at fit
        have ej : σ[j]? = some (some v) := by
          rw [List.getD_eq_getElem?_getD] at e2
          cases r : σ[j]? with
          | none => rw [r] at e2; cases e2
          | some z => rw [r] at e2; simp only [Option.getD_some] at e2; rw [e2]
        have hjl : j < X.N.length := by rw [← I.len]; exact (List.getElem?_eq_some_iff.mp ej).1
        have en : X.N[j]? = some x := by
          rw [List.getD_eq_getElem?_getD] at e1
          rw [List.getElem?_eq_getElem hjl] at e1 ⊢
          simp only [Option.getD_some] at e1
          rw [e1]
        obtain ⟨m, hm, hl⟩ := I.loc
        have hv : Vis X.env.scope x := by
          rcases fit.2 with z | z
          · exact .inr (.inl z)
          · exact .inr (.inr z)
        obtain ⟨u, r, l⟩ := hl j x v en ej hv
        refine ⟨u, r, .inr ⟨?_, ?_⟩⟩
        · show (relabel scope X.env).names.lookup x = some .cell ∨ (relabel scope X.env).names.lookup x = some .free
          rw [lookup_relabel, fit.1]
          simp only [Option.map_some]
          split
          · exact .inl rfl
          · exact .inr rfl
        · rcases l with ⟨k1, _⟩ | ⟨_, c, ec, hcell⟩
          · have k1 : X.env.scope.names.lookup x = some .local := k1
            rcases fit.2 with z | z <;> (rw [z] at k1; cases k1)
          · obtain ⟨c', e'⟩ : ∃ c, (clOf X.env scope.names []).lookup x = some c := clOf_has (.inr (mem_of_lookup fit.1))
            have := sub e'
            rw [ec] at this
            cases this
            exact ⟨c, e', hcell.keeps hk⟩
  · obtain ⟨v, z⟩ := I.cell x c (sub e)
    exact ⟨v, z.keeps hk⟩
  · show (List.replicate own.length none ++ capt σ ix).length = (own ++ captN X.N ix).length
    simp [capt]
/-- back from the block: the state of the def, the block's own frame let go -/
theorem comp_back {scope : Scope} {own : List Str} {ix : List Nat} {ex : List Addr} {τ : St} {H' : Hp} {s' : Shared} {pins' : List (Addr × Obj)} (I : Inv X pins σ H s) (hx : ∀ b ∈ ex, FpOk X pins H b ∧ b < s.heap.objs.size)
    (I' : Inv (cmpCx X scope own ix s.heap.objs.size s H ex) pins' τ H' s') : Inv X pins σ H' s' ∧ H' s.heap.objs.size = none ∧ s.heap.objs.size ≠ X.env.locals ∧ X.s₀.heap.objs.size ≤ s.heap.objs.size ∧ (∀ x c, X.env.cells.lookup x = some c → c ≠ s.heap.objs.size) ∧ ∀ p ∈ X.pn ++ pins, p.1 ≠ s.heap.objs.size := by
  refine ⟨I.call' (ch := ex) I'.os I'.base I'.hok I'.bare fun b hb => ?_, I'.free, Nat.ne_of_gt I.lt, I.sz, fun x c e z => ?_, fun p hp z => ?_⟩
  · obtain ⟨f0, f1, f2, f3, f4, f5⟩ := (hx b hb).1
    exact ⟨f3, f1, f4, f5⟩
  · obtain ⟨v, q⟩ := I.cell x c e
    exact absurd q.lt (by rw [z]; exact Nat.lt_irrefl _)
  · exact absurd (Heap.lt_size (I.pin p hp).1) (by rw [z]; exact Nat.lt_irrefl _)
end

/-- the tests of a clause -/
def PTs (X : Cx) (ifs : List Expr) (t : TT) : Prop :=
  ∀ (pins : List (Addr × Obj)) (s : Shared) (σ : St) (H : Hp) (Q : Bool → Hp → Prop), Inv X pins σ H s → t σ H Q →
    wpAny (model X.prog X.w) X.A (forIn ifs true fun c r => if r = true then do let ok ← isTrue c X.env (eval c X.env); pure (ForInStep.yield ok) else pure (ForInStep.yield r)) (TP X pins σ Q) X.xe s
def tYes : TT := fun _ H Q => Q true H
theorem pts_nil {X : Cx} : PTs X [] tYes := fun _ _ _ H _ I h => wpAny_tests_nil ⟨H, I, h⟩
theorem pts_one {X : Cx} {c : Expr} {t : TT} (h : PT X c t) : PTs X [c] t := fun pins s σ H Q I q => wpAny_tests_one (h pins s σ H Q I q)

/-- D: the new list; W: by the turn and a measure, over the block's state and the heap -/
def compW (J : It) (D : Addr) (g : TG) (tc : TT) (te : TE) (Q : VK) (τ : St) (H : Hp) : Prop := ∃ W : Nat → Nat → St → Hp → Prop, (∃ m, W 0 m τ H) ∧ ∀ i m τ H, W i m τ H →
  (J.stop i H ∧ Q (.ref D) H) ∨ (J.go i H ∧ ∃ N : St → Hp → Prop, (∀ τ' H', N τ' H' → ∃ m', m' < m ∧ W (i + 1) m' τ' H') ∧ ∀ x H', J.yld i H x H' → g x τ H' fun τ2 H2 => tc τ2 H2 fun b H3 => if b = true then
    te τ2 H3 fun y H4 => ∃ ys, H4 D = some (.lst ys) ∧ ys.length < sizeLine ∧ N τ2 (upd H4 D (.lst (ys ++ [y]))) else N τ2 H3)
def tComp (wi : TI) (k : Nat) (ix : List Nat) (g : TG) (tc : TT) (te : TE) : TE := fun σ H Q => wi σ H fun J H1 => ∀ D, H1 D = none → compW J D g tc te Q (List.replicate k none ++ capt σ ix) (upd H1 D (.lst []))
section
variable {X : Cx} {tg iter elt : Expr} {ifs : List Expr} {scope : Scope} {pos : Pos} {own : List Str} {ix : List Nat} {wi : TI} {g : TG} {tc : TT} {te : TE}
theorem comp_loop {it D : Addr} {fp : List Addr} {tn : Nat → Heap → Prop} {J : It} {Q : VK} {R : Result → Shared → Prop} {s : Shared} {τ : St} {H : Hp} (hcalm : X.calm = true) (hxe : X.xe = fun _ _ => False) (hpn : X.pn = []) (T : Turn X.prog X.w X.K tg J fp it tn)
    (he : PE X elt te) (hg : PG X tg g) (ht : PTs X ifs tc) (I : Inv X [] τ H s) (hfp : ∀ b ∈ fp, FpOk X [] H b) (h0 : tn 0 s.heap) (hW : compW J D g tc te Q τ H)
    (hR : ∀ τ' H' s', Inv X [] τ' H' s' → Q (.ref D) H' → R (.ok .next) s') :
    codeAny (model X.prog X.w) X.A (.compLoop (.ListComp elt [⟨tg, iter, ifs, 0⟩] scope pos) 0 (.ref it) (.ref D) X.env) R s := by
  obtain ⟨W, ⟨m0, w0⟩, turn⟩ := hW
  have no : ∀ {E : Value → Shared → Prop} (e : Value) (s' : Shared), X.xe e s' → E e s' := fun e s' z => by rw [hxe] at z; exact z.elim
  have stat : ∀ {H' : Hp}, (∀ b ∈ fp, H' b = none) → ∀ b ∈ fp, FpOk X [] H' b := fun hn b hb => ⟨hn b hb, (hfp b hb).2⟩
  refine codeAny_loop rfl (fun n s' => ∃ i τ' H', Inv X [] τ' H' s' ∧ tn i s'.heap ∧ (∀ b ∈ fp, H' b = none) ∧ W i n τ' H') (fun n s3 hI => ?_) m0 ⟨0, τ, H, I, h0, fun b hb => (hfp b hb).1, w0⟩
  obtain ⟨i, τ3, H3, I3, st3, fr3, w3⟩ := hI
  show wpAny _ X.A ((compTurn (.ListComp elt [⟨tg, iter, ifs, 0⟩] scope pos) 0 (.ref it) (.ref D) X.env).onRaise (fun x => do noteFrame x X.env; theTreesLotGoes x)) _ _ s3
  refine wpAny_noted ?_
  rw [compTurn_list]
  refine wpAny_bind (wpAny_standAt (wpAny_bind ?_))
  rcases turn i n τ3 H3 w3 with ⟨stop, q⟩ | ⟨go, N, hN, step⟩
  · refine wpAny_mono (T.done X rfl rfl rfl hcalm i [] s3 τ3 H3 X.xe I3 (stat fr3) st3 stop) (fun r s4 ⟨hr, I4⟩ => ?_) no
    subst hr
    exact wpAny_pure (hR τ3 H3 s4 I4 q)
  · refine wpAny_mono (T.item X rfl rfl rfl hcalm i [] s3 τ3 H3 X.xe I3 (stat fr3) st3 go) (fun r s4 ⟨u, hr, h4⟩ => ?_) no
    subst hr
    refine wpAny_bind (wpAny_mono h4 (fun _ s5 ⟨x, H5, I5, r5, y5, st5, fr5⟩ => ?_) no)
    have I5' := I5.pinned (stat fr5) (T.obj _ _ st5)
    refine wpAny_bind (wpAny_mono (hg _ s5 τ3 H5 x u _ I5' r5 (step x H5 y5)) (fun _ s6 ⟨τ6, H6, I6, q6⟩ => ?_) no)
    refine wpAny_bind (wpAny_mono (ht _ s6 τ6 H6 _ I6 q6) (fun b s7 ⟨H7, I7, q7⟩ => ?_) no)
    have again : ∀ {τ7 : St} {H7 : Hp} {s7 : Shared}, Inv X ([] ++ pinsAt fp s5.heap) τ7 H7 s7 → N τ7 H7 → ∃ m, m < n ∧ ∃ i σ' H', Inv X [] σ' H' s7 ∧ tn i s7.heap ∧ (∀ b ∈ fp, H' b = none) ∧ W i m σ' H' := fun {τ7 H7 s7} I7 n7 => by
      obtain ⟨m', hm, w7⟩ := hN τ7 H7 n7
      refine ⟨m', hm, i + 1, τ7, H7, I7.unpinned, T.keep _ _ _ st5 fun b hb o e => (I7.pin (b, o) (List.mem_append_right _ (List.mem_append_right _ (mem_pinsAt hb e)))).1, fun b hb => ?_, w7⟩
      obtain ⟨o, e, d⟩ := T.obj _ _ st5 b hb
      exact (I7.pin (b, o) (List.mem_append_right _ (List.mem_append_right _ (mem_pinsAt hb e)))).2.1
    cases b with
    | false => exact wpAny_pure ⟨rfl, again I7 q7⟩
    | true =>
      refine wpAny_bind (wpAny_bind (wpAny_mono (he _ s7 τ6 H7 _ I7 q7) (fun v s8 ⟨y, H8, I8, r8, ys, hD, hl, q8⟩ => wpAny_bind ?_) no))
      refine wpAny_mono (mt_append _ s8 τ6 H8 (.ref D) [y] (.ref D) [v] (fun _ H' => N τ6 H') I8 rfl (.cons r8 .nil) ⟨D, ys, y, rfl, rfl, hD, hl, q8⟩) (fun _ s9 ⟨_, H9, I9, _, q9⟩ => ?_) no
      exact wpAny_pure (wpAny_pure ⟨rfl, again I9 q9⟩)
/-- the block from its source on; U: what is to be done with the list ahead of the block's end -/
theorem comp_run {pins : List (Addr × Obj)} {s : Shared} {σ : St} {H : Hp} {Q : VK} {use : Option (Value → Sem Unit)} {Q' : Value → Shared → Prop} (hcalm : X.calm = true) (hf : compFit scope X.env.scope = true) (hc : captFit scope X.env.scope X.N ix = true)
    (hi : PI X tg iter wi) (hg : ∀ C s₀ H₀ ex, PG (cmpCx X scope own ix C s₀ H₀ ex) tg g) (ht : ∀ C s₀ H₀ ex, PTs (cmpCx X scope own ix C s₀ H₀ ex) ifs tc) (he : ∀ C s₀ H₀ ex, PE (cmpCx X scope own ix C s₀ H₀ ex) elt te)
    (I : Inv X pins σ H s) (h : tComp wi own.length ix g tc te σ H Q)
    (hU : ∀ (D C : Addr) (H' : Hp) (s' : Shared) (m : Str → Option Value), Inv X pins σ H' s' → Q (.ref D) H' → s'.heap.Ns C m → H' C = none → C ≠ X.env.locals → X.s₀.heap.objs.size ≤ C → (∀ x c, X.env.cells.lookup x = some c → c ≠ C) → (∀ p ∈ X.pn ++ pins, p.1 ≠ C) → compPost (model X.prog X.w) X.A X.xe use Q' (.ref D) C (.ok .next) s')
    (hs : ∀ x, foldedSetIterable iter X.env x = pure x) :
    wpAny (model X.prog X.w) X.A (comprehension (.ListComp elt [⟨tg, iter, ifs, 0⟩] scope pos) scope X.env (firstIterPos [⟨tg, iter, ifs, 0⟩] pos) (newList []) false (eval iter X.env) use) Q' X.xe s := by
  have fits := (compFit_all hf)
  have hfree : ∀ p ∈ scope.names, p.2 = .free → ∃ c, X.env.cells.lookup p.1 = some c := fun p hp e => I.ok.has p.1 ((fits p hp).2.1 e)
  refine wpAny_comprehension_free (use := use) rfl hs (closureFor_some hfree) (compFit_kind hf) (fun x hx => (fits x hx).2.2) ?_
  refine thn (hi pins s σ H _ I h) fun v s1 h1 => thn h1 fun itv s2 h2 => ?_
  obtain ⟨it, fp, tn, J, H2, e, I2, T, st2, f2, hW⟩ := h2
  subst e
  refine wpAny_newObj_type (hd := by size_fits) ?_
  have hD : H2 s2.heap.objs.size = none := I2.hok.fresh (Nat.le_refl _)
  have I3 : Inv X pins σ (upd H2 s2.heap.objs.size (.lst [])) { s2 with heap := s2.heap.push { cls := .type "list", dict := none, data := .seq ([] : List Value).toArray } } :=
    I2.laid (t' := s2.toks) (fun b u e => Heap.get?_push_of_some _ e) (Nat.le_refl _) ⟨Nat.zero_le _, [], 0, .nil, Heap.get?_push_size _ rfl⟩
  have W3 := hW s2.heap.objs.size hD
  have lt3 : ∀ b ∈ fp, b < s2.heap.objs.size := fun b hb => let ⟨o, e, _⟩ := T.obj _ _ st2 b hb; Heap.lt_size e
  have fp3 : ∀ b ∈ fp, FpOk X pins (upd H2 s2.heap.objs.size (.lst [])) b ∧ b < (s2.heap.push { cls := .type "list", dict := none, data := .seq ([] : List Value).toArray }).objs.size := fun b hb =>
    ⟨⟨by rw [upd_ne (Nat.ne_of_lt (lt3 b hb))]; exact (f2 b hb).1, (f2 b hb).2⟩, by rw [Heap.size_push]; exact Nat.lt_succ_of_lt (lt3 b hb)⟩
  have st3 : tn 0 (s2.heap.push { cls := .type "list", dict := none, data := .seq ([] : List Value).toArray }) := T.keep _ _ _ st2 fun b _ o e => Heap.get?_push_of_some _ e
  generalize hs3 : ({ s2 with heap := s2.heap.push { cls := .type "list", dict := none, data := .seq ([] : List Value).toArray } } : Shared) = s3 at I3
  generalize hH3 : upd H2 s2.heap.objs.size (.lst []) = H3 at I3 W3 fp3
  have eh : s2.heap.push { cls := .type "list", dict := none, data := .seq ([] : List Value).toArray } = s3.heap := by rw [← hs3]
  rw [eh] at fp3 st3
  refine wpAny_newFunctionEnv (fun x hx => (fits x hx).1) (by intro y hy; simp at hy) (fun h4 hns hsb => ?_) (compFit_kind hf)
  have kept : ∀ b o, s3.heap.get? b = some o → h4.get? b = some o := fun b o e => hsb.extBut b o (Nat.ne_of_lt (Heap.lt_size e)) (Heap.get?_push_of_some _ e)
  have I4 := comp_inv (own := own) (tk := s3.toks + ([] : List (Str × Value)).length) I3 hf hc fp3 hns kept
  have fp4 : ∀ b ∈ fp, FpOk (cmpCx X scope own ix s3.heap.objs.size s3 H3 fp) [] H3 b := fun b hb => by
    obtain ⟨⟨f0, f1, f2', f3, f4, f5⟩, lt⟩ := fp3 b hb
    refine ⟨f0, Nat.ne_of_lt lt, fun z => ?_, .inl hb, fun x c e => f4 x c (clOf_sub hfree (fun x c e => by simp at e) e), fun p hp => absurd (show p ∈ ([] : List (Addr × Obj)) ++ [] from hp) (by simp)⟩
    rcases List.mem_cons.mp (I3.stkSub b z) with z | z
    · exact f1 z
    · exact f2' z
  have st4 : tn 0 h4 := T.keep _ _ _ st3 fun b _ o e => kept b o e
  have loop := comp_loop (X := cmpCx X scope own ix s3.heap.objs.size s3 H3 fp) (iter := iter) (scope := scope) (pos := pos) (R := compPost (model X.prog X.w) X.A X.xe use Q' (.ref s2.heap.objs.size) s3.heap.objs.size) hcalm rfl rfl T (he _ _ _ _) (hg _ _ _ _) (ht _ _ _ _) I4 fp4 st4 W3
    (fun τ' H' s' I' q => by
      obtain ⟨J1, J2, J3, J4, J5, J6⟩ := comp_back I3 fp3 I'
      obtain ⟨m, hm, _⟩ := I'.loc
      exact hU _ _ H' s' m J1 q hm J2 J3 J4 J5 J6)
  exact codeAny_compStart_list loop (T.self X.A 0 _ _ _ st4 loop)
theorem pe_comp (hcalm : X.calm = true) (hf : compFit scope X.env.scope = true) (hc : captFit scope X.env.scope X.N ix = true)
    (hi : PI X tg iter wi) (hg : ∀ C s₀ H₀ ex, PG (cmpCx X scope own ix C s₀ H₀ ex) tg g) (ht : ∀ C s₀ H₀ ex, PTs (cmpCx X scope own ix C s₀ H₀ ex) ifs tc) (he : ∀ C s₀ H₀ ex, PE (cmpCx X scope own ix C s₀ H₀ ex) elt te)
    (hs : ∀ x, foldedSetIterable iter X.env x = pure x := by intro _; rfl) : PE X (.ListComp elt [⟨tg, iter, ifs, 0⟩] scope pos) (tComp wi own.length ix g tc te) := by
  intro pins s σ H Q I h
  rw [eval_ListComp]
  refine comp_run (use := none) hcalm hf hc hi hg ht he I h (fun D C H' s' m I' q hm n1 n2 n3 n4 n5 => ?_) hs
  refine ⟨m, hm, fun h' sb => ⟨.ref D, H', ?_, rfl, q⟩⟩
  exact I'.turned (t' := s'.toks) (it := C) (fun b o hb e => sb.extBut b o hb e) n1 (Ne.symm (Ne.symm n2)) (.inr n3) n4 n5
end
end L2

/-! ### deep values -/
namespace L2
open PySem PySem.Spec PyProof.Rows
/-- a value with all that it holds -/
inductive Dp where
  | non | bl (b : Bool) | int (i : Int) | str (x : Str) | tup (l : List Dp) | lst (l : List Dp)
mutual
def Rep (K : PySem.W.Frag) (H : Hp) : Dp → V → Prop
  | .non, v => v = .non
  | .bl b, v => v = .bl b
  | .int i, v => v = .int i
  | .str x, v => v = .str x
  | .tup l, v => ∃ a xs, v = .ref a ∧ SqT K H a xs ∧ Reps K H l xs
  | .lst l, v => ∃ a xs, v = .ref a ∧ SqL K H a xs ∧ Reps K H l xs
def Reps (K : PySem.W.Frag) (H : Hp) : List Dp → List V → Prop
  | [], vs => vs = []
  | d :: ds, vs => ∃ v r, vs = v :: r ∧ Rep K H d v ∧ Reps K H ds r
end
mutual
def Dp.deep : Dp → Nat
  | .tup l => Dp.deeps l + 1
  | .lst l => Dp.deeps l + 1
  | _ => 0
def Dp.deeps : List Dp → Nat
  | [] => 0
  | d :: ds => max d.deep (Dp.deeps ds)
end
theorem Same.seqT {K : PySem.W.Frag} {H H' : Hp} {a : Addr} {xs : List V} (e : Same H H') (h : SqT K H a xs) : SqT K H' a xs := by
  rcases h with (h | ⟨o, h⟩) | h
  · exact .inl (.inl (e _ _ h))
  · exact .inl (.inr ⟨o, e _ _ h⟩)
  · exact .inr h
mutual
theorem Rep.mono {K : PySem.W.Frag} {H H' : Hp} (e : Same H H') : ∀ {d : Dp} {v : V}, Rep K H d v → Rep K H' d v
  | .non, _, h => h
  | .bl _, _, h => h
  | .int _, _, h => h
  | .str _, _, h => h
  | .tup l, _, h => by
    unfold Rep at h ⊢
    obtain ⟨a, xs, e1, e2, e3⟩ := h
    exact ⟨a, xs, e1, e.seqT e2, Reps.mono e e3⟩
  | .lst l, _, h => by
    unfold Rep at h ⊢
    obtain ⟨a, xs, e1, e2, e3⟩ := h
    exact ⟨a, xs, e1, e.seq e2, Reps.mono e e3⟩
theorem Reps.mono {K : PySem.W.Frag} {H H' : Hp} (e : Same H H') : ∀ {ds : List Dp} {vs : List V}, Reps K H ds vs → Reps K H' ds vs
  | [], _, h => h
  | d :: ds, _, h => by
    unfold Reps at h ⊢
    obtain ⟨v, r, e1, e2, e3⟩ := h
    exact ⟨v, r, e1, Rep.mono e e2, Reps.mono e e3⟩
end
theorem Reps.length {K : PySem.W.Frag} {H : Hp} : ∀ {ds : List Dp} {vs : List V}, Reps K H ds vs → vs.length = ds.length
  | [], _, h => by unfold Reps at h; rw [h]; rfl
  | d :: ds, _, h => by
    unfold Reps at h
    obtain ⟨v, r, e1, _, e3⟩ := h
    rw [e1, List.length_cons, List.length_cons, Reps.length e3]
theorem Reps.get {K : PySem.W.Frag} {H : Hp} : ∀ {ds : List Dp} {vs : List V} {i : Nat} {d : Dp}, Reps K H ds vs → ds[i]? = some d → ∃ v, vs[i]? = some v ∧ Rep K H d v
  | [], _, _, _, _, e => by simp at e
  | d :: ds, _, 0, _, h, e => by
    unfold Reps at h
    obtain ⟨v, r, e1, e2, e3⟩ := h
    simp only [List.getElem?_cons_zero, Option.some.injEq] at e
    subst e
    exact ⟨v, by rw [e1]; rfl, e2⟩
  | d :: ds, _, i + 1, d', h, e => by
    unfold Reps at h
    obtain ⟨v, r, e1, e2, e3⟩ := h
    rw [List.getElem?_cons_succ] at e
    obtain ⟨v', h1, h2⟩ := Reps.get e3 e
    exact ⟨v', by rw [e1, List.getElem?_cons_succ]; exact h1, h2⟩
theorem Reps.append {K : PySem.W.Frag} {H : Hp} : ∀ {ds es : List Dp} {vs us : List V}, Reps K H ds vs → Reps K H es us → Reps K H (ds ++ es) (vs ++ us)
  | [], _, _, _, h, h' => by unfold Reps at h; rw [h]; exact h'
  | d :: ds, _, _, _, h, h' => by
    unfold Reps at h
    obtain ⟨v, r, e1, e2, e3⟩ := h
    rw [e1]
    show Reps K H (d :: (ds ++ _)) (v :: (r ++ _))
    unfold Reps
    exact ⟨v, _, rfl, e2, Reps.append e3 h'⟩
theorem Reps.nil {K : PySem.W.Frag} {H : Hp} : Reps K H [] [] := by unfold Reps; rfl
theorem Reps.cons {K : PySem.W.Frag} {H : Hp} {d : Dp} {ds : List Dp} {v : V} {vs : List V} (h : Rep K H d v) (h' : Reps K H ds vs) : Reps K H (d :: ds) (v :: vs) := by unfold Reps; exact ⟨v, vs, rfl, h, h'⟩
theorem Rep.tup_iff {K : PySem.W.Frag} {H : Hp} {l : List Dp} {v : V} : Rep K H (.tup l) v ↔ ∃ a xs, v = .ref a ∧ SqT K H a xs ∧ Reps K H l xs := by unfold Rep; exact Iff.rfl
theorem Rep.lst_iff {K : PySem.W.Frag} {H : Hp} {l : List Dp} {v : V} : Rep K H (.lst l) v ↔ ∃ a xs, v = .ref a ∧ SqL K H a xs ∧ Reps K H l xs := by unfold Rep; exact Iff.rfl
theorem Rep.int_iff {K : PySem.W.Frag} {H : Hp} {i : Int} {v : V} : Rep K H (.int i) v ↔ v = .int i := by unfold Rep; exact Iff.rfl
theorem Rep.str_iff {K : PySem.W.Frag} {H : Hp} {x : Str} {v : V} : Rep K H (.str x) v ↔ v = .str x := by unfold Rep; exact Iff.rfl
theorem Rep.bl_iff {K : PySem.W.Frag} {H : Hp} {b : Bool} {v : V} : Rep K H (.bl b) v ↔ v = .bl b := by unfold Rep; exact Iff.rfl
theorem Rep.non_iff {K : PySem.W.Frag} {H : Hp} {v : V} : Rep K H .non v ↔ v = .non := by unfold Rep; exact Iff.rfl
theorem Reps.nil_iff {K : PySem.W.Frag} {H : Hp} {vs : List V} : Reps K H [] vs ↔ vs = [] := by unfold Reps; exact Iff.rfl
theorem Reps.cons_iff {K : PySem.W.Frag} {H : Hp} {d : Dp} {ds : List Dp} {vs : List V} : Reps K H (d :: ds) vs ↔ ∃ v r, vs = v :: r ∧ Rep K H d v ∧ Reps K H ds r := by conv => lhs; unfold Reps
theorem Same.new {H : Hp} {p : Addr} (h : H p = none) (o : HO) : Same H (upd H p o) := fun b u q => by rw [upd_ne (ne_of_none q h)]; exact q

section
variable {X : Cx} {pins : List (Addr × Obj)} {σ : St} {H : Hp} {s : Shared}
/-- two values of the same make are equal -/
theorem all_true (n : Nat) : (List.range n).all (fun _ => true) = true := by simp
mutual
theorem eq_same (I : Inv X pins σ H s) : ∀ {d : Dp} {v u : V} {a b : Value} {A : Around}, Rep X.K H d v → Rep X.K H d u → RelV v a → RelV u b → A.units + d.deep < cLine → SeqAt.EqAt A s a b true
  | .non, v, u, a, b, A, h1, h2, r1, r2, _ => by
    rw [Rep.non_iff] at h1 h2
    subst h1; subst h2
    cases (show a = Value.none from r1)
    cases (show b = Value.none from r2)
    exact .same _
  | .bl c, v, u, a, b, A, h1, h2, r1, r2, _ => by
    rw [Rep.bl_iff] at h1 h2
    subst h1; subst h2
    cases (show a = Value.bool c from r1)
    cases (show b = Value.bool c from r2)
    exact .same _
  | .int i, v, u, a, b, A, h1, h2, r1, r2, _ => by
    rw [Rep.int_iff] at h1 h2
    subst h1; subst h2
    obtain ⟨t, rfl⟩ := (show ∃ t, a = Value.int i t from r1)
    obtain ⟨t', rfl⟩ := (show ∃ t, b = Value.int i t from r2)
    have := SeqAt.EqAt.int_int (A := A) (s := s) i t i t'
    rw [beq_self_eq_true] at this
    exact this
  | .str x, v, u, a, b, A, h1, h2, r1, r2, _ => by
    rw [Rep.str_iff] at h1 h2
    subst h1; subst h2
    obtain ⟨t, rfl⟩ := (show ∃ t, a = Value.str x t from r1)
    obtain ⟨t', rfl⟩ := (show ∃ t, b = Value.str x t from r2)
    have := SeqAt.EqAt.str_str (A := A) (s := s) x t x t'
    rw [beq_self_eq_true] at this
    exact this
  | .tup l, v, u, a, b, A, h1, h2, r1, r2, hu => by
    rw [Rep.tup_iff] at h1 h2
    obtain ⟨p, xs, rfl, q1, w1⟩ := h1
    obtain ⟨p', xs', rfl, q2, w2⟩ := h2
    cases (show a = Value.ref p from r1)
    cases (show b = Value.ref p' from r2)
    by_cases e : p = p'
    · subst e; exact .same _
    · obtain ⟨its, v1, t1, _⟩ := I.tuple q1
      obtain ⟨its', v2, t2, _⟩ := I.tuple q2
      unfold Dp.deep at hu
      have items := eq_sames I w1 w2 v1 v2 (A := A.in1) (by show A.units + 1 + _ < _; omega)
      have n1 : its.length = its'.length := by rw [← v1.length, ← v2.length, w1.length, w2.length]
      have q := SeqAt.RcAt.tuples (A := A) (s := s) (e := fun _ => true) t1 t2 (by omega) (fun j h1 h2 => items j its[j] its'[j] (by simp at h1; simp [h1]) (by simp at h2; simp [h2]))
      rw [all_true] at q
      refine .of_refs e ?_
      simpa [n1] using q
  | .lst l, v, u, a, b, A, h1, h2, r1, r2, hu => by
    rw [Rep.lst_iff] at h1 h2
    obtain ⟨p, xs, rfl, q1, w1⟩ := h1
    obtain ⟨p', xs', rfl, q2, w2⟩ := h2
    cases (show a = Value.ref p from r1)
    cases (show b = Value.ref p' from r2)
    by_cases e : p = p'
    · subst e; exact .same _
    · obtain ⟨its, v1, t1, _⟩ := I.list q1
      obtain ⟨its', v2, t2, _⟩ := I.list q2
      unfold Dp.deep at hu
      have items := eq_sames I w1 w2 v1 v2 (A := A.in1) (by show A.units + 1 + _ < _; omega)
      have n1 : its.length = its'.length := by rw [← v1.length, ← v2.length, w1.length, w2.length]
      have q := SeqAt.RcAt.lists (A := A) (s := s) (e := fun _ => true) t1.isList t2.isList (by simpa using n1) (by omega) (fun j h1 h2 => items j its[j] its'[j] (by simp at h1; simp [h1]) (by simp at h2; simp [h2]))
      rw [all_true] at q
      exact .of_refs e q
theorem eq_sames (I : Inv X pins σ H s) : ∀ {ds : List Dp} {vs us : List V} {as bs : List Value} {A : Around}, Reps X.K H ds vs → Reps X.K H ds us → Vals vs as → Vals us bs → A.units + Dp.deeps ds < cLine →
    ∀ (j : Nat) (a b : Value), as[j]? = some a → bs[j]? = some b → SeqAt.EqAt A s a b true
  | [], _, _, _, _, A, h1, h2, r1, r2, _, j, a, b, e1, e2 => by
    rw [Reps.nil_iff] at h1
    subst h1
    cases r1
    simp at e1
  | d :: ds, _, _, _, _, A, h1, h2, r1, r2, hu, j, a, b, e1, e2 => by
    rw [Reps.cons_iff] at h1 h2
    obtain ⟨v, r, rfl, x1, y1⟩ := h1
    obtain ⟨v', r', rfl, x2, y2⟩ := h2
    unfold Dp.deeps at hu
    cases r1 with
    | cons z1 t1 =>
      cases r2 with
      | cons z2 t2 =>
        cases j with
        | zero =>
          simp only [List.getElem?_cons_zero, Option.some.injEq] at e1 e2
          subst e1; subst e2
          exact eq_same I x1 x2 z1 z2 (by omega)
        | succ j =>
          rw [List.getElem?_cons_succ] at e1 e2
          exact eq_sames I y1 y2 t1 t2 (by omega) j a b e1 e2
end
end
section
variable {X : Cx}
/-- x == y, x != y of two of the same make -/
def rSame (K : PySem.W.Frag) (b : Bool) : R2 := fun x y H Q => ∃ d, Rep K H d x ∧ Rep K H d y ∧ d.deep ≤ 150 ∧ Q (.bl b) H
end
section
variable {X : Cx}
/-- isinstance(x, T) of a built-in type, of an own class -/
theorem call_isT : CallR X (.builtin "isinstance") (fun xs H Q => ∃ x T t b, xs = [x, .ty T] ∧ TyOf X.K H x t ∧ PySem.W.kitOne X.K t (.type T) = some b ∧ Q (.bl b) H) := by
  intro pins s σ H xs us Q I r h
  obtain ⟨x, T, t, b, rfl, ty, e, q⟩ := h
  obtain ⟨u1, u2, rfl, r1, r2⟩ := vals2 r
  cases (show u2 = Value.type T from r2)
  exact isinst_ok I r1 ty e fun tk => ⟨.bl b, H, I.tok tk, rfl, q⟩
end
/-! ### a def of the text with its address -/
structure DefAt (K : PySem.W.Frag) (mg : Str → Option Value) (x : Str) (st : Stmt) (ps : List Str) (f : Addr) (fd : FuncData) : Prop where
  F : Fun K x x st f fd
  b : Binds K fd ps []
  m : mg x = some (.ref f)
end L2

/-! ### the reading by rewriting -/
namespace L2
open PySem PySem.Spec PyProof.Rows
theorem rI0_i {g : Int → Int → V} {i j : Int} {H : Hp} {Q : VK} : rI0 g (.int i) (.int j) H Q ↔ Q (g i j) H := ⟨fun ⟨_, _, e1, e2, q⟩ => by cases e1; cases e2; exact q, fun q => ⟨_, _, rfl, rfl, q⟩⟩
theorem rI_i {C : Int → Int → Prop} {g : Int → Int → V} {i j : Int} {H : Hp} {Q : VK} : rI C g (.int i) (.int j) H Q ↔ C i j ∧ Q (g i j) H := ⟨fun ⟨_, _, e1, e2, c, q⟩ => by cases e1; cases e2; exact ⟨c, q⟩, fun q => ⟨_, _, rfl, rfl, q⟩⟩
theorem tVar_0 {a : V} {r : St} {H : Hp} {Q : VK} : tVar 0 (some a :: r) H Q ↔ Q a H := ⟨fun ⟨_, e, q⟩ => by cases e; exact q, fun q => ⟨_, rfl, q⟩⟩
theorem tVar_1 {a : Option V} {r : St} {H : Hp} {Q : VK} : tVar 1 (a :: r) H Q ↔ tVar 0 r H Q := Iff.rfl
theorem tVar_2 {a : Option V} {r : St} {H : Hp} {Q : VK} : tVar 2 (a :: r) H Q ↔ tVar 1 r H Q := Iff.rfl
theorem tVar_3 {a : Option V} {r : St} {H : Hp} {Q : VK} : tVar 3 (a :: r) H Q ↔ tVar 2 r H Q := Iff.rfl
theorem tVar_4 {a : Option V} {r : St} {H : Hp} {Q : VK} : tVar 4 (a :: r) H Q ↔ tVar 3 r H Q := Iff.rfl
theorem tVar_5 {a : Option V} {r : St} {H : Hp} {Q : VK} : tVar 5 (a :: r) H Q ↔ tVar 4 r H Q := Iff.rfl
theorem tVar_6 {a : Option V} {r : St} {H : Hp} {Q : VK} : tVar 6 (a :: r) H Q ↔ tVar 5 r H Q := Iff.rfl
theorem tVar_7 {a : Option V} {r : St} {H : Hp} {Q : VK} : tVar 7 (a :: r) H Q ↔ tVar 6 r H Q := Iff.rfl
theorem tVar_8 {a : Option V} {r : St} {H : Hp} {Q : VK} : tVar 8 (a :: r) H Q ↔ tVar 7 r H Q := Iff.rfl
theorem tVar_9 {a : Option V} {r : St} {H : Hp} {Q : VK} : tVar 9 (a :: r) H Q ↔ tVar 8 r H Q := Iff.rfl
theorem tC_i {v : V} {σ : St} {H : Hp} {Q : VK} : tC v σ H Q ↔ Q v H := Iff.rfl
theorem tOp_i {r : R2} {ta tb : TE} {σ : St} {H : Hp} {Q : VK} : tOp r ta tb σ H Q ↔ ta σ H fun x H1 => tb σ H1 fun y H2 => r x y H2 Q := Iff.rfl
theorem ex_bl {b : Bool} {p : Bool → Prop} : (∃ k, V.bl b = .bl k ∧ p k) ↔ p b := ⟨fun ⟨_, e, q⟩ => by cases e; exact q, fun q => ⟨_, rfl, q⟩⟩
theorem ex_int {b : Int} {p : Int → Prop} : (∃ k, V.int b = .int k ∧ p k) ↔ p b := ⟨fun ⟨_, e, q⟩ => by cases e; exact q, fun q => ⟨_, rfl, q⟩⟩
theorem ex_ref {b : Addr} {p : Addr → Prop} : (∃ k, V.ref b = .ref k ∧ p k) ↔ p b := ⟨fun ⟨_, e, q⟩ => by cases e; exact q, fun q => ⟨_, rfl, q⟩⟩
theorem tTest_i {t : TE} {σ : St} {H : Hp} {Q : Bool → Hp → Prop} : tTest t σ H Q ↔ t σ H fun x H' => ∃ k, x = .bl k ∧ Q k H' := Iff.rfl
theorem rEq_i {x y : V} {H : Hp} {Q : VK} : rEq x y H Q ↔ scal x y = true ∧ Q (.bl (decide (x = y))) H := Iff.rfl
theorem rNe_i {x y : V} {H : Hp} {Q : VK} : rNe x y H Q ↔ scal x y = true ∧ Q (.bl (!decide (x = y))) H := Iff.rfl
theorem int_eq {i j : Int} : (V.int i = V.int j) = (i = j) := by simp
theorem str_eq {i j : Str} : (V.str i = V.str j) = (i = j) := by simp
theorem ite_dec {c : Prop} [Decidable c] {A B : Prop} : (if decide c = true then A else B) ↔ if c then A else B := by simp
theorem ite_ndec {c : Prop} [Decidable c] {A B : Prop} : (if (!decide c) = true then A else B) ↔ if c then B else A := by by_cases h : c <;> simp [h]
/-- a subscript by a number -/
theorem rIxT_i {K : PySem.W.Frag} {p : Addr} {i : Int} {H : Hp} {Q : VK} {xs : List V} {v : V} (h : SqT K H p xs) (hv : atI xs i = some v) (q : Q v H) : rIxT K (.ref p) (.int i) H Q := ⟨p, xs, i, v, rfl, rfl, h, hv, q⟩
theorem rIxL_i {K : PySem.W.Frag} {p : Addr} {i : Int} {H : Hp} {Q : VK} {xs : List V} {v : V} (h : SqL K H p xs) (hv : atI xs i = some v) (q : Q v H) : rIxL K (.ref p) (.int i) H Q := ⟨p, xs, i, v, rfl, rfl, h, hv, q⟩
section
variable {P : Program} {w : World} {K : PySem.W.Frag} {mg : Str → Option Value} {base : Heap}
/-- THE RULE for a def, the frame's values written out -/
theorem Fun.okS {x qual : Str} {st : Stmt} {f : Addr} {fd : FuncData} {N ps : List Str} {k : Nat} {sp : Sp} (F : Fun K x qual st f fd) (S : FnScope N ps (defScope st)) (len : ∀ vs H Q E, sp vs H Q E → vs.length = ps.length)
    (hbody : ∀ (cdv : Value) (A : Around) (outer : List Env) (s : Shared) (H : Hp) (vs : List V) (Q : VK) (E : XK), Room k (A.deeper (envOfC qual (defScope st) s.heap.objs.size f cdv)) → sp vs H Q E →
      ∃ t σ, PSs (cxOf CX0 P w K mg base N qual (defScope st) f cdv A outer s H E).nox (defBody st) t ∧ L2.start N vs = σ ∧ t { nx := fun _ H' => Q .non H', rt := Q } σ H) : FnOk P w K mg base CX0 (k + 1) f fd ps sp :=
  F.ok S len fun cdv A outer s H vs Q E hr h => let ⟨t, _, h1, h2, h3⟩ := hbody cdv A outer s H vs Q E hr h; ⟨t, h1, by rw [h2]; exact h3⟩
end
theorem atI_map {α β : Type} {f : α → β} {xs : List α} {i : Int} (d : α) (h0 : 0 ≤ i) (h1 : i < xs.length) : atI (xs.map f) i = some (f (xs.getD i.toNat d)) := by
  have e : i = ((i.toNat : Nat) : Int) := by omega
  have h2 : i.toNat < xs.length := by omega
  conv => lhs; rw [e]
  refine atI_nat ?_
  rw [List.getElem?_map, List.getD_eq_getElem?_getD, List.getElem?_eq_getElem h2]
  rfl
theorem tCall_i {sp : Sp} {dvs : List V} {E : XK} {t : TA} {σ : St} {H : Hp} {Q : VK} : tCall sp dvs E t σ H Q ↔ t σ H fun vs H1 => sp (vs ++ dvs) H1 Q E := Iff.rfl
theorem tCons_i {ta : TE} {tr : TA} {σ : St} {H : Hp} {Q : List V → Hp → Prop} : tCons ta tr σ H Q ↔ ta σ H fun x H1 => tr σ H1 fun xs H2 => Q (x :: xs) H2 := Iff.rfl
theorem tNil_i {σ : St} {H : Hp} {Q : List V → Hp → Prop} : tNil σ H Q ↔ Q [] H := Iff.rfl
theorem tTup_i {t : TA} {σ : St} {H : Hp} {Q : VK} : tTup t σ H Q ↔ t σ H fun xs H1 => xs.length ≤ sizeLine ∧ ∀ p, H1 p = none → Q (.ref p) (upd H1 p (.tup xs)) := Iff.rfl
theorem tLst_i {t : TA} {σ : St} {H : Hp} {Q : VK} : tLst t σ H Q ↔ t σ H fun xs H1 => xs.length ≤ sizeLine ∧ ∀ p, H1 p = none → Q (.ref p) (upd H1 p (.lst xs)) := Iff.rfl
theorem small_i {n : Nat} (h : n ≤ 1000) : n ≤ sizeLine := Nat.le_of_lt (small1000 h)
theorem rIxL_new {K : PySem.W.Frag} {p : Addr} {i : Int} {H : Hp} {Q : VK} {xs : List V} {v : V} (hv : atI xs i = some v) (q : Q v (upd H p (.lst xs))) : rIxL K (.ref p) (.int i) (upd H p (.lst xs)) Q := ⟨p, xs, i, v, rfl, rfl, .of upd_same, hv, q⟩
/-- a new tuple's make -/
theorem Rep.new {K : PySem.W.Frag} {H : Hp} {p : Addr} {vs : List V} {ds : List Dp} (h : H p = none) (r : Reps K H ds vs) : Rep K (upd H p (.tup vs)) (.tup ds) (.ref p) := Rep.tup_iff.mpr ⟨p, vs, rfl, .of upd_same, r.mono (Same.new h _)⟩
theorem scal_ii {i j : Int} : scal (.int i) (.int j) = true := rfl
theorem scal_ss {i j : Str} : scal (.str i) (.str j) = true := rfl
theorem le_line {n : Nat} (h : n ≤ 1000) : (n ≤ sizeLine) = True := eq_true (small_i h)
theorem CDiv_i {i j : Int} : CDiv i j ↔ 0 < j ∧ j < 1073741824 := Iff.rfl
theorem cxOf_K {CX : CXT} {P : Program} {w : World} {K : PySem.W.Frag} {mg : Str → Option Value} {base : Heap} {N : List Str} {qual : Str} {scope : Scope} {f : Addr} {cd : Value} {A : Around} {outer : List Env} {s : Shared} {H : Hp} {E : XK} : (cxOf CX P w K mg base N qual scope f cd A outer s H E).K = K := rfl
theorem cmpCx_K {X : Cx} {scope : Scope} {own : List Str} {ix : List Nat} {C : Addr} {s₀ : Shared} {H₀ : Hp} {ex : List Addr} : (cmpCx X scope own ix C s₀ H₀ ex).K = X.K := rfl
theorem mulR {z b : Int} (h1 : -18446744073709551616 < b) (h2 : b < 18446744073709551616) : CMul z b := .inr ⟨h1, h2⟩
theorem mulL {z b : Int} (h1 : -18446744073709551616 < z) (h2 : z < 18446744073709551616) : CMul z b := .inl ⟨h1, h2⟩
theorem pl_bin {a b : Expr} {op : Operator} {pos : Pos} : PlainIx (.BinOp a op b pos) := fun _ _ => rfl
theorem pl_name {x : Str} {pos : Pos} : PlainIx (.Name x pos) := fun _ _ => rfl
theorem pl_const {c : Const} {k : Nat} {pos : Pos} : PlainIx (.Constant c k pos) := fun _ _ => rfl
theorem pl_sub {a b : Expr} {pos : Pos} : PlainIx (.Subscript a b pos) := fun _ _ => rfl
theorem pl_un {a : Expr} {op : UnaryOp} {pos : Pos} : PlainIx (.UnaryOp op a pos) := fun _ _ => rfl
theorem st_bin {a b : Expr} {op : Operator} {pos : Pos} {es : List Expr} {env : Env} : starEach (.BinOp a op b pos :: es) env = (false, eval (.BinOp a op b pos) env) :: starEach es env := rfl
theorem st_name {x : Str} {pos : Pos} {es : List Expr} {env : Env} : starEach (.Name x pos :: es) env = (false, eval (.Name x pos) env) :: starEach es env := rfl
theorem st_const {c : Const} {k : Nat} {pos : Pos} {es : List Expr} {env : Env} : starEach (.Constant c k pos :: es) env = (false, eval (.Constant c k pos) env) :: starEach es env := rfl
theorem st_sub {a b : Expr} {pos : Pos} {es : List Expr} {env : Env} : starEach (.Subscript a b pos :: es) env = (false, eval (.Subscript a b pos) env) :: starEach es env := rfl
theorem st_call {f : Expr} {as : List Expr} {ks : List Keyword} {pos : Pos} {es : List Expr} {env : Env} : starEach (.Call f as ks pos :: es) env = (false, eval (.Call f as ks pos) env) :: starEach es env := rfl
theorem st_lst {as : List Expr} {pos : Pos} {es : List Expr} {env : Env} : starEach (.List as pos :: es) env = (false, eval (.List as pos) env) :: starEach es env := rfl
theorem st_tup {as : List Expr} {k} {pos : Pos} {es : List Expr} {env : Env} : starEach (.Tuple as k pos :: es) env = (false, eval (.Tuple as k pos) env) :: starEach es env := rfl
theorem st_comp {a : Expr} {gs : List Comprehension} {sc : Scope} {pos : Pos} {es : List Expr} {env : Env} : starEach (.ListComp a gs sc pos :: es) env = (false, eval (.ListComp a gs sc pos) env) :: starEach es env := rfl
/-- a display of written constants -/
def constV : Expr → Option V
  | .Constant (.int i) _ _ => some (.int i)
  | .Constant (.str x) _ _ => some (.str x)
  | .Constant (.bool b) _ _ => some (.bl b)
  | .Constant .none _ _ => some .non
  | _ => none
def tVals (vs : List V) : TA := fun _ H Q => Q vs H
theorem pa_consts {X : Cx} : ∀ {es : List Expr} {vs : List V}, es.map constV = vs.map some → PA X es (tVals vs)
  | [], [], _ => pa_nil
  | [], _ :: _, h => by cases h
  | _ :: _, [], h => by cases h
  | e :: es, v :: vs, h => by
    rw [List.map_cons, List.map_cons] at h
    injection h with h1 h2
    have ih := pa_consts (X := X) h2
    have one : ∀ {e : Expr} {v : V}, PE X e (tC v) → (starEach (e :: es) X.env = (false, eval e X.env) :: starEach es X.env) → PA X (e :: es) (tVals (v :: vs)) := fun he hs pos pins s σ H Q I q => pa_cons he ih hs pos pins s σ H Q I q
    unfold constV at h1
    split at h1
    · cases h1; exact one pe_int st_const
    · cases h1; exact one pe_str st_const
    · cases h1; exact one pe_bl st_const
    · cases h1; exact one pe_non st_const
    · cases h1
theorem tVals_i {vs : List V} {σ : St} {H : Hp} {Q : List V → Hp → Prop} : tVals vs σ H Q ↔ Q vs H := Iff.rfl
theorem tDGet_i {td ty : TE} {σ : St} {H : Hp} {Q : VK} : tDGet td ty σ H Q ↔ td σ H fun x H1 => ty σ H1 fun y H2 => ∃ a v, x = .ref a ∧ DGet H2 a y (some v) ∧ Q v H2 := Iff.rfl
theorem tDNewK_i {σ : St} {H : Hp} {Q : VK} : tDNewK σ H Q ↔ ∀ p, H p = none → Q (.ref p) (upd H p (.dK [])) := Iff.rfl
theorem sDPut_i {td ty tv : TE} {D : Ends} {σ : St} {H : Hp} : sDPut td ty tv D σ H ↔ tv σ H fun v H1 => td σ H1 fun x H2 => ty σ H2 fun y H3 => ∃ a H4, x = .ref a ∧ DPut H3 a y v H4 ∧ D.nx σ H4 := Iff.rfl
theorem tCB_i {r : List V → Hp → VK → Prop} {t : TA} {σ : St} {H : Hp} {Q : VK} : tCB r t σ H Q ↔ t σ H fun vs H1 => r vs H1 Q := Iff.rfl
theorem tB_i {t : TE} {σ : St} {H : Hp} {Q : Bool → Hp → Prop} : tB t σ H Q ↔ t σ H fun x H1 => ∃ c, x = .bl c ∧ Q c H1 := Iff.rfl
theorem tNot_i {t : TT} {σ : St} {H : Hp} {Q : Bool → Hp → Prop} : tNot t σ H Q ↔ t σ H fun c H1 => Q (!c) H1 := Iff.rfl
end L2

/-! the mirror of everyrow.words over lists of codes -/
namespace PM
abbrev W := List Nat
inductive Tr where
  | num (n : Int) | box (x : W) | bin (o : W) (l r : Tr)
  deriving DecidableEq
def isLetter (c : Nat) : Bool := decide (97 ≤ c) && decide (c ≤ 122)
def isFigure (c : Nat) : Bool := decide (48 ≤ c) && decide (c ≤ 57)
/-- 0 a letter, 1 a figure, 2 a sign -/
def kind (c : Nat) : Nat := if isLetter c then 0 else if isFigure c then 1 else 2
def stepP (st : List W × Nat) (c : Nat) : List W × Nat :=
  if kind c ≠ 2 ∧ kind c = st.2 then (st.1.dropLast ++ [st.1.getLastD [] ++ [c]], kind c) else (st.1 ++ [[c]], kind c)
def piecesSt (w : W) : List W × Nat := w.foldl stepP ([], 3)
def pieces (w : W) : List W := (piecesSt w).1
def noNames : List W := [[98, 111, 120], [97, 115, 107], [112, 117, 116], [115, 97, 121], [105, 102], [101, 108, 115, 101], [119, 104, 105, 108, 101], [109, 117, 115, 116], [115, 116, 111, 112], [101, 110, 100]]
def isName (p : W) : Bool := decide (1 ≤ p.length) && decide (p.length ≤ 8) && p.all isLetter && !noNames.contains p
def isNumber (p : W) : Bool := decide (1 ≤ p.length) && decide (p.length ≤ 3) && p.all isFigure && (decide (p = [48]) || !decide (p.head? = some 48))
def numVal (p : W) : Int := p.foldl (fun (a : Int) (c : Nat) => a * 10 + ((c : Int) - 48)) 0
abbrev P := List W → Option (Tr × List W)
def facOf (sub : P) : P
  | [] => none
  | p :: r => if isNumber p then some (.num (numVal p), r) else if isName p then some (.box p, r) else if p = [40] then
      (match sub r with
      | some (e, q :: r') => if q = [41] then some (e, r') else none
      | _ => none) else none
def loopP (ops : List W) (f : P) : Nat → Tr → List W → Option (Tr × List W)
  | 0, e, ps => some (e, ps)
  | _ + 1, e, [] => some (e, [])
  | k + 1, e, p :: r => if p ∈ ops then (match f r with
      | none => none
      | some (e2, r') => loopP ops f k (.bin p e e2) r') else some (e, p :: r)
def prodP (f : P) : P := fun ps => match f ps with
  | none => none
  | some (e, r) => loopP [[42]] f r.length e r
def sumP (f : P) : P := fun ps => match prodP f ps with
  | none => none
  | some (e, r) => loopP [[43], [45]] (prodP f) r.length e r
def factor : Nat → P
  | 0 => facOf fun _ => none
  | n + 1 => facOf (sumP (factor n))
def expr (w : W) : Option Tr := if 60 < w.length then none else match sumP (factor 5) (pieces w) with
  | some (e, []) => some e
  | _ => none
/-! ### what is left gets shorter -/
def Short (f : P) : Prop := ∀ ps e r, f ps = some (e, r) → r.length < ps.length
def loop (ops : List W) (f : P) (e : Tr) (ps : List W) : Option (Tr × List W) := loopP ops f ps.length e ps
/-! ### how a loop ends -/
/-! ### the walk from sign to sign -/
def fac (p : W) : Bool := isNumber p || isName p
def opsAll : List W := [[43], [45], [42]]
def step (p : W) : Nat × Bool → Option (Nat × Bool)
  | (d, true) => if p = [40] then (if d + 1 > 5 then none else some (d + 1, true)) else if fac p then some (d, false) else none
  | (d, false) => if p = [41] then (if d = 0 then none else some (d - 1, false)) else if p ∈ opsAll then some (d, true) else none
def run : List W → Nat × Bool → Option (Nat × Bool)
  | [], s => some s
  | p :: r, s => match step p s with
    | none => none
    | some s' => run r s'
def good (ps : List W) : Prop := run ps (0, true) = some (0, false)
instance (ps : List W) : Decidable (good ps) := inferInstanceAs (Decidable (_ = _))
/-- what a reader at depth d does to the walk -/
structure Walk (d : Nat) (f : P) (nx : List W → Prop) : Prop where
  yes : ∀ ps e r, f ps = some (e, r) → run ps (d, true) = run r (d, false) ∧ nx r
  no : ∀ ps, f ps = none → run ps (d, true) ≠ some (0, false)
def nxF (_ : List W) : Prop := True
def nxP (r : List W) : Prop := r = [] ∨ ∃ q t, r = q :: t ∧ q ≠ [42]
def nxS (r : List W) : Prop := r = [] ∨ ∃ q t, r = q :: t ∧ q ∉ opsAll
end PM

namespace PM
/-! ### pieces -/
/-- what the walk that makes pieces keeps -/
structure PcOk (st : List W × Nat) (w : W) : Prop where
  flat : st.1.flatten = w
  some_ : ∀ p ∈ st.1, p ≠ []
  last : st.2 < 2 → st.1 ≠ []
  sort : ∀ p ∈ st.1, (∀ c ∈ p, kind c = 0) ∨ (∀ c ∈ p, kind c = 1) ∨ ∃ c, p = [c] ∧ kind c = 2
  mark : st.1 ≠ [] → ∃ p, st.1.getLast? = some p ∧ (st.2 < 2 → ∀ c ∈ p, kind c = st.2)
theorem split_last {α : Type} {l : List α} {p : α} (h : l.getLast? = some p) : l = l.dropLast ++ [p] := by
  have hne : l ≠ [] := by rintro rfl; cases h
  rw [List.getLast?_eq_some_getLast hne] at h
  have e := (List.dropLast_concat_getLast hne).symm
  cases h
  exact e
end PM

namespace PM
/-! ### a tree written with brackets, read again -/
def RF (n : Nat) (t : Tr) (L : List W) : Prop := ∀ rest, factor n (L ++ rest) = some (t, rest)
def RP (n : Nat) (t : Tr) (L : List W) : Prop := ∀ rest, prodP (factor n) (L ++ rest) = loop [[42]] (factor n) t rest
def RS (n : Nat) (t : Tr) (L : List W) : Prop := ∀ rest, nxP rest → sumP (factor n) (L ++ rest) = loop [[43], [45]] (prodP (factor n)) t rest
/-! the tree's own words -/
def isSum : Tr → Bool
  | .bin o _ _ => decide (o = [43]) || decide (o = [45])
  | _ => false
def isMul : Tr → Bool
  | .bin o _ _ => decide (o = [42])
  | _ => false
def brL (o : W) (l : Tr) (m : Int) : Bool := (decide (o = [42]) && isSum l) || decide (m % 5 = 1)
def brR (o : W) (r : Tr) (m : Int) : Bool := (isSum r || (decide (o = [42]) && isMul r)) || decide (m % 7 = 1)
def dig (n : Nat) : W := (Nat.toDigits 10 n).map Char.toNat
def put (b : Bool) (w : W) : W := if b then [40] ++ w ++ [41] else w
def putT (b : Bool) (w : List W) : List W := if b then [40] :: w ++ [[41]] else w
def toks : Tr → Int → List W
  | .num n, _ => [dig n.toNat]
  | .box x, _ => [x]
  | .bin o l r, m => putT (brL o l m) (toks l (m / 2)) ++ o :: putT (brR o r m) (toks r (m / 3))
/-- a tree as the laws make them -/
def TrOk : Tr → Prop
  | .num n => 0 ≤ n ∧ n ≤ 999
  | .box x => isName x = true
  | .bin o l r => (o = [43] ∨ o = [45] ∨ o = [42]) ∧ TrOk l ∧ TrOk r
/-! its pieces are its tokens -/
/-! how deep its brackets go -/
/-- brackets around -/
def around : Nat → W → W
  | 0, w => w
  | n + 1, w => put true (around n w)
def aroundT : Nat → List W → List W
  | 0, w => w
  | n + 1, w => putT true (aroundT n w)
end PM

namespace PM
/-! ### two heaps -/
end PM
namespace PM
end PM

/-! words without signs of sums: brackets around a leaf, or refused -/
namespace PM
def strip : Nat → W → Nat × W
  | 0, w => (0, w)
  | n + 1, w => if w.head? = some 40 ∧ w.getLast? = some 41 then ((strip n w.tail.dropLast).1 + 1, (strip n w.tail.dropLast).2) else (0, w)
def leaf (p : W) : Option Tr := if isName p then some (.box p) else if isNumber p then some (.num (numVal p)) else none
def due (w : W) : Option Tr := if 5 < (strip 6 w).1 then none else leaf (strip 6 w).2
theorem shape {w : W} (h : w.head? = some 40 ∧ w.getLast? = some 41) : w = [40] ++ w.tail.dropLast ++ [41] := by
  obtain ⟨h1, h2⟩ := h
  cases w with
  | nil => cases h1
  | cons c r =>
    cases h1
    cases r with
    | nil => simp at h2
    | cons d r =>
      have : (d :: r).getLast? = some 41 := by rw [List.getLast?_cons_cons] at h2; exact h2
      have e := split_last this
      show 40 :: (d :: r) = 40 :: ((d :: r).dropLast ++ [41])
      rw [← e]
def NoOp (w : W) : Prop := ∀ c ∈ w, c ≠ 43 ∧ c ≠ 45 ∧ c ≠ 42
end PM

/-! ### exceptions of the program's own classes -/
namespace L2
open PySem PySem.Spec PyProof.Rows

section
variable {P : Program} {w : World} {H H' : Hp} {h h' B : Heap} {a : Addr} {o : HO}
end

section
variable {X : Cx} {pins : List (Addr × Obj)} {σ : St} {H H' : Hp} {s s' : Shared} {h' : Heap} {E : XK} {x : Addr} {cls a0 : Value} {B : Heap}
end

section
variable {P : Program} {w : World} {K : PySem.W.Frag} {mg : Str → Option Value} {base : Heap} {N : List Str} {qual : Str} {scope : Scope} {f : Addr} {cd : Value} {A : Around} {outer : List Env} {s₀ : Shared} {H₀ : Hp} {E : XK}
end

/-! ### raise -/
/-- an error class of the text: C in K, under a built-in base -/
structure XCls (K : PySem.W.Frag) (C : Addr) : Prop where
  q : PySem.W.excIn K C [.type "ValueError", .type "Exception", .type "BaseException", .type "object"] "ValueError.__new__" = true
section
variable {X : Cx} {C : Addr} {E : XK} {x : Str} {np cpos pos : Pos} {e : Expr} {es : List Expr} {ta : TA}
end

/-! ### try: one call, one handler -/
section
variable {X : Cx} {pins : List (Addr × Obj)} {σ : St} {H : Hp} {s : Shared} {x : Addr}
/-- a new object is told of, that stood untracked -/
theorem Inv.told {o : HO} (I : Inv X pins σ H s) (n : H x = none) (h0 : X.s₀.heap.objs.size ≤ x) (hL : x ≠ X.env.locals) (hc : ∀ y c, X.env.cells.lookup y = some c → c ≠ x) (hp : ∀ p ∈ X.pn ++ pins, p.1 ≠ x) (ok : ObjOk X.prog X.w (upd H x o) s.heap x o) : Inv X pins σ (upd H x o) s := by
  have nx : ∀ b u, X.s₀.heap.get? b = some u → b ≠ x := fun b u e => Nat.ne_of_lt (Nat.lt_of_lt_of_le (Heap.lt_size e) h0)
  refine ⟨I.ok, I.os, I.bare, ⟨I.base.keep, I.base.slot, fun b u e n' hx => ?_, I.base.there, fun b xs e => ?_, fun b ob u e => ?_, fun b ps e => ?_⟩, I.loc, I.cell, ?_, fun y c e => ?_, fun p hp' => ?_, fun b u e => ?_, I.len⟩
  · rw [upd_ne (nx b u e)]; exact I.base.free b u e n' hx
  · have := I.base.tups b xs e
    rw [upd_ne (ne_of_none this n)]; exact this
  · have := I.base.frzs b ob u e
    rw [upd_ne (ne_of_none this n)]; exact this
  · obtain ⟨m, e1⟩ := I.base.tbls b ps e
    exact ⟨m, by rw [upd_ne (ne_of_none e1 n)]; exact e1⟩
  · rw [upd_ne (Ne.symm hL)]; exact I.free
  · rw [upd_ne (hc y c e)]; exact I.freeC y c e
  · obtain ⟨a, b, c⟩ := I.pin p hp'
    exact ⟨a, by rw [upd_ne (hp p hp')]; exact b, c⟩
  · by_cases hb : b = x
    · subst hb
      rw [upd_same] at e
      cases e
      exact ok
    · rw [upd_ne hb] at e
      exact (I.hok b u e).stay (fun _ _ _ q => q) (fun c q => by rw [upd_ne (ne_of_none q n)]; exact q) fun c xs q => by rw [upd_ne (ne_of_none q n)]; exact q
end
/-- the pins of a place as the context's own, another wish -/
abbrev Cx.pinned (X : Cx) (pins : List (Addr × Obj)) (xe : Value → Shared → Prop) : Cx := { X with pn := X.pn ++ pins, xe := xe }
section
variable {X : Cx} {pins pins' : List (Addr × Obj)} {σ : St} {H : Hp} {s : Shared} {xe : Value → Shared → Prop}
end
section
variable {X : Cx} {k : Nat} {f CH : Addr} {fd : FuncData} {ps : List Str} {sp : Sp} {fx cx : Str} {p pos pos' np hpos tpos : Pos} {e : Expr} {es : List Expr} {ta : TA} {ts : TS} {b0 : Stmt} {suite : List Stmt}
end
end L2

/-! ### a caught exception by its name: isinstance of it, and the suite of `except C as e` -/
namespace L2
open PySem PySem.Spec PySem.Calls PyProof.Rows Builtin Builtin.ObjectAttr Builtin.Getset_descriptor
/-- the object at x is of the class C -/
def OfCls (x C : Addr) (h : Heap) : Prop := ∃ o, h.get? x = some o ∧ o.cls = .ref C
section
variable {prog : Program} {w : World} {A : Around} {E : Value → Shared → Prop} {s : Shared} {K : PySem.W.Frag} {x C : Addr}
end
/-! the suite -/
def Ends.drop (D : Ends) (i : Nat) : Ends := { nx := fun σ H => D.nx (σ.set i none) H, rt := D.rt, bk := fun σ H => D.bk (σ.set i none) H, ct := fun σ H => D.ct (σ.set i none) H }
section
variable {X : Cx} {pins : List (Addr × Obj)} {σ : St} {H : Hp} {s : Shared} {x : Addr}
end
section
variable {X : Cx} {k i : Nat} {f CH : Addr} {fd : FuncData} {ps : List Str} {sp : Sp} {fx cx n : Str} {p pos pos' np hpos tpos : Pos} {e : Expr} {es : List Expr} {ta : TA} {ts : TS} {b0 : Stmt} {suite : List Stmt}
end
end L2

/-! ### texts -/
namespace L2
open PySem PySem.Spec PyProof.Rows
/-- a text's signs, one by one -/
def Its (z : Str) : It := ⟨fun i _ => i < z.cps.size, fun i H x H' => H' = H ∧ ∃ c, z.cps[i]? = some c ∧ x = .str ⟨#[c]⟩, fun i _ => z.cps.size ≤ i⟩
section
variable {P : Program} {w : World} {K : PySem.W.Frag} {tg : Expr}
end
section
variable {X : Cx} {tg : Expr}
def iStr (tl : TE) : TI := fun σ H R => tl σ H fun x H1 => ∃ z, x = .str z ∧ R (Its z) H1
end
/-! ### operations -/
/-- a part of a text -/
def cutS (z : Str) (lo hi : Option Int) : Str := ⟨((z.cps.toList.drop (HT.sIx z.length 0 lo)).take (HT.sIx z.length z.length hi - HT.sIx z.length 0 lo)).toArray⟩
theorem sIx_le {n d : Nat} (hd : d ≤ n) (o : Option Int) : HT.sIx n d o ≤ n := by
  cases o with
  | none => exact hd
  | some i =>
    show (if i < 0 then (i + n).toNat else min i.toNat n) ≤ n
    split <;> omega
section
variable {X : Cx}
/-- x * n -/
def repS (z : Str) (n : Nat) : Str := ⟨(List.replicate n z.cps).foldl (· ++ ·) #[]⟩
end
end L2

/-! ### words by their codes; what the reader of expressions promises -/
namespace L2
open PySem PySem.Spec PyProof.Rows
abbrev W := PM.W
def S (w : W) : Str := ⟨w.toArray⟩
def sv (w : W) : V := .str (S w)
def dpT : PM.Tr → Dp
  | .num n => .tup [.str "number", .int n]
  | .box x => .tup [.str "box", .str (S x)]
  | .bin o l r => .tup [.str (S o), dpT l, dpT r]
def Upto (p : Addr) (H H' : Hp) : Prop := ∀ b o, b ≠ p → H b = some o → H' b = some o
theorem Upto.refl (p : Addr) (H : Hp) : Upto p H H := fun _ _ _ h => h
theorem Upto.trans {p : Addr} {H H1 H2 : Hp} (a : Upto p H H1) (b : Upto p H1 H2) : Upto p H H2 := fun c o n h => b c o n (a c o n h)
theorem Upto.of {p : Addr} {H H' : Hp} (s : Same H H') : Upto p H H' := fun b o _ h => s b o h
theorem Upto.put {p : Addr} {H H1 : Hp} (a : Upto p H H1) (o : HO) : Upto p H (upd H1 p o) := fun b u n h => by rw [upd_ne n]; exact a b u n h
theorem Upto.new {p q : Addr} {H H1 : Hp} (a : Upto p H H1) (h : H1 q = none) (o : HO) : Upto p H (upd H1 q o) := fun b u n e => by rw [upd_ne (ne_of_none (a b u n e) h)]; exact a b u n e
/-- the reader's place in the pieces -/
structure PcO (CP : Addr) (H : Hp) (p l dx : Addr) (ps : List W) (k : Nat) : Prop where
  ins : H p = some (.ins CP dx [("pieces", .ref l), ("place", .int k)])
  own : H dx = some (.own p)
  lst : H l = some (.lst (ps.map sv))
  le : k ≤ ps.length
  pos : ∀ q ∈ ps, q ≠ []
  len : ∀ q ∈ ps, q.length ≤ 60
  many : ps.length ≤ 60
/-! the promises -/
section
variable (K : PySem.W.Frag) (CP CN : Addr)
end
section
variable {P : Program} {w : World} {K : PySem.W.Frag} {mg : Str → Option Value} {base : Heap}
end
end L2

/-! ### == of deep values -/
namespace L2
open PySem PySem.Spec PyProof.Rows
mutual
def Dp.py : Dp → PyData
  | .non => .none
  | .bl b => .bool b
  | .int i => .int i
  | .str x => .str x
  | .tup l => .tuple (Dp.pys l)
  | .lst l => .list (Dp.pys l)
def Dp.pys : List Dp → List PyData
  | [] => []
  | d :: r => d.py :: Dp.pys r
end
section
variable {X : Cx} {pins : List (Addr × Obj)} {σ : St} {H : Hp} {s : Shared}
mutual
theorem reads_of (I : Inv X pins σ H s) : ∀ {d : Dp} {v : V} {u : Value}, Rep X.K H d v → RelV v u → ∃ as, Reads s.heap u d.py as
  | .non, v, u, h, r => by rw [Rep.non_iff] at h; subst h; cases (show u = Value.none from r); exact ⟨_, .none⟩
  | .bl b, v, u, h, r => by rw [Rep.bl_iff] at h; subst h; cases (show u = Value.bool b from r); exact ⟨_, .bool b⟩
  | .int i, v, u, h, r => by rw [Rep.int_iff] at h; subst h; obtain ⟨t, rfl⟩ := (show ∃ t, u = Value.int i t from r); exact ⟨_, .int i t⟩
  | .str x, v, u, h, r => by rw [Rep.str_iff] at h; subst h; obtain ⟨t, rfl⟩ := (show ∃ t, u = Value.str x t from r); exact ⟨_, .str x t⟩
  | .tup l, v, u, h, r => by
    rw [Rep.tup_iff] at h
    obtain ⟨p, xs, rfl, q, w⟩ := h
    cases (show u = Value.ref p from r)
    obtain ⟨its, v1, t1, _⟩ := I.tuple q
    obtain ⟨as, ra⟩ := reads_ofs I w v1
    obtain ⟨o, h1, h2, n, h3⟩ := t1
    unfold Dp.py
    exact ⟨as, .tuple h1 h2 h3 (by simpa using ra)⟩
  | .lst l, v, u, h, r => by
    rw [Rep.lst_iff] at h
    obtain ⟨p, xs, rfl, q, w⟩ := h
    cases (show u = Value.ref p from r)
    obtain ⟨its, v1, t1, _⟩ := I.list q
    obtain ⟨as, ra⟩ := reads_ofs I w v1
    obtain ⟨o, h1, h2, n, h3⟩ := t1.isList
    unfold Dp.py
    exact ⟨_, .list h1 h2 h3 (by simpa using ra)⟩
theorem reads_ofs (I : Inv X pins σ H s) : ∀ {ds : List Dp} {vs : List V} {us : List Value}, Reps X.K H ds vs → Vals vs us → ∃ as, ReadsAll s.heap us (Dp.pys ds) as
  | [], _, _, h, r => by rw [Reps.nil_iff] at h; subst h; cases r; unfold Dp.pys; exact ⟨_, .nil⟩
  | d :: ds, _, _, h, r => by
    rw [Reps.cons_iff] at h
    obtain ⟨v, vs, rfl, x, y⟩ := h
    cases r with
    | cons r1 r2 =>
      obtain ⟨a, ra⟩ := reads_of I x r1
      obtain ⟨b, rb⟩ := reads_ofs I y r2
      unfold Dp.pys
      exact ⟨_, .cons ra rb⟩
end
end
section
variable {X : Cx}
def rEqD (K : PySem.W.Frag) (neg : Bool) : R2 := fun x y H Q => ∃ d e, Rep K H d x ∧ Rep K H e y ∧ SeqAt.shaped d.py = true ∧ SeqAt.shaped e.py = true ∧ Q (.bl (if neg then !PyData.eqv d.py e.py else PyData.eqv d.py e.py)) H
theorem op_neD (hu : X.A.units + 64 < cLine) : OpR X (compareOp .NotEq) (rEqD X.K true) := by
  intro pins s σ H x y v u Q I rx ry h
  obtain ⟨d, e, h1, h2, s1, s2, q⟩ := h
  obtain ⟨as, ra⟩ := reads_of I h1 rx
  obtain ⟨bs, rb⟩ := reads_of I h2 ry
  exact ne_dataH ra rb s1 s2 hu ⟨.bl (!PyData.eqv d.py e.py), H, I, rfl, q⟩
end
mutual
theorem eqv_refl : ∀ d : Dp, PyData.eqv d.py d.py = true
  | .non => rfl
  | .bl b => by simp [Dp.py, PyData.eqv]
  | .int i => by simp [Dp.py, PyData.eqv]
  | .str x => by simp [Dp.py, PyData.eqv]
  | .tup l => by simp only [Dp.py, PyData.eqv]; exact eqvs_refl l
  | .lst l => by simp only [Dp.py, PyData.eqv]; exact eqvs_refl l
theorem eqvs_refl : ∀ l : List Dp, PyData.eqvAll (Dp.pys l) (Dp.pys l) = true
  | [] => rfl
  | d :: r => by simp only [Dp.pys, PyData.eqvAll, eqv_refl d, eqvs_refl r, Bool.and_true]
end
/-- a statement, what comes behind it kept shut -/
theorem seq_gen {t u : TS} {D : Ends} {σ : St} {H : Hp} (h : ∀ U : St → Hp → Prop, (∀ σ' H', U σ' H' ↔ u D σ' H') → t { D with nx := U } σ H) : tSeq t u D σ H := h (u D) fun _ _ => Iff.rfl
/-! a long display, kept shut -/
theorem hu64 {A : Around} {k : Nat} (hr : Room k A) : A.units + 64 < cLine := hr.units
end L2

/-! ### what several laws reckon by -/
namespace L2
open PySem
/-! trees by a cell -/
/-! the promises -/
section
variable (K : PySem.W.Frag)
end
end L2

/-! ### deepness by whole numbers; chains -/
namespace L2
open PySem
/-! chains -/
section
variable (K : PySem.W.Frag)
end
end L2
namespace L2
open PySem
/-- isinstance(x, T) of a tuple however it stands -/
theorem call_isQ {X : Cx} : CallR X (.builtin "isinstance") (fun xs H Q => ∃ a T l b, xs = [.ref a, .ty T] ∧ SqT X.K H a l ∧ PySem.W.kitOne X.K (.type "tuple") (.type T) = some b ∧ Q (.bl b) H) := by
  intro pins s σ H xs us Q I r h
  obtain ⟨a, T, l, b, rfl, hS, e, q⟩ := h
  cases r with
  | cons r1 r2 =>
    cases r2 with
    | cons r3 r4 =>
      cases r4
      cases (show _ = Value.ref a from r1)
      cases (show _ = Value.type T from r3)
      obtain ⟨its, _, ⟨o, h1, h2, _⟩, _⟩ := I.tuple hS
      exact PySem.W.kia_one PySem.W.kitx_tuple I.kIn ⟨o, h1, h2⟩ e (fun z => nomatch z) fun tk => ⟨.bl b, H, I.tok tk, rfl, q⟩
end L2
namespace L2
open PySem
/-- a loop, kept shut while its range is reckoned -/
theorem for_gen1 {ta : TA} {g : TG} {tb : TS} {D : Ends} {σ : St} {H : Hp} (h : ∀ U : Int → Hp → Prop, (∀ j H1, (∃ W : Nat → Nat → St → Hp → Prop, (∃ m, W 0 m σ H1) ∧ ∀ i m σ H, W i m σ H →
    ((Itr 0 j.toNat).stop i H ∧ D.nx σ H) ∨ ((Itr 0 j.toNat).go i H ∧ ∃ N : St → Hp → Prop, (∀ σ' H', N σ' H' → ∃ m', m' < m ∧ W (i + 1) m' σ' H') ∧ ∀ x H', (Itr 0 j.toNat).yld i H x H' → g x σ H' fun σ2 H2 => tb { D with nx := N, ct := N, bk := D.nx } σ2 H2)) → U j H1) →
    ta σ H fun vs H1 => ∃ j : Int, vs = [.int j] ∧ -(2 ^ 62) ≤ j ∧ j < 2 ^ 62 ∧ U j H1) : tFor (iRng1 ta) g tb D σ H := h _ fun _ _ x => x
end L2
namespace L2
open PySem
def spLaw (K : PySem.W.Frag) : Sp := fun vs H Q _ => ∃ (a : Addr) (ns : List Int), vs = [.ref a] ∧ SqL K H a (ns.map .int) ∧ ns.length ≤ 63 ∧ ∀ H', Q (.bl true) H'
theorem cut63 (ns : List Int) (h : ns.length ≤ 63) : cutV (ns.map V.int) none (some 63) = ns.map V.int := by
  unfold cutV
  rw [HT.sIx_none, show (63 : Int) = ((63 : Nat) : Int) from rfl, HT.sIx_nat, List.length_map, List.drop_zero, Nat.sub_zero]
  exact List.take_of_length_le (by rw [List.length_map]; omega)
end L2

/-! ### for i, x in enumerate(list) -/
namespace L2
open PySem PySem.Spec PyProof.Rows
section
variable {X : Cx} {pins : List (Addr × Obj)} {σ : St} {H : Hp} {s : Shared} {h' : Heap}
/-- several objects of an iterator turned -/
theorem Inv.turnedAll {t' : Nat} {fp : List Addr} (I : Inv X pins σ H s) (k : ∀ b o, b ∉ fp → s.heap.get? b = some o → h'.get? b = some o) (hf : ∀ b ∈ fp, FpOk X pins H b) : Inv X pins σ H { s with heap := h', toks := t' } := by
  have nit : ∀ b u, H b = some u → b ∉ fp := fun b u e z => by rw [(hf b z).1] at e; cases e
  refine I.step (g' := s.gens) (d' := s.drawn) (ch := fp) (fun b hb => ?_) (fun b o _ _ hc e _ => k b o hc e) (fun b o _ _ hc e _ => ⟨o.slots, k b o hc e⟩) (fun _ _ _ _ n => n)
    (fun b o hc e => ⟨o, k b o hc e⟩) (fun _ _ e => e) (fun _ _ _ e => e) (fun b ps e => ⟨#[], by rw [e]; simp⟩) (fun m hm => ?_) (fun b u e => ?_) I.bare
  · obtain ⟨_, f1, _, f3, f4, f5⟩ := hf b hb
    exact ⟨f3, f1, f4, f5⟩
  · obtain ⟨o, es, ep, ho, r⟩ := hm
    exact ⟨o, es, ep, k _ o (fun z => (hf _ z).2.1 rfl) ho, r⟩
  · refine (I.hok b u e).stay (fun c v hc q => k c v ?_ q) (fun _ q => q) fun _ _ q => q
    rcases hc with z | z
    · rw [z]; exact nit b u e
    · exact nit c _ z
end
def Ite (K : PySem.W.Frag) (a : Addr) : It :=
  ⟨fun i H => ∃ xs x, SqL K H a xs ∧ xs[i]? = some x, fun i H x H' => ∃ p y, x = .ref p ∧ H p = none ∧ H' = upd H p (.tup [.int i, y]) ∧ ∀ xs, SqL K H a xs → xs[i]? = some y, fun i H => ∃ xs, SqL K H a xs ∧ xs.length ≤ i⟩
theorem turn_enum {P : Program} {w : World} {K : PySem.W.Frag} {elts : List Expr} {x1} {pos : Pos} (a e it : Addr) (hne : e ≠ it) :
    Turn P w K (.Tuple elts x1 pos) (Ite K a) [e, it] e (fun i h => (∃ old, IsEnum h e it i old) ∧ h.IsListIter it a i) where
  mem := by simp
  obj := fun i h st b hb => by
    obtain ⟨⟨old, he⟩, o, eo, c, d⟩ := st
    rcases List.mem_cons.mp hb with rfl | hb
    · exact ⟨_, he, fun v z => by cases (show Data.fields _ = Data.cell v from z)⟩
    · have z : b = it := by simpa using hb
      subst z
      exact ⟨o, eo, fun v z => by rw [d] at z; cases z⟩
  keep := fun i h h' st k => ⟨st.1.elim fun old he => ⟨old, k e (by simp) _ he⟩, st.2.at fun o x => k it (by simp) o x⟩
  item := by
    intro X hP hw hK hc i pins s σ H E I hf st hg
    subst hP hw hK
    obtain ⟨xs, x, hq, hx⟩ := hg
    obtain ⟨⟨old, he⟩, hit⟩ := st
    obtain ⟨its, rv, p, hz⟩ := I.list hq
    obtain ⟨u, hu, ru⟩ := rv.get hx
    refine wpAny_pyNext_enum_item he hit p.isList (x := u) (by simpa using hu) hne fun h' ho hit' hT hsz hk => ?_
    refine ⟨_, rfl, ?_⟩
    refine wpAny_letOwnedTupleGo_enum ho fun h2 he2 sb => ?_
    have lt_e : e < s.heap.objs.size := Heap.lt_size he
    have lt_it : it < s.heap.objs.size := by obtain ⟨_, x, _⟩ := hit; exact Heap.lt_size x
    have I1 : Inv X pins σ H { s with heap := h2, toks := s.toks + 1 } := I.turnedAll (t' := s.toks + 1) (fun b o hb q => (sb.2 b fun z => hb (by simp [z])).trans (hk b o (fun z => hb (by simp [z])) (fun z => hb (by simp [z])) q)) hf
    have fr : H s.heap.objs.size = none := I.hok.fresh (Nat.le_refl _)
    obtain ⟨g0, g1, g2, g3, g4, g5⟩ := I.fpOk (Nat.le_refl _) fr
    have tup2 : h2.get? s.heap.objs.size = some { cls := .type "tuple", data := .seq #[.int i s.toks, u] } := (sb.2 _ (Nat.ne_of_gt lt_e)).trans hT
    have I2 := I1.told (o := .tup [.int i, x]) fr I.sz g1 g4 g5 ⟨(show (2 : Nat) ≤ sizeLine by decide), [.int i s.toks, u], .cons ⟨_, rfl⟩ (.cons ru .nil), ⟨_, tup2, rfl, _, rfl⟩⟩
    refine ⟨.ref s.heap.objs.size, _, I2, rfl, ⟨_, x, rfl, fr, rfl, fun ys hy => by rw [I.list_inj hy hq]; exact hx⟩, ⟨⟨_, by exact_mod_cast he2⟩, hit'.at fun o q => (sb.2 it (Ne.symm hne)).trans q⟩, fun b hb => ?_⟩
    rw [upd_ne ?_]
    · exact (hf b hb).1
    · rcases List.mem_cons.mp hb with rfl | hb
      · exact Nat.ne_of_lt lt_e
      · have z : b = it := by simpa using hb
        subst z
        exact Nat.ne_of_lt lt_it
  done := by
    intro X hP hw hK hc i pins s σ H E I hf st hg
    subst hP hw hK
    obtain ⟨xs, hq, hx⟩ := hg
    obtain ⟨⟨old, he⟩, hit⟩ := st
    obtain ⟨its, rv, p, hz⟩ := I.list hq
    have hl := rv.length
    exact wpAny_pyNext_enum_end (I.ok.hd hc) he hit p.isList (by simp; omega) fun h' eb => ⟨rfl, I.turnedAll (t' := s.toks) (fun b o hb q => eb b o (fun z => hb (by simp [z])) q) hf⟩
  self := fun _ _ _ _ _ st h => st.1.elim fun _ he => wpAny_pyIter_enum he h
def iEnum (K : PySem.W.Frag) (ta : TA) : TI := fun σ H R => ta σ H fun vs H1 => ∃ a, vs = [.ref a] ∧ (∃ xs, SqL K H1 a xs) ∧ R (Ite K a) H1
theorem pi_enum {X : Cx} {elts : List Expr} {x1} {tp : Pos} {a : Expr} {ta : TA} {p pos : Pos} (hg : Gl X "enumerate") (hm : X.mg "enumerate" = none) (ha : PA X [a] ta) (hs : starEach [a] X.env = [(false, eval a X.env)] := by rfl) :
    PI X (.Tuple elts x1 tp) (.Call (.Name "enumerate" p) [a] [] pos) (iEnum X.K ta) := by
  intro pins s σ H R I h
  refine Call_ (ld_blt I hg hm PyProof.Rows.Boot.«enumerate» (PyProof.Rows.callWith_type1 (thn (ha pos pins s σ H _ I h) fun us s1 ⟨vs, H1, I1, r1, q1⟩ => ?_) hs rfl))
  obtain ⟨l, e, ⟨xs, hq⟩, q⟩ := q1
  subst e
  cases r1 with
  | cons r rr =>
    cases rr
    cases (show _ = Value.ref l from r)
    obtain ⟨its, rv, p, hz⟩ := I1.list hq
    refine call_enumerate_list p.isList fun h' he hit hsz hk => ?_
    refine wpAny_pyIter_enum he ?_
    have fr : ∀ b, s1.heap.objs.size ≤ b → H1 b = none := fun b hb => I1.hok.fresh hb
    refine ⟨s1.heap.objs.size + 1, [s1.heap.objs.size + 1, s1.heap.objs.size], _, _, H1, rfl, I1.kept (t' := s1.toks) hk, turn_enum l _ _ (Nat.succ_ne_self _), ⟨⟨_, he⟩, hit⟩, fun b hb => ?_, q⟩
    have hb' : s1.heap.objs.size ≤ b := by
      rcases List.mem_cons.mp hb with rfl | hb
      · exact Nat.le_succ _
      · have z : b = s1.heap.objs.size := by simpa using hb
        rw [z]; exact Nat.le_refl _
    exact I1.fpOk hb' (fr b hb')
theorem for_enum {K : PySem.W.Frag} {a : Addr} {xs : List V} {g : TG} {tb : TS} {D : Ends} {σ : St} {H : Hp} (Pv : Nat → St → Hp → Prop) (h0 : Pv 0 σ H) (hl : ∀ i σ H, i ≤ xs.length → Pv i σ H → SqL K H a xs)
    (hs : ∀ i x σ H p, xs[i]? = some x → Pv i σ H → H p = none → g (.ref p) σ (upd H p (.tup [.int i, x])) fun σ2 H2 => tb { D with nx := Pv (i + 1), ct := Pv (i + 1), bk := D.nx } σ2 H2) (hd : ∀ σ H, Pv xs.length σ H → D.nx σ H) :
    ∃ W : Nat → Nat → St → Hp → Prop, (∃ m, W 0 m σ H) ∧ ∀ i m σ H, W i m σ H →
      ((Ite K a).stop i H ∧ D.nx σ H) ∨ ((Ite K a).go i H ∧ ∃ N : St → Hp → Prop, (∀ σ' H', N σ' H' → ∃ m', m' < m ∧ W (i + 1) m' σ' H') ∧ ∀ x H', (Ite K a).yld i H x H' → g x σ H' fun σ2 H2 => tb { D with nx := N, ct := N, bk := D.nx } σ2 H2) := by
  refine ⟨fun i m σ H => m = xs.length - i ∧ i ≤ xs.length ∧ Pv i σ H, ⟨xs.length, by simp, Nat.zero_le _, h0⟩, ?_⟩
  rintro i m σ H ⟨rfl, hi, p⟩
  have q := hl i σ H hi p
  by_cases hlt : i < xs.length
  · refine .inr ⟨⟨xs, xs[i], q, by simp [hlt]⟩, Pv (i + 1), fun σ' H' p' => ⟨xs.length - (i + 1), by omega, rfl, hlt, p'⟩, fun x H' y => ?_⟩
    obtain ⟨pp, v, rfl, hn, rfl, y⟩ := y
    exact hs i v σ H pp (y xs q) p hn
  · have e : i = xs.length := by omega
    subst e
    exact .inl ⟨⟨xs, q, Nat.le_refl _⟩, hd σ H p⟩
end L2
namespace L2
open PySem
end L2

/-! ### (a, b, ..) = a list -/
namespace L2
open PySem PySem.Spec PyProof.Rows
section
variable {prog : Program} {w : World} {A : Around} {E : Value → Shared → Prop} {s : Shared}
theorem draw_lst {it l : Addr} {its : Array Value} (hne : l ≠ it) : ∀ (n i : Nat) (s : Shared) (Q : List Value → Shared → Prop), s.heap.IsListIter it l i → s.heap.IsList l its → i + n ≤ its.size →
    (∀ h', h'.IsListIter it l (i + n) → Heap.SameBut it s.heap h' → Q ((its.toList.drop i).take n) { s with heap := h' }) → wpAny (model prog w) A (draw (.ref it) n) Q E s
  | 0, i, s, Q, a, _, _, q => by
    show wpAny _ _ (pure []) Q E s
    exact wpAny_pure (by simpa using q s.heap a (Heap.SameBut.refl ..))
  | n + 1, i, s, Q, a, b, le, q => by
    have lt : i < its.size := by omega
    show wpAny _ _ (pyNext (.ref it) >>= _) Q E s
    refine wpAny_bind (wpAny_pyNext_list_item a b (x := its[i]) (by simp [lt]) fun h1 a1 s1 => ?_)
    have b1 : h1.IsList l its := by
      obtain ⟨o, ho, r⟩ := b
      exact ⟨o, (s1.2 l hne).trans ho, r⟩
    refine wpAny_bind (wpAny_holding (draw_lst hne n (i + 1) _ _ a1 b1 (by omega) fun h2 a2 s2 => wpAny_pure ?_))
    have e : its.toList.drop i = its[i] :: its.toList.drop (i + 1) := by simp [List.drop_eq_getElem_cons, lt]
    have z := q h2 (by rw [show i + (n + 1) = i + 1 + n by omega]; exact a2) (s1.trans s2)
    rw [e, List.take_succ_cons] at z
    exact z
theorem unpack_lst {l : Addr} {its : Array Value} {ts : List (Bool × (Value → Sem Unit))} {Q : Unit → Shared → Prop} (hh : A.handled = none) (b : s.heap.IsList l its) (hn : ts.length = its.size) (hst : ts.findIdx? (·.1) = none)
    (h : ∀ h', Heap.ExtBut s.heap.objs.size s.heap h' → wpAny (model prog w) A (assignInOrder (ts.map (·.2)) its.toList) Q E { s with heap := h' }) : wpAny (model prog w) A (unpack (.ref l) ts) Q E s := by
  have lt : l ≠ s.heap.objs.size := by obtain ⟨o, ho, _⟩ := b; exact Nat.ne_of_lt (Heap.lt_size ho)
  unfold unpack
  rw [hn, hst]
  refine wpAny_bind (wpAny_holding ?_)
  unfold unpackItems
  refine wpAny_bind ?_
  unfold notIterableAtAll
  refine wpAny_bind (wpAny_specialOf b.typeIs slot_list_iter.lookup ?_)
  refine wpAny_pure ?_
  simp only [Bool.false_eq_true, if_false]
  refine wpAny_bind (wpAny_holding (wpAny_pyIter_list b ?_))
  have stay : ∀ {h1 h2 : Heap}, Heap.ExtBut s.heap.objs.size h1 h2 → h1.IsList l its → h2.IsList l its := fun {h1 h2} e x => by
    obtain ⟨o, ho, r⟩ := x
    exact ⟨o, e l o lt ho, r⟩
  have b0 : (s.heap.push { cls := .type "list_iterator", data := .fields #[.ref l, .int 0 0] }).IsList l its := by
    obtain ⟨o, ho, r⟩ := b
    exact ⟨o, Heap.get?_push_of_some _ ho, r⟩
  refine wpAny_bind (wpAny_holding (draw_lst lt its.size 0 _ _ ⟨_, Heap.get?_push_size _ rfl, rfl, rfl⟩ b0 (by omega) fun h1 a1 s1 => ?_))
  have all : List.take its.size (List.drop 0 its.toList) = its.toList := by
    rw [List.drop_zero]; exact List.take_of_length_le (by simp)
  rw [all, if_neg (by simp)]
  have b1 : h1.IsList l its := stay s1.extBut b0
  refine wpAny_bind (wpAny_holding (wpAny_pyNext_list_end hh a1 b1 (by simp) fun h2 e2 => ?_))
  simp only [Option.isSome_none, Bool.false_eq_true, if_false]
  exact wpAny_pure (h h2 fun c o hc e => e2 c o hc (s1.extBut c o hc (Heap.get?_push_of_some _ e)))
end
/-- (a, b, ..) = a list of that length -/
def gLst (K : PySem.W.Frag) (n : Nat) (t : TGs) : TG := fun v σ H Q => ∃ a xs, v = .ref a ∧ SqL K H a xs ∧ xs.length = n ∧ t xs σ H Q
theorem pg_lst {X : Cx} {es : List Expr} {k} {pos : Pos} {t : TGs} {n : Nat} (hc : X.calm = true) (h : PGs X es t)
    (hn : (assignEach es X.env).length = n := by rfl) (hst : (assignEach es X.env).findIdx? (·.1) = none := by rfl) : PG X (.Tuple es k pos) (gLst X.K n t) := by
  intro pins s σ H v u Q I r hw
  obtain ⟨a, xs, rfl, hq, hl, hw⟩ := hw
  cases r
  obtain ⟨its, rv, hp, _⟩ := I.list hq
  rw [assign_Tuple]
  refine wpAny_bind (wpAny_standAt (unpack_lst (I.ok.hd hc) hp.isList (by simp [hn, ← hl, rv.length]) hst fun h' hx => ?_))
  have I1 : Inv X pins σ H { s with heap := h' } := I.kept (t' := s.toks) fun b o e => hx b o (Nat.ne_of_lt (Heap.lt_size e)) e
  exact h pins _ σ H xs _ Q I1 (by simpa using rv) hw
end L2

/-! ### a walk from sign to sign: its parts -/
namespace PM
end PM
namespace L2
open PySem
section
variable (K : PySem.W.Frag)
end
end L2
namespace L2
open PySem PySem.SeqAt
/-- x != [] -/
theorem op_ne_nil {X : Cx} (hu : X.A.units + 1 < cLine) : OpR X (compareOp .NotEq) (fun x y H Q => ∃ a b xs, x = .ref a ∧ y = .ref b ∧ SqL X.K H a xs ∧ SqL X.K H b [] ∧ Q (.bl (!xs.isEmpty)) H) := by
  intro pins s σ H x y v u Q I rx ry h
  obtain ⟨a, b, xs, rfl, rfl, h1, h2, q⟩ := h
  cases (show v = Value.ref a from rx)
  cases (show u = Value.ref b from ry)
  obtain ⟨its, v1, p1, _⟩ := I.list h1
  obtain ⟨its', v2, p2, _⟩ := I.list h2
  cases v2
  cases xs with
  | nil =>
    cases v1
    exact (RcNeAt.lists (e := fun _ => true) p1.isList p2.isList rfl (by omega) (fun j h1 => absurd h1 (by simp))) _ _ _ _ ⟨.bl false, H, I, rfl, q⟩
  | cons z zs =>
    cases v1
    exact (RcNeAt.lists_lengths p1.isList p2.isList (by simp) (by omega)) _ _ _ _ ⟨.bl true, H, I, rfl, q⟩
end L2
namespace PM
end PM
namespace L2
open PySem
end L2
namespace L2
open PySem
end L2
namespace L2
open PySem
end L2

/-! ### worths; two heaps -/
namespace L2
open PySem
def names3 : List W := [[97], [98, 98], [99]]
structure V3 (kvs : List (Key × V)) (val : W → Int) : Prop where
  yes : ∀ x ∈ names3, valV kvs (Sum.inr (S x)) = some (.int (val x))
  no : ∀ x, x ∉ names3 → valV kvs (Sum.inr (S x)) = none
  small : ∀ x, (val x).natAbs ≤ 2 ^ 60
section
variable (K : PySem.W.Frag)
end
end L2

namespace L2
open PySem PySem.Spec PyProof.Rows
end L2
namespace L2
open PySem
end L2
namespace L2
open PySem
/-- a loop over a list, kept shut while the list is made -/
theorem for_genL {K : PySem.W.Frag} {tl : TE} {g : TG} {tb : TS} {D : Ends} {σ : St} {H : Hp} (h : ∀ U : Addr → Hp → Prop, (∀ a H1, (∃ W : Nat → Nat → St → Hp → Prop, (∃ m, W 0 m σ H1) ∧ ∀ i m σ H, W i m σ H →
    ((Itl K a).stop i H ∧ D.nx σ H) ∨ ((Itl K a).go i H ∧ ∃ N : St → Hp → Prop, (∀ σ' H', N σ' H' → ∃ m', m' < m ∧ W (i + 1) m' σ' H') ∧ ∀ x H', (Itl K a).yld i H x H' → g x σ H' fun σ2 H2 => tb { D with nx := N, ct := N, bk := D.nx } σ2 H2)) → U a H1) →
    tl σ H fun x H1 => ∃ a, x = .ref a ∧ (∃ xs, SqL K H1 a xs) ∧ U a H1) : tFor (iList K tl) g tb D σ H := h _ fun _ _ x => x
end L2
namespace PM
end PM
namespace L2
open PySem
end L2
namespace L2
open PySem
def Tok (p : W) : Prop := p = [40] ∨ p = [41] ∨ p ∈ PM.opsAll ∨ (PM.fac p = true ∧ (PM.isName p = true → p ∈ names3))
end L2

/-! ### words of names, numbers and brackets -/
namespace L2
open PySem
theorem tVar_10 {a : Option V} {r : St} {H : Hp} {Q : VK} : tVar 10 (a :: r) H Q ↔ tVar 9 r H Q := Iff.rfl
theorem tVar_11 {a : Option V} {r : St} {H : Hp} {Q : VK} : tVar 11 (a :: r) H Q ↔ tVar 10 r H Q := Iff.rfl
theorem tVar_12 {a : Option V} {r : St} {H : Hp} {Q : VK} : tVar 12 (a :: r) H Q ↔ tVar 11 r H Q := Iff.rfl
def NoS (z : Str) : Prop := PM.NoOp z.cps.toList
section
variable (K : PySem.W.Frag)
end
end L2
namespace L2
open PySem PySem.SeqAt
end L2
namespace L2
open PySem
end L2
namespace L2
open PySem
end L2

/-! the mirror of the drawn programs: boxes, statements, and the walk that draws them -/
namespace PG
open PM (W Tr)
structure Box where
  name : W
  size : Int
  first : Int
inductive Stm where
  | ask (k : Int) (b : W)
  | put (k : Int) (b : W) (e : Tr)
  | say (k : Int) (e : Tr)
  | must (k : Int) (sg : W) (l r : Tr)
  | stop (k : Int)
  | ifs (k : Int) (sg : W) (l r : Tr) (a b : List Stm)
  | whl (k : Int) (sg : W) (l r : Tr) (a : List Stm)
def Stm.row : Stm → Int
  | .ask k _ => k | .put k _ _ => k | .say k _ => k | .must k _ _ _ => k | .stop k => k | .ifs k _ _ _ _ _ => k | .whl k _ _ _ _ => k
/-- the words of rows -/
inductive Wd where
  | ask | put | say | must | stop | ifs | whl | els | fin
  deriving DecidableEq
def Stm.wd : Stm → Wd
  | .ask _ _ => .ask | .put _ _ _ => .put | .say _ _ => .say | .must _ _ _ _ => .must | .stop _ => .stop | .ifs _ _ _ _ _ _ => .ifs | .whl _ _ _ _ _ => .whl
def divs : Nat → Int → Int
  | 0, c => c
  | n + 1, c => divs n (c / 1000003)
/-- the next number of the deck -/
def next (sc : List Int) (p : Nat) : Int :=
  let many := max 1 sc.length
  let cell := if sc = [] then 0 else sc.getD (p % many) 0
  if cell ≥ 10 ^ 18 then divs (min 60 (p / many)) cell % 1000003 else
    let a := (cell % 2147483629 + 51437 * ((p : Int) + 1) * ((p : Int) + 3) + 1409) % 2147483629
    let b := a * a % 2147483587
    let c := (b * 69621 + 401 * (p : Int) + 7) % 2147483579
    c * c % 2147483563 / 16
def pick {α : Type} (d : α) (l : List α) (n : Int) : α := l.getD n.toNat d
def genE (sc : List Int) (bs : List Box) : Nat → Nat → Tr × Nat
  | 0, p =>
    let kind := next sc p % 7
    if bs ≠ [] ∧ kind < 5 then (.box (pick ⟨[], 0, 0⟩ bs (next sc (p + 1) % bs.length)).name, p + 2) else (.num (next sc (p + 1) % pick 1 [3, 12, 1000] (next sc (p + 2) % 3)), p + 3)
  | d + 1, p =>
    let kind := next sc p % 7
    if kind < 3 then
      let one := genE sc bs d (p + 1)
      let two := genE sc bs d one.2
      (.bin (pick [] [[43], [45], [42]] kind) one.1 two.1, two.2)
    else if bs ≠ [] ∧ kind < 5 then (.box (pick ⟨[], 0, 0⟩ bs (next sc (p + 1) % bs.length)).name, p + 2) else (.num (next sc (p + 1) % pick 1 [3, 12, 1000] (next sc (p + 2) % 3)), p + 3)
/-! boxes, plain statements, the walk -/
def boxNames : List W := [[99], [98, 98], [97, 97, 97], [98, 111, 120, 101, 115]]
def genBoxes (sc : List Int) (spin : Int) : Nat → Nat → Nat → List Box × Nat
  | 0, _, p => ([], p)
  | n + 1, k, p =>
    let size := 2 + next sc p % pick 1 [3, 9] (next sc (p + 1) % 2)
    let r := genBoxes sc spin n (k + 1) (p + 3)
    (⟨pick [] boxNames (((k : Int) - spin) % 4), size, next sc (p + 2) % size⟩ :: r.1, r.2)
def sgs : List W := [[60], [61]]
def genPlain (sc : List Int) (bs : List Box) (k : Int) (p : Nat) : Stm × Nat :=
  let kind := next sc p % 10
  if bs ≠ [] ∧ kind < 3 then (.ask k (pick ⟨[], 0, 0⟩ bs (next sc (p + 1) % bs.length)).name, p + 2)
  else if bs ≠ [] ∧ kind < 6 then
    let e := genE sc bs 2 (p + 2)
    (.put k (pick ⟨[], 0, 0⟩ bs (next sc (p + 1) % bs.length)).name e.1, e.2)
  else if kind = 6 then
    let l := genE sc bs 1 (p + 2)
    let r := genE sc bs 1 l.2
    (.must k (pick [] sgs (next sc (p + 1) % 2)) l.1 r.1, r.2)
  else if kind = 7 then
    if next sc (p + 1) % 3 = 0 then (.stop k, p + 2) else
      let e := genE sc bs 2 (p + 2)
      (.say k e.1, e.2)
  else
    let e := genE sc bs 2 (p + 1)
    (.say k e.1, e.2)
/-- an open body: 0 the program's own, 1 an if's, 2 an else's, 3 a while's -/
structure Frame where
  kind : Nat
  body : List Stm
  k : Int := 0
  sg : W := []
  l : Tr := .num 0
  r : Tr := .num 0
  first : List Stm := []
def Frame.told (f : Frame) : Stm := if f.kind = 1 then .ifs f.k f.sg f.l f.r f.body [] else if f.kind = 2 then .ifs f.k f.sg f.l f.r f.first f.body else .whl f.k f.sg f.l f.r f.body
def close : List Frame → List Frame
  | f :: g :: r => { g with body := g.body ++ [f.told] } :: r
  | fs => fs
abbrev Row := Int × Wd
def number (n : Nat) (rows : List Row) (mode : Int) : Int :=
  if mode = 2 then n + 1 + 20 * rows.length else if mode = 3 then n + 1 + (rows.filter fun r => r.2 ≠ .els ∧ r.2 ≠ .fin).length else n + 1 + rows.length
structure Walk where
  p : Nat
  pile : List Frame
  rows : List Row
def turn (sc : List Int) (bs : List Box) (mode : Int) (w : Walk) : Walk :=
  let k := number bs.length w.rows mode
  let way := next sc w.p % 12
  if way < 2 ∧ w.pile.length > 1 then ⟨w.p + 1, close w.pile, w.rows ++ [(k, .fin)]⟩
  else match w.pile with
  | [] => w
  | f :: r =>
    if way = 2 ∧ f.kind = 1 then ⟨w.p + 1, { f with kind := 2, body := [], first := f.body } :: r, w.rows ++ [(k, .els)]⟩
    else if way < 6 ∧ w.pile.length < 4 then
      let l := genE sc bs 1 (w.p + 2)
      let e := genE sc bs 1 l.2
      let kd := pick 1 [1, 1, 3] (way % 3)
      ⟨e.2, { kind := kd, body := [], k := k, sg := pick [] sgs (next sc (w.p + 1) % 2), l := l.1, r := e.1 } :: w.pile, w.rows ++ [(k, if kd = 3 then .whl else .ifs)]⟩
    else
      let s := genPlain sc bs k (w.p + 1)
      ⟨s.2, { f with body := f.body ++ [s.1] } :: r, w.rows ++ [(k, s.1.wd)]⟩
def turns (sc : List Int) (bs : List Box) (mode : Int) : Nat → Walk → Walk
  | 0, w => w
  | n + 1, w => turns sc bs mode n (turn sc bs mode w)
def ends (n : Nat) (mode : Int) : Nat → Walk → Walk
  | 0, w => w
  | m + 1, w => if w.pile.length > 1 then ends n mode m ⟨w.p, close w.pile, w.rows ++ [(number n w.rows mode, .fin)]⟩ else w
structure Prog where
  boxes : List Box
  body : List Stm
def genProg (sc : List Int) (many : Nat) (p : Nat) : Prog × List Row :=
  let bs := genBoxes sc (next sc p % 4) (next sc (p + 1) % 5).toNat 0 (p + 2)
  let w := ends bs.1.length (next sc bs.2 % 4) 4 (turns sc bs.1 (next sc bs.2 % 4) many ⟨bs.2 + 1, [{ kind := 0, body := [] }], []⟩)
  (⟨bs.1, (w.pile.head?.map (·.body)).getD []⟩, w.rows)
end PG

namespace PG
open PM (W Tr)
mutual
def flatS : Stm → List Row
  | .ifs k _ _ _ a b => (k, .ifs) :: (flats a ++ flats b)
  | .whl k _ _ _ a => (k, .whl) :: flats a
  | .ask k _ => [(k, .ask)]
  | .put k _ _ => [(k, .put)]
  | .say k _ => [(k, .say)]
  | .must k _ _ _ => [(k, .must)]
  | .stop k => [(k, .stop)]
def flats : List Stm → List Row
  | [] => []
  | s :: r => flatS s ++ flats r
end
theorem flats_app : ∀ a b : List Stm, flats (a ++ b) = flats a ++ flats b
  | [], b => by simp [flats]
  | s :: r, b => by
    show flats (s :: (r ++ b)) = _
    rw [flats, flats, flats_app r b, List.append_assoc]
def Frame.flat (f : Frame) : List Row := (if f.kind = 0 then [] else [(f.k, if f.kind = 3 then Wd.whl else .ifs)]) ++ (if f.kind = 2 then flats f.first else []) ++ flats f.body
def flatOpen : List Frame → List Row
  | [] => []
  | f :: r => flatOpen r ++ f.flat
def plainRow (r : Row) : Bool := decide (r.2 ≠ .els ∧ r.2 ≠ .fin)
/-- the pile: the program's own body below, bodies of ifs, elses and whiles on it -/
def PileOk : List Frame → Prop
  | [] => False
  | [f] => f.kind = 0
  | f :: g :: r => (f.kind = 1 ∨ f.kind = 2 ∨ f.kind = 3) ∧ PileOk (g :: r)
theorem told_flat {f : Frame} (h : f.kind = 1 ∨ f.kind = 2 ∨ f.kind = 3) : flatS f.told = f.flat := by
  rcases h with h | h | h <;> simp [Frame.told, Frame.flat, h, flatS, flats]
theorem close_flat : ∀ {l : List Frame}, PileOk l → flatOpen (close l) = flatOpen l
  | [], h => h.elim
  | [f], _ => rfl
  | f :: g :: r, h => by
    have e := told_flat h.1
    show flatOpen r ++ Frame.flat _ = flatOpen r ++ g.flat ++ f.flat
    simp only [Frame.flat, flats_app, flats, e, List.append_nil]
    simp [Frame.flat]
theorem close_ok : ∀ {l : List Frame}, PileOk l → PileOk (close l) ∧ (close l).length = max 1 (l.length - 1)
  | [], h => h.elim
  | [f], h => ⟨h, rfl⟩
  | [f, g], h => ⟨h.2, rfl⟩
  | f :: g :: x :: r, h => ⟨⟨h.2.1, h.2.2⟩, by simp [close]⟩
theorem plain_wd (sc : List Int) (bs : List Box) (k : Int) (p : Nat) : flatS (genPlain sc bs k p).1 = [(k, (genPlain sc bs k p).1.wd)] ∧ (genPlain sc bs k p).1.wd ≠ .els ∧ (genPlain sc bs k p).1.wd ≠ .fin := by
  unfold genPlain
  simp only
  split
  · simp [flatS, Stm.wd]
  · split
    · simp [flatS, Stm.wd]
    · split
      · simp [flatS, Stm.wd]
      · split
        · split <;> simp [flatS, Stm.wd]
        · simp [flatS, Stm.wd]
structure WalkOk (w : Walk) : Prop where
  pile : PileOk w.pile
  flat : flatOpen w.pile = w.rows.filter plainRow
  most : w.pile.length ≤ 4
theorem turn_ok (sc : List Int) (bs : List Box) (mode : Int) {w : Walk} (h : WalkOk w) : WalkOk (turn sc bs mode w) := by
  obtain ⟨p, pile, rows⟩ := w
  obtain ⟨h1, h2, h3⟩ := h
  simp only at h1 h2 h3
  unfold turn
  simp only
  split
  · obtain ⟨a, b⟩ := close_ok h1
    refine ⟨a, ?_, ?_⟩
    · show flatOpen (close pile) = _
      rw [close_flat h1, h2, List.filter_append]
      simp [plainRow]
    · show (close pile).length ≤ 4
      omega
  · cases pile with
    | nil => exact h1.elim
    | cons f r =>
      simp only
      split
      · rename_i hc
        obtain ⟨_, hk⟩ := hc
        refine ⟨?_, ?_, h3⟩
        · cases r with
          | nil => rw [PileOk] at h1; omega
          | cons g r => exact ⟨.inr (.inl rfl), h1.2⟩
        · show flatOpen r ++ _ = _
          rw [List.filter_append, ← h2]
          simp [flatOpen, Frame.flat, plainRow, flats, hk]
      · split
        · rename_i hc
          have kk : ∀ n : Int, pick 1 [1, 1, 3] n = 1 ∨ pick 1 [1, 1, 3] n = 3 := fun n => by
            unfold pick
            rcases n.toNat with _ | _ | _ | m <;> simp
          have kk' := kk (next sc p % 12 % 3)
          generalize pick 1 [1, 1, 3] (next sc p % 12 % 3) = kd at kk' ⊢
          refine ⟨⟨?_, h1⟩, ?_, ?_⟩
          · simp only; omega
          · show flatOpen (f :: r) ++ _ = _
            rw [List.filter_append, h2]
            rcases kk' with rfl | rfl <;> simp [Frame.flat, plainRow, flats]
          · simp only [List.length_cons] at hc ⊢
            omega
        · obtain ⟨a, b, c⟩ := plain_wd sc bs (number bs.length rows mode) (p + 1)
          refine ⟨?_, ?_, h3⟩
          · cases r with
            | nil => exact h1
            | cons g r => exact ⟨h1.1, h1.2⟩
          · show flatOpen r ++ _ = _
            rw [List.filter_append, ← h2]
            simp [flatOpen, Frame.flat, flats_app, flats, a, plainRow, b, c]
theorem turns_ok (sc : List Int) (bs : List Box) (mode : Int) : ∀ (n : Nat) {w : Walk}, WalkOk w → WalkOk (turns sc bs mode n w)
  | 0, _, h => h
  | n + 1, _, h => turns_ok sc bs mode n (turn_ok sc bs mode h)
theorem ends_ok (n : Nat) (mode : Int) : ∀ (m : Nat) {w : Walk}, WalkOk w → w.pile.length ≤ m + 1 → WalkOk (ends n mode m w) ∧ (ends n mode m w).pile.length = 1
  | 0, w, h, hl => by
    have : w.pile ≠ [] := fun e => by have := h.pile; rw [e] at this; exact this
    have : 0 < w.pile.length := List.length_pos_iff.mpr this
    exact ⟨h, by show w.pile.length = 1; omega⟩
  | m + 1, w, h, hl => by
    unfold ends
    split
    · obtain ⟨a, b⟩ := close_ok h.pile
      refine ends_ok n mode m ⟨a, ?_, ?_⟩ ?_
      · show flatOpen (close w.pile) = _
        rw [close_flat h.pile, h.flat, List.filter_append]
        simp [plainRow]
      · show (close w.pile).length ≤ 4
        have := h.most
        omega
      · show (close w.pile).length ≤ _
        omega
    · have : w.pile ≠ [] := fun e => by have := h.pile; rw [e] at this; exact this
      have : 0 < w.pile.length := List.length_pos_iff.mpr this
      exact ⟨h, by omega⟩
/-- the rows of a drawn program are those of its statements -/
theorem prog_flat (sc : List Int) (many p : Nat) : flats (genProg sc many p).1.body = (genProg sc many p).2.filter plainRow := by
  unfold genProg
  simp only
  generalize genBoxes sc (next sc p % 4) (next sc (p + 1) % 5).toNat 0 (p + 2) = bs
  have h0 : WalkOk ⟨bs.2 + 1, [{ kind := 0, body := [] }], []⟩ := ⟨rfl, rfl, by simp⟩
  have h1 := turns_ok sc bs.1 (next sc bs.2 % 4) many h0
  obtain ⟨h2, h3⟩ := ends_ok bs.1.length (next sc bs.2 % 4) 4 h1 (by have := h1.most; omega)
  generalize ends bs.1.length (next sc bs.2 % 4) 4 (turns sc bs.1 (next sc bs.2 % 4) many ⟨bs.2 + 1, [{ kind := 0, body := [] }], []⟩) = w at h2 h3
  obtain ⟨pp, pile, rows⟩ := w
  obtain ⟨f, rfl⟩ : ∃ f, pile = [f] := List.length_eq_one_iff.mp h3
  have hk : f.kind = 0 := h2.pile
  have := h2.flat
  simp [flatOpen, Frame.flat, hk] at this
  simpa using this
end PG

namespace PG
open PM (W Tr)
abbrev FlowRow := Int × Wd × List Int
def firstRow : List Stm → Int → Int
  | [], x => x
  | s :: _, _ => s.row
mutual
def flowS : Stm → Int → List FlowRow
  | .ifs k _ _ _ a b, x => (k, .ifs, [firstRow a x, firstRow b x]) :: (flowB a x ++ flowB b x)
  | .whl k _ _ _ a, x => (k, .whl, [firstRow a k, x]) :: flowB a k
  | .ask k _, x => [(k, .ask, [x])]
  | .put k _ _, x => [(k, .put, [x])]
  | .say k _, x => [(k, .say, [x])]
  | .must k _ _ _, x => [(k, .must, [x])]
  | .stop k, _ => [(k, .stop, [0])]
def flowB : List Stm → Int → List FlowRow
  | [], _ => []
  | s :: r, x => flowS s (firstRow r x) ++ flowB r x
end
mutual
theorem flowS_row : ∀ (s : Stm) (x : Int), (flowS s x).map (fun r => (r.1, r.2.1)) = flatS s
  | .ifs k _ _ _ a b, x => by simp [flowS, flatS, flowB_row a x, flowB_row b x]
  | .whl k _ _ _ a, x => by simp [flowS, flatS, flowB_row a k]
  | .ask k _, x => rfl
  | .put k _ _, x => rfl
  | .say k _, x => rfl
  | .must k _ _ _, x => rfl
  | .stop k, _ => rfl
theorem flowB_row : ∀ (b : List Stm) (x : Int), (flowB b x).map (fun r => (r.1, r.2.1)) = flats b
  | [], _ => rfl
  | s :: r, x => by simp [flowB, flats, flowS_row s _, flowB_row r x]
end
/-- targets -/
inductive Tg where
  | row (k : Int) | side (k : Int) (b : Bool) | must (k : Int) | fin
  deriving DecidableEq
/-! how far the deck is drawn -/
theorem genE_p (sc : List Int) (bs : List Box) : ∀ (d p : Nat), p ≤ (genE sc bs d p).2 ∧ (genE sc bs d p).2 + 1 ≤ p + 4 * 2 ^ d
  | 0, p => by
    unfold genE
    simp only
    split <;> simp only <;> omega
  | d + 1, p => by
    have e : (2 : Nat) ^ (d + 1) = 2 * 2 ^ d := by rw [Nat.pow_succ]; omega
    have one : 1 ≤ 2 ^ d := Nat.one_le_two_pow
    unfold genE
    simp only
    rw [e]
    split
    · obtain ⟨a1, a2⟩ := genE_p sc bs d (p + 1)
      obtain ⟨b1, b2⟩ := genE_p sc bs d (genE sc bs d (p + 1)).2
      simp only
      omega
    · split <;> simp only <;> omega
theorem genPlain_p (sc : List Int) (bs : List Box) (k : Int) (p : Nat) : p ≤ (genPlain sc bs k p).2 ∧ (genPlain sc bs k p).2 ≤ p + 18 := by
  have e1 := fun q => genE_p sc bs 1 q
  have e2 := fun q => genE_p sc bs 2 q
  unfold genPlain
  simp only
  split
  · simp only; omega
  · split
    · have := e2 (p + 2); simp only; omega
    · split
      · have h1 := e1 (p + 2)
        have h2 := e1 (genE sc bs 1 (p + 2)).2
        simp only; omega
      · split
        · split
          · simp only; omega
          · have := e2 (p + 2); simp only; omega
        · have := e2 (p + 1); simp only; omega
theorem turn_p (sc : List Int) (bs : List Box) (mode : Int) (w : Walk) : w.p ≤ (turn sc bs mode w).p ∧ (turn sc bs mode w).p ≤ w.p + 20 := by
  have e1 := fun q => genE_p sc bs 1 q
  have e2 := fun k q => genPlain_p sc bs k q
  obtain ⟨p, pile, rows⟩ := w
  unfold turn
  simp only
  split
  · simp only; omega
  · cases pile with
    | nil => simp only; omega
    | cons f r =>
      simp only
      split
      · simp only; omega
      · split
        · have h1 := e1 (p + 2)
          have h2 := e1 (genE sc bs 1 (p + 2)).2
          simp only; omega
        · have := e2 (number bs.length rows mode) (p + 1)
          simp only; omega
theorem next_b (sc : List Int) (p : Nat) : 0 ≤ next sc p ∧ next sc p < 2 ^ 28 := by
  unfold next
  simp only
  split
  · have a := Int.emod_nonneg (divs (min 60 (p / max 1 sc.length)) (if sc = [] then 0 else sc.getD (p % max 1 sc.length) 0)) (show (1000003 : Int) ≠ 0 by decide)
    have b := Int.emod_lt_of_pos (divs (min 60 (p / max 1 sc.length)) (if sc = [] then 0 else sc.getD (p % max 1 sc.length) 0)) (show (0 : Int) < 1000003 by decide)
    omega
  · generalize (((((if sc = [] then 0 else sc.getD (p % max 1 sc.length) 0) % 2147483629 + 51437 * ((p : Int) + 1) * ((p : Int) + 3) + 1409) % 2147483629) * (((if sc = [] then 0 else sc.getD (p % max 1 sc.length) 0) % 2147483629 + 51437 * ((p : Int) + 1) * ((p : Int) + 3) + 1409) % 2147483629) % 2147483587 * 69621 + 401 * (p : Int) + 7) % 2147483579) = c
    have a := Int.emod_nonneg (c * c) (show (2147483563 : Int) ≠ 0 by decide)
    have b := Int.emod_lt_of_pos (c * c) (show (0 : Int) < 2147483563 by decide)
    omega
theorem genPlain_eq (sc : List Int) (bs : List Box) (k : Int) (p : Nat) : PG.genPlain sc bs k p =
    if bs ≠ [] ∧ next sc p % 10 < 3 then (.ask k (pick ⟨[], 0, 0⟩ bs (next sc (p + 1) % bs.length)).name, p + 2)
    else if bs ≠ [] ∧ next sc p % 10 < 6 then (.put k (pick ⟨[], 0, 0⟩ bs (next sc (p + 1) % bs.length)).name (genE sc bs 2 (p + 2)).1, (genE sc bs 2 (p + 2)).2)
    else if next sc p % 10 = 6 then (.must k (pick [] sgs (next sc (p + 1) % 2)) (genE sc bs 1 (p + 2)).1 (genE sc bs 1 (genE sc bs 1 (p + 2)).2).1, (genE sc bs 1 (genE sc bs 1 (p + 2)).2).2)
    else if next sc p % 10 = 7 then (if next sc (p + 1) % 3 = 0 then (.stop k, p + 2) else (.say k (genE sc bs 2 (p + 2)).1, (genE sc bs 2 (p + 2)).2))
    else (.say k (genE sc bs 2 (p + 1)).1, (genE sc bs 2 (p + 1)).2) := rfl
end PG

/-! the rows of a text, else and end among them, and the ways along them -/
namespace PG
open PM (W Tr)
mutual
def TextS : Stm → List Row → Prop
  | .ifs k _ _ _ a b, rs => (∃ ra n, TextB a ra ∧ b = [] ∧ rs = (k, .ifs) :: (ra ++ [(n, .fin)])) ∨ (∃ ra rb n m, TextB a ra ∧ TextB b rb ∧ rs = (k, .ifs) :: (ra ++ (n, .els) :: (rb ++ [(m, .fin)])))
  | .whl k _ _ _ a, rs => ∃ ra n, TextB a ra ∧ rs = (k, .whl) :: (ra ++ [(n, .fin)])
  | .ask k _, rs => rs = [(k, .ask)]
  | .put k _ _, rs => rs = [(k, .put)]
  | .say k _, rs => rs = [(k, .say)]
  | .must k _ _ _, rs => rs = [(k, .must)]
  | .stop k, rs => rs = [(k, .stop)]
def TextB : List Stm → List Row → Prop
  | [], rs => rs = []
  | s :: r, rs => ∃ r1 r2, TextS s r1 ∧ TextB r r2 ∧ rs = r1 ++ r2
end
theorem TextB.app : ∀ {a b : List Stm} {ra rb : List Row}, TextB a ra → TextB b rb → TextB (a ++ b) (ra ++ rb)
  | [], b, ra, rb, h, h' => by
    rw [TextB] at h
    subst h
    exact h'
  | s :: r, b, ra, rb, h, h' => by
    rw [TextB] at h
    obtain ⟨r1, r2, h1, h2, rfl⟩ := h
    rw [List.cons_append, TextB]
    exact ⟨r1, r2 ++ rb, h1, TextB.app h2 h', by rw [List.append_assoc]⟩
theorem TextB.one {s : Stm} {rs : List Row} (h : TextS s rs) : TextB [s] rs := by
  rw [TextB]
  exact ⟨rs, [], h, by rw [TextB], by simp⟩
theorem TextB.nil : TextB [] [] := by rw [TextB]
def FrameText (f : Frame) (rs : List Row) : Prop :=
  (f.kind = 0 ∧ TextB f.body rs) ∨ (f.kind = 1 ∧ ∃ rb, TextB f.body rb ∧ rs = (f.k, .ifs) :: rb) ∨
  (f.kind = 2 ∧ ∃ rf rb n, TextB f.first rf ∧ TextB f.body rb ∧ rs = (f.k, .ifs) :: (rf ++ (n, .els) :: rb)) ∨ (f.kind = 3 ∧ ∃ rb, TextB f.body rb ∧ rs = (f.k, .whl) :: rb)
def OpenText : List Frame → List Row → Prop
  | [], rs => rs = []
  | f :: r, rs => ∃ r1 r2, OpenText r r1 ∧ FrameText f r2 ∧ rs = r1 ++ r2
theorem told_text {f : Frame} {rs : List Row} (hk : f.kind = 1 ∨ f.kind = 2 ∨ f.kind = 3) (h : FrameText f rs) (n : Int) : TextS f.told (rs ++ [(n, .fin)]) := by
  rcases h with ⟨h0, _⟩ | ⟨h1, rb, t, rfl⟩ | ⟨h2, rf, rb, m, t1, t2, rfl⟩ | ⟨h3, rb, t, rfl⟩
  · omega
  · unfold Frame.told
    rw [if_pos h1, TextS]
    exact .inl ⟨rb, n, t, rfl, rfl⟩
  · unfold Frame.told
    rw [if_neg (by omega), if_pos h2, TextS]
    exact .inr ⟨rf, rb, m, n, t1, t2, by simp⟩
  · unfold Frame.told
    rw [if_neg (by omega), if_neg (by omega), TextS]
    exact ⟨rb, n, t, rfl⟩
/-- more statements behind in the same body -/
theorem FrameText.more {f : Frame} {rs t : List Row} {b : List Stm} (h : FrameText f rs) (ht : TextB b t) : FrameText { f with body := f.body ++ b } (rs ++ t) := by
  rcases h with ⟨h0, x⟩ | ⟨h1, rb, x, rfl⟩ | ⟨h2, rf, rb, m, t1, x, rfl⟩ | ⟨h3, rb, x, rfl⟩
  · exact .inl ⟨h0, x.app ht⟩
  · exact .inr (.inl ⟨h1, rb ++ t, x.app ht, rfl⟩)
  · exact .inr (.inr (.inl ⟨h2, rf, rb ++ t, m, t1, x.app ht, by simp⟩))
  · exact .inr (.inr (.inr ⟨h3, rb ++ t, x.app ht, rfl⟩))
theorem close_text {l : List Frame} {rs : List Row} (hp : PileOk l) (hl : 1 < l.length) (h : OpenText l rs) (n : Int) : OpenText (close l) (rs ++ [(n, .fin)]) := by
  match l, hp, hl, h with
  | f :: g :: r, hp, _, h =>
    rw [OpenText] at h
    obtain ⟨r1, r2, h1, h2, rfl⟩ := h
    rw [OpenText] at h1
    obtain ⟨r3, r4, h3, h4, rfl⟩ := h1
    show OpenText ({ g with body := g.body ++ [f.told] } :: r) _
    rw [OpenText]
    exact ⟨r3, r4 ++ (r2 ++ [(n, .fin)]), h3, h4.more (.one (told_text hp.1 h2 n)), by simp⟩
theorem plain_text (sc : List Int) (bs : List Box) (k : Int) (p : Nat) : TextS (genPlain sc bs k p).1 [(k, (genPlain sc bs k p).1.wd)] := by
  unfold genPlain
  simp only
  split
  · simp [TextS, Stm.wd]
  · split
    · simp [TextS, Stm.wd]
    · split
      · simp [TextS, Stm.wd]
      · split
        · split <;> simp [TextS, Stm.wd]
        · simp [TextS, Stm.wd]
theorem turn_text (sc : List Int) (bs : List Box) (mode : Int) {w : Walk} (ok : WalkOk w) (h : OpenText w.pile w.rows) : OpenText (turn sc bs mode w).pile (turn sc bs mode w).rows := by
  obtain ⟨p, pile, rows⟩ := w
  have h1 := ok.pile
  simp only at h h1
  unfold turn
  simp only
  split
  · rename_i hc
    exact close_text h1 hc.2 h _
  · cases pile with
    | nil => exact h1.elim
    | cons f r =>
      simp only
      split
      · rename_i hc
        rw [OpenText] at h
        obtain ⟨r1, r2, x1, x2, rfl⟩ := h
        show OpenText ({ f with kind := 2, body := [], first := f.body } :: r) _
        rw [OpenText]
        rcases x2 with ⟨z, _⟩ | ⟨_, rb, t, rfl⟩ | ⟨z, _⟩ | ⟨z, _⟩
        · omega
        · exact ⟨r1, _, x1, .inr (.inr (.inl ⟨rfl, rb, [], number bs.length (r1 ++ (f.k, .ifs) :: rb) mode, t, .nil, rfl⟩)), by simp⟩
        · omega
        · omega
      · split
        · have kk : ∀ n : Int, pick 1 [1, 1, 3] n = 1 ∨ pick 1 [1, 1, 3] n = 3 := fun n => by
            unfold pick
            rcases n.toNat with _ | _ | _ | m <;> simp
          have kk' := kk (next sc p % 12 % 3)
          generalize pick 1 [1, 1, 3] (next sc p % 12 % 3) = kd at kk' ⊢
          show OpenText ({ kind := kd, body := [], k := number bs.length rows mode, sg := _, l := _, r := _ } :: f :: r) _
          rw [OpenText]
          rcases kk' with rfl | rfl
          · exact ⟨rows, _, h, .inr (.inl ⟨rfl, [], .nil, rfl⟩), rfl⟩
          · exact ⟨rows, _, h, .inr (.inr (.inr ⟨rfl, [], .nil, rfl⟩)), rfl⟩
        · rw [OpenText] at h
          obtain ⟨r1, r2, x1, x2, rfl⟩ := h
          show OpenText ({ f with body := f.body ++ [_] } :: r) _
          rw [OpenText]
          exact ⟨r1, _, x1, x2.more (.one (plain_text sc bs _ (p + 1))), by simp⟩
theorem turns_text (sc : List Int) (bs : List Box) (mode : Int) : ∀ (n : Nat) {w : Walk}, WalkOk w → OpenText w.pile w.rows → OpenText (turns sc bs mode n w).pile (turns sc bs mode n w).rows
  | 0, _, _, h => h
  | n + 1, _, ok, h => turns_text sc bs mode n (turn_ok sc bs mode ok) (turn_text sc bs mode ok h)
theorem ends_text (n : Nat) (mode : Int) : ∀ (m : Nat) {w : Walk}, WalkOk w → OpenText w.pile w.rows → OpenText (ends n mode m w).pile (ends n mode m w).rows
  | 0, _, _, h => h
  | m + 1, w, ok, h => by
    unfold ends
    split
    · rename_i hl
      obtain ⟨a, b⟩ := close_ok ok.pile
      refine ends_text n mode m ⟨a, ?_, ?_⟩ (close_text ok.pile hl h _)
      · show flatOpen (close w.pile) = _
        rw [close_flat ok.pile, ok.flat, List.filter_append]
        simp [plainRow]
      · show (close w.pile).length ≤ 4
        have := ok.most
        omega
    · exact h
/-- the drawn rows are the text of the drawn program -/
theorem prog_text (sc : List Int) (many p : Nat) : TextB (genProg sc many p).1.body (genProg sc many p).2 := by
  unfold genProg
  simp only
  generalize genBoxes sc (next sc p % 4) (next sc (p + 1) % 5).toNat 0 (p + 2) = bs
  have h0 : WalkOk ⟨bs.2 + 1, [{ kind := 0, body := [] }], []⟩ := ⟨rfl, rfl, by simp⟩
  have t0 : OpenText [{ kind := 0, body := [] }] [] := by
    rw [OpenText]
    exact ⟨[], [], by rw [OpenText], .inl ⟨rfl, .nil⟩, rfl⟩
  have h1 := turns_ok sc bs.1 (next sc bs.2 % 4) many h0
  have t1 := turns_text sc bs.1 (next sc bs.2 % 4) many h0 t0
  obtain ⟨h2, h3⟩ := ends_ok bs.1.length (next sc bs.2 % 4) 4 h1 (by have := h1.most; omega)
  have t2 := ends_text bs.1.length (next sc bs.2 % 4) 4 h1 t1
  generalize ends bs.1.length (next sc bs.2 % 4) 4 (turns sc bs.1 (next sc bs.2 % 4) many ⟨bs.2 + 1, [{ kind := 0, body := [] }], []⟩) = w at h2 h3 t2
  obtain ⟨pp, pile, rows⟩ := w
  obtain ⟨f, rfl⟩ : ∃ f, pile = [f] := List.length_eq_one_iff.mp h3
  have hk : f.kind = 0 := h2.pile
  simp only at t2
  rw [OpenText] at t2
  obtain ⟨r1, r2, x1, x2, rfl⟩ := t2
  rw [OpenText] at x1
  subst x1
  rcases x2 with ⟨_, t⟩ | ⟨z, _⟩ | ⟨z, _⟩ | ⟨z, _⟩
  · simpa using t
  · omega
  · omega
  · omega
/-! bounds -/
def LenOk (n : Nat) (w : Walk) : Prop := (∀ f ∈ w.pile, f.body.length ≤ n) ∧ w.rows.length ≤ n
theorem turn_len (sc : List Int) (bs : List Box) (mode : Int) {n : Nat} {w : Walk} (h : LenOk n w) : LenOk (n + 1) (turn sc bs mode w) := by
  obtain ⟨p, pile, rows⟩ := w
  obtain ⟨h1, h2⟩ := h
  simp only at h1 h2
  have up : ∀ f ∈ pile, f.body.length ≤ n + 1 := fun f hf => Nat.le_succ_of_le (h1 f hf)
  have cl : ∀ l : List Frame, (∀ f ∈ l, f.body.length ≤ n) → ∀ f ∈ close l, f.body.length ≤ n + 1 := by
    intro l hl f hf
    match l, hl, hf with
    | [], _, hf => cases hf
    | [x], hl, hf => exact Nat.le_succ_of_le (hl f hf)
    | x :: y :: r, hl, hf =>
      rcases List.mem_cons.mp hf with rfl | hf
      · simp
        have := hl y (by simp)
        omega
      · exact Nat.le_succ_of_le (hl f (by simp [hf]))
  unfold turn
  simp only
  split
  · exact ⟨cl pile h1, by simp; omega⟩
  · cases pile with
    | nil => exact ⟨up, by simp only; omega⟩
    | cons f r =>
      simp only
      split
      · refine ⟨fun x hx => ?_, by simp; omega⟩
        rcases List.mem_cons.mp hx with rfl | hx
        · simp
        · exact up x (by simp [hx])
      · split
        · refine ⟨fun x hx => ?_, by simp; omega⟩
          rcases List.mem_cons.mp hx with rfl | hx
          · simp
          · exact up x hx
        · refine ⟨fun x hx => ?_, by simp; omega⟩
          rcases List.mem_cons.mp hx with rfl | hx
          · have := h1 f (by simp)
            simp
            omega
          · exact up x (by simp [hx])
theorem turns_succ (sc : List Int) (bs : List Box) (mode : Int) : ∀ (n : Nat) (w : Walk), turns sc bs mode (n + 1) w = turn sc bs mode (turns sc bs mode n w)
  | 0, _ => rfl
  | n + 1, w => turns_succ sc bs mode n (turn sc bs mode w)
theorem turn_eq (sc : List Int) (bs : List Box) (mode : Int) (p : Nat) (f : Frame) (r : List Frame) (rows : List Row) : turn sc bs mode ⟨p, f :: r, rows⟩ =
    if next sc p % 12 < 2 ∧ (f :: r).length > 1 then ⟨p + 1, close (f :: r), rows ++ [(number bs.length rows mode, .fin)]⟩
    else if next sc p % 12 = 2 ∧ f.kind = 1 then ⟨p + 1, { f with kind := 2, body := [], first := f.body } :: r, rows ++ [(number bs.length rows mode, .els)]⟩
    else if next sc p % 12 < 6 ∧ (f :: r).length < 4 then
      ⟨(genE sc bs 1 (genE sc bs 1 (p + 2)).2).2, { kind := pick 1 [1, 1, 3] (next sc p % 12 % 3), body := [], k := number bs.length rows mode, sg := pick [] sgs (next sc (p + 1) % 2), l := (genE sc bs 1 (p + 2)).1, r := (genE sc bs 1 (genE sc bs 1 (p + 2)).2).1 } :: f :: r, rows ++ [(number bs.length rows mode, if pick 1 [1, 1, 3] (next sc p % 12 % 3) = 3 then .whl else .ifs)]⟩
    else ⟨(genPlain sc bs (number bs.length rows mode) (p + 1)).2, { f with body := f.body ++ [(genPlain sc bs (number bs.length rows mode) (p + 1)).1] } :: r, rows ++ [(number bs.length rows mode, (genPlain sc bs (number bs.length rows mode) (p + 1)).1.wd)]⟩ := rfl
theorem genBoxes_len (sc : List Int) (spin : Int) : ∀ (n k p : Nat), (genBoxes sc spin n k p).1.length = n ∧ (genBoxes sc spin n k p).2 = p + 3 * n
  | 0, _, p => ⟨rfl, rfl⟩
  | n + 1, k, p => by
    obtain ⟨a, b⟩ := genBoxes_len sc spin n (k + 1) (p + 3)
    unfold genBoxes
    simp only [List.length_cons]
    exact ⟨by rw [a], by rw [b]; omega⟩
theorem close_walk {w : Walk} (ok : WalkOk w) (k : Int) : WalkOk ⟨w.p, close w.pile, w.rows ++ [(k, .fin)]⟩ := by
  obtain ⟨a, b⟩ := close_ok ok.pile
  refine ⟨a, ?_, ?_⟩
  · show flatOpen (close w.pile) = _
    rw [close_flat ok.pile, ok.flat, List.filter_append]
    simp [plainRow]
  · show (close w.pile).length ≤ 4
    have := ok.most
    omega
theorem close_len {n : Nat} {w : Walk} (h : LenOk n w) (k : Int) : LenOk (n + 1) ⟨w.p, close w.pile, w.rows ++ [(k, .fin)]⟩ := by
  obtain ⟨h1, h2⟩ := h
  refine ⟨?_, by simp; omega⟩
  intro f hf
  obtain ⟨p, pile, rows⟩ := w
  simp only at h1 hf
  match pile, h1, hf with
  | [], _, hf => cases hf
  | [x], hl, hf => exact Nat.le_succ_of_le (hl f hf)
  | x :: y :: r, hl, hf =>
    rcases List.mem_cons.mp hf with rfl | hf
    · have := hl y (by simp)
      simp
      omega
    · exact Nat.le_succ_of_le (hl f (by simp [hf]))
/-! how deep -/
mutual
def depS : Stm → Nat
  | .ifs _ _ _ _ a b => max (depB a) (depB b) + 1
  | .whl _ _ _ _ a => depB a + 1
  | _ => 0
def depB : List Stm → Nat
  | [] => 0
  | s :: r => max (depS s) (depB r)
end
theorem depB_app : ∀ a b : List Stm, depB (a ++ b) = max (depB a) (depB b)
  | [], b => by simp [depB]
  | s :: r, b => by
    show depB (s :: (r ++ b)) = _
    rw [depB, depB, depB_app r b, Nat.max_assoc]
theorem depB_one (s : Stm) : depB [s] = depS s := by rw [depB, depB]; simp
/-- the pile: each body not too deep for its place -/
def DepOk : List Frame → Prop
  | [] => True
  | f :: r => depB f.body + r.length ≤ 3 ∧ (f.kind = 2 → depB f.first + r.length ≤ 3) ∧ DepOk r
theorem told_dep {f : Frame} {n : Nat} (h1 : depB f.body + n ≤ 3) (h2 : f.kind = 2 → depB f.first + n ≤ 3) : depS f.told + n ≤ 4 := by
  unfold Frame.told
  split
  · rw [depS, depB]; simp; omega
  · split
    · rename_i h
      rw [depS]
      have := h2 h
      omega
    · rw [depS]; omega
theorem close_dep : ∀ {l : List Frame}, DepOk l → DepOk (close l)
  | [], h => h
  | [f], h => h
  | f :: g :: r, h => by
    obtain ⟨h1, h2, h3, h4, h5⟩ := h
    have := told_dep h1 h2
    refine ⟨?_, h4, h5⟩
    rw [depB_app, depB_one]
    simp only [List.length_cons] at this ⊢
    omega
theorem plain_dep (sc : List Int) (bs : List Box) (k : Int) (p : Nat) : depS (genPlain sc bs k p).1 = 0 := by
  rw [genPlain_eq]
  split
  · simp [depS]
  · split
    · simp [depS]
    · split
      · simp [depS]
      · split
        · split <;> simp [depS]
        · simp [depS]
theorem turn_dep (sc : List Int) (bs : List Box) (mode : Int) {w : Walk} (ok : WalkOk w) (h : DepOk w.pile) : DepOk (turn sc bs mode w).pile := by
  obtain ⟨p, pile, rows⟩ := w
  simp only at h
  cases pile with
  | nil => exact ok.pile.elim
  | cons f r =>
    rw [turn_eq]
    split
    · exact close_dep h
    · obtain ⟨h1, h2, h3⟩ := h
      split
      · exact ⟨by rw [depB]; omega, fun _ => h1, h3⟩
      · split
        · rename_i hc
          refine ⟨?_, fun z => ?_, h1, h2, h3⟩
          · rw [depB]
            have := hc.2
            simp only [List.length_cons] at this ⊢
            omega
          · rw [depB]
            have := hc.2
            simp only [List.length_cons] at this ⊢
            omega
        · refine ⟨?_, h2, h3⟩
          rw [depB_app, depB_one, plain_dep]
          omega
theorem turns_dep (sc : List Int) (bs : List Box) (mode : Int) : ∀ (n : Nat) {w : Walk}, WalkOk w → DepOk w.pile → DepOk (turns sc bs mode n w).pile
  | 0, _, _, h => h
  | n + 1, _, ok, h => turns_dep sc bs mode n (turn_ok sc bs mode ok) (turn_dep sc bs mode ok h)
theorem ends_dep (n : Nat) (mode : Int) : ∀ (m : Nat) {w : Walk}, DepOk w.pile → DepOk (ends n mode m w).pile
  | 0, _, h => h
  | m + 1, w, h => by
    unfold ends
    split
    · exact ends_dep n mode m (close_dep h)
    · exact h
theorem prog_dep (sc : List Int) (many p : Nat) : depB (genProg sc many p).1.body ≤ 3 := by
  unfold genProg
  simp only
  generalize genBoxes sc (next sc p % 4) (next sc (p + 1) % 5).toNat 0 (p + 2) = bs
  have h0 : WalkOk ⟨bs.2 + 1, [{ kind := 0, body := [] }], []⟩ := ⟨rfl, rfl, by simp⟩
  have d0 : DepOk [{ kind := 0, body := [] }] := ⟨by simp [depB], (fun z => absurd z (show ¬ (0 = 2) by decide)), trivial⟩
  have d2 := ends_dep bs.1.length (next sc bs.2 % 4) 4 (turns_dep sc bs.1 (next sc bs.2 % 4) many h0 d0)
  generalize ends bs.1.length (next sc bs.2 % 4) 4 (turns sc bs.1 (next sc bs.2 % 4) many ⟨bs.2 + 1, [{ kind := 0, body := [] }], []⟩) = w at d2
  obtain ⟨pp, pile, rows⟩ := w
  cases pile with
  | nil => simp [depB]
  | cons f r =>
    have := d2.1
    simp
    omega
end PG

namespace PG
open PM (W Tr)
/-! what stands in the statements -/
section
variable (nm : W → Prop) (ex : Tr → Prop) (sg : W → Prop)
mutual
def OkS : Stm → Prop
  | .ask _ b => nm b
  | .put _ b e => nm b ∧ ex e
  | .say _ e => ex e
  | .must _ s l r => sg s ∧ ex l ∧ ex r
  | .stop _ => True
  | .ifs _ s l r a b => sg s ∧ ex l ∧ ex r ∧ OkB a ∧ OkB b
  | .whl _ s l r a => sg s ∧ ex l ∧ ex r ∧ OkB a
def OkB : List Stm → Prop
  | [] => True
  | s :: r => OkS s ∧ OkB r
end
def OkF (f : Frame) : Prop := OkB nm ex sg f.body ∧ (f.kind ≠ 0 → sg f.sg ∧ ex f.l ∧ ex f.r) ∧ (f.kind = 2 → OkB nm ex sg f.first)
def OkP : List Frame → Prop
  | [] => True
  | f :: r => OkF nm ex sg f ∧ OkP r
end
section
variable {nm : W → Prop} {ex : Tr → Prop} {sg : W → Prop}
theorem OkB_app : ∀ {a b : List Stm}, OkB nm ex sg a → OkB nm ex sg b → OkB nm ex sg (a ++ b)
  | [], b, _, h => h
  | s :: r, b, h1, h2 => by
    rw [OkB] at h1
    show OkB nm ex sg (s :: (r ++ b))
    rw [OkB]
    exact ⟨h1.1, OkB_app h1.2 h2⟩
theorem OkB_nil : OkB nm ex sg [] := by rw [OkB]; trivial
theorem OkB_one {s : Stm} (h : OkS nm ex sg s) : OkB nm ex sg [s] := by rw [OkB]; exact ⟨h, OkB_nil⟩
theorem told_parts {f : Frame} (h : OkF nm ex sg f) (k : f.kind = 1 ∨ f.kind = 2 ∨ f.kind = 3) : OkS nm ex sg f.told := by
  obtain ⟨h1, h2, h3⟩ := h
  have h2 := h2 (by omega)
  unfold Frame.told
  split
  · rw [OkS]; exact ⟨h2.1, h2.2.1, h2.2.2, h1, OkB_nil⟩
  · split
    · rename_i z
      rw [OkS]; exact ⟨h2.1, h2.2.1, h2.2.2, h3 z, h1⟩
    · rw [OkS]; exact ⟨h2.1, h2.2.1, h2.2.2, h1⟩
theorem close_parts : ∀ {l : List Frame}, PileOk l → OkP nm ex sg l → OkP nm ex sg (close l)
  | [], _, h => h
  | [f], _, h => h
  | f :: g :: r, ok, h => by
    obtain ⟨h1, ⟨h2, h3, h4⟩, h5⟩ := h
    refine ⟨⟨OkB_app h2 (OkB_one (told_parts h1 ?_)), h3, h4⟩, h5⟩
    exact ok.1
section
variable {sc : List Int} {bs : List Box} (hnm : bs ≠ [] → ∀ q, nm (pick ⟨[], 0, 0⟩ bs (next sc q % bs.length)).name) (hex : ∀ d q, d ≤ 2 → ex (genE sc bs d q).1) (hsg : ∀ q, sg (pick [] sgs (next sc q % 2)))
include hnm hex hsg
theorem plain_parts (k : Int) (p : Nat) : OkS nm ex sg (genPlain sc bs k p).1 := by
  rw [genPlain_eq]
  split
  · rename_i h; rw [OkS]; exact hnm h.1 _
  · split
    · rename_i h; rw [OkS]; exact ⟨hnm h.1 _, hex _ _ (by decide)⟩
    · split
      · rw [OkS]; exact ⟨hsg _, hex _ _ (by decide), hex _ _ (by decide)⟩
      · split
        · split
          · rw [OkS]; trivial
          · rw [OkS]; exact hex _ _ (by decide)
        · rw [OkS]; exact hex _ _ (by decide)
theorem turn_parts (mode : Int) {w : Walk} (ok : WalkOk w) (h : OkP nm ex sg w.pile) : OkP nm ex sg (turn sc bs mode w).pile := by
  obtain ⟨p, pile, rows⟩ := w
  simp only at h
  cases pile with
  | nil => exact ok.pile.elim
  | cons f r =>
    rw [turn_eq]
    split
    · exact close_parts ok.pile h
    · obtain ⟨⟨h1, h2, h3⟩, h4⟩ := h
      split
      · rename_i z
        exact ⟨⟨OkB_nil, fun _ => h2 (by rw [z.2]; decide), fun _ => h1⟩, h4⟩
      · split
        · exact ⟨⟨OkB_nil, fun _ => ⟨hsg _, hex _ _ (by decide), hex _ _ (by decide)⟩, fun _ => OkB_nil⟩, ⟨h1, h2, h3⟩, h4⟩
        · exact ⟨⟨OkB_app h1 (OkB_one (plain_parts hnm hex hsg _ _)), h2, h3⟩, h4⟩
theorem turns_parts (mode : Int) : ∀ (n : Nat) {w : Walk}, WalkOk w → OkP nm ex sg w.pile → OkP nm ex sg (turns sc bs mode n w).pile
  | 0, _, _, h => h
  | n + 1, _, ok, h => turns_parts mode n (turn_ok sc bs mode ok) (turn_parts hnm hex hsg mode ok h)
end
theorem ends_parts (n : Nat) (mode : Int) : ∀ (m : Nat) {w : Walk}, WalkOk w → OkP nm ex sg w.pile → OkP nm ex sg (ends n mode m w).pile
  | 0, _, _, h => h
  | m + 1, w, ok, h => by
    unfold ends
    split
    · exact ends_parts n mode m (close_walk ok _) (close_parts ok.pile h)
    · exact h
end
def boxesOf (sc : List Int) (p : Nat) : List Box := (genBoxes sc (next sc p % 4) (next sc (p + 1) % 5).toNat 0 (p + 2)).1
theorem prog_parts (sc : List Int) (many p : Nat) {nm : W → Prop} {ex : Tr → Prop} {sg : W → Prop} (hnm : boxesOf sc p ≠ [] → ∀ q, nm (pick ⟨[], 0, 0⟩ (boxesOf sc p) (next sc q % (boxesOf sc p).length)).name) (hex : ∀ d q, d ≤ 2 → ex (genE sc (boxesOf sc p) d q).1) (hsg : ∀ q, sg (pick [] sgs (next sc q % 2))) : OkB nm ex sg (genProg sc many p).1.body := by
  unfold boxesOf at hnm hex
  unfold genProg
  simp only
  generalize genBoxes sc (next sc p % 4) (next sc (p + 1) % 5).toNat 0 (p + 2) = bs at *
  have h0 : WalkOk ⟨bs.2 + 1, [{ kind := 0, body := [] }], []⟩ := ⟨rfl, rfl, by simp⟩
  have d0 : OkP nm ex sg [{ kind := 0, body := [] }] := ⟨⟨OkB_nil, fun z => absurd rfl z, fun z => absurd z (show ¬ (0 = 2) by decide)⟩, trivial⟩
  have d2 := ends_parts bs.1.length (next sc bs.2 % 4) 4 (turns_ok sc bs.1 (next sc bs.2 % 4) many h0) (turns_parts hnm hex hsg (next sc bs.2 % 4) many h0 d0)
  generalize ends bs.1.length (next sc bs.2 % 4) 4 (turns sc bs.1 (next sc bs.2 % 4) many ⟨bs.2 + 1, [{ kind := 0, body := [] }], []⟩) = w at d2
  obtain ⟨pp, pile, rows⟩ := w
  cases pile with
  | nil => exact OkB_nil
  | cons f r => exact d2.1.1
/-- a tree's depth -/
def trd : Tr → Nat
  | .bin _ l r => max (trd l) (trd r) + 1
  | _ => 0
theorem genE_trd (sc : List Int) (bs : List Box) : ∀ (d p : Nat), trd (genE sc bs d p).1 ≤ d
  | 0, p => by
    unfold genE
    simp only
    split <;> simp [trd]
  | d + 1, p => by
    unfold genE
    simp only
    split
    · rw [trd]
      have := genE_trd sc bs d (p + 1)
      have := genE_trd sc bs d (genE sc bs d (p + 1)).2
      omega
    · split <;> simp [trd]
/-! no row of a body is an else or an end -/
theorem turns_len (sc : List Int) (bs : List Box) (mode : Int) : ∀ (n m : Nat) {w : Walk}, LenOk m w → LenOk (m + n) (turns sc bs mode n w)
  | 0, m, _, h => h
  | n + 1, m, _, h => by
    have := turns_len sc bs mode n (m + 1) (turn_len sc bs mode h)
    rw [show m + (n + 1) = m + 1 + n by omega]
    exact this
theorem ends_len (n : Nat) (mode : Int) : ∀ (k m : Nat) {w : Walk}, LenOk m w → (ends n mode k w).rows.length ≤ m + k
  | 0, m, w, h => h.2
  | k + 1, m, w, h => by
    unfold ends
    split
    · have := ends_len n mode k (m + 1) (close_len h (number n w.rows mode))
      omega
    · have := h.2
      omega
theorem rows_len (sc : List Int) (many p : Nat) : (genProg sc many p).2.length ≤ many + 4 := by
  unfold genProg
  simp only
  generalize genBoxes sc (next sc p % 4) (next sc (p + 1) % 5).toNat 0 (p + 2) = bs
  have h0 : LenOk 0 ⟨bs.2 + 1, [{ kind := 0, body := [] }], []⟩ := ⟨fun f hf => by rw [List.mem_singleton.mp hf]; exact Nat.le_refl _, Nat.le_refl _⟩
  have := ends_len bs.1.length (next sc bs.2 % 4) 4 _ (turns_len sc bs.1 (next sc bs.2 % 4) many 0 h0)
  omega
end PG

/-! openers, elses and ends matched; where a place leads -/
namespace PG
open PM (W Tr)
inductive Mt where
  | op (els fin : Option Nat)
  | back (i : Nat)
  deriving DecidableEq
abbrev Mm := Nat → Option Mt
def Mm.set (m : Mm) (i : Nat) (x : Mt) : Mm := fun j => if j = i then some x else m j
theorem Mm.set_same (m : Mm) (i : Nat) (x : Mt) : (m.set i x) i = some x := if_pos rfl
theorem Mm.set_ne (m : Mm) {i j : Nat} (x : Mt) (h : j ≠ i) : (m.set i x) j = m j := if_neg h
def withEls (x : Option Mt) (p : Nat) : Mt := match x with
  | some (.op _ f) => .op (some p) f
  | some y => y
  | none => .op (some p) none
def withFin (x : Option Mt) (p : Nat) : Mt := match x with
  | some (.op e _) => .op e (some p)
  | some y => y
  | none => .op none (some p)
def stepM (st : Mm × List Nat) (p : Nat) : Wd → Mm × List Nat
  | .ifs => (st.1.set p (.op none none), p :: st.2)
  | .whl => (st.1.set p (.op none none), p :: st.2)
  | .els => match st.2 with
    | o :: _ => ((st.1.set o (withEls (st.1 o) p)).set p (.back o), st.2)
    | [] => st
  | .fin => match st.2 with
    | o :: r => ((st.1.set p (.back o)).set o (withFin (st.1 o) p), r)
    | [] => st
  | _ => st
def foldM : Nat → List Row → Mm × List Nat → Mm × List Nat
  | _, [], st => st
  | i, r :: l, st => foldM (i + 1) l (stepM st i r.2)
theorem foldM_app : ∀ (a b : List Row) (i : Nat) (st : Mm × List Nat), foldM i (a ++ b) st = foldM (i + a.length) b (foldM i a st)
  | [], b, i, st => rfl
  | r :: a, b, i, st => by
    rw [List.cons_append, foldM, foldM, foldM_app a b (i + 1), List.length_cons, show i + 1 + a.length = i + (a.length + 1) by omega]
mutual
def SegS (m : Mm) : Stm → Nat → List Row → Prop
  | .ifs k _ _ _ a b, i, rs => (∃ ra n, SegB m a (i + 1) ra ∧ b = [] ∧ rs = (k, .ifs) :: (ra ++ [(n, .fin)]) ∧ m i = some (.op none (some (i + 1 + ra.length))) ∧ m (i + 1 + ra.length) = some (.back i)) ∨
      (∃ ra rb n x, SegB m a (i + 1) ra ∧ SegB m b (i + 2 + ra.length) rb ∧ rs = (k, .ifs) :: (ra ++ (n, .els) :: (rb ++ [(x, .fin)])) ∧ m i = some (.op (some (i + 1 + ra.length)) (some (i + 2 + ra.length + rb.length))) ∧
        m (i + 1 + ra.length) = some (.back i) ∧ m (i + 2 + ra.length + rb.length) = some (.back i))
  | .whl k _ _ _ a, i, rs => ∃ ra n, SegB m a (i + 1) ra ∧ rs = (k, .whl) :: (ra ++ [(n, .fin)]) ∧ m i = some (.op none (some (i + 1 + ra.length))) ∧ m (i + 1 + ra.length) = some (.back i)
  | .ask k _, _, rs => rs = [(k, .ask)]
  | .put k _ _, _, rs => rs = [(k, .put)]
  | .say k _, _, rs => rs = [(k, .say)]
  | .must k _ _ _, _, rs => rs = [(k, .must)]
  | .stop k, _, rs => rs = [(k, .stop)]
def SegB (m : Mm) : List Stm → Nat → List Row → Prop
  | [], _, rs => rs = []
  | s :: r, i, rs => ∃ r1 r2, SegS m s i r1 ∧ SegB m r (i + r1.length) r2 ∧ rs = r1 ++ r2
end
mutual
theorem SegS.stay {m m' : Mm} : ∀ (s : Stm) {i : Nat} {rs : List Row}, SegS m s i rs → (∀ j, i ≤ j → j < i + rs.length → m' j = m j) → SegS m' s i rs
  | .ifs k _ _ _ a b, i, rs, h, q => by
    rw [SegS] at h ⊢
    rcases h with ⟨ra, n, h1, h2, rfl, h3, h4⟩ | ⟨ra, rb, n, x, h1, h2, rfl, h3, h4, h5⟩
    · simp only [List.length_cons, List.length_append, List.length_nil] at q
      exact .inl ⟨ra, n, SegB.stay a h1 (fun j a b => q j (by omega) (by omega)), h2, rfl, by rw [q i (by omega) (by omega)]; exact h3, by rw [q _ (by omega) (by omega)]; exact h4⟩
    · simp only [List.length_cons, List.length_append, List.length_nil] at q
      exact .inr ⟨ra, rb, n, x, SegB.stay a h1 (fun j a b => q j (by omega) (by omega)), SegB.stay b h2 (fun j a b => q j (by omega) (by omega)), rfl, by rw [q i (by omega) (by omega)]; exact h3, by rw [q _ (by omega) (by omega)]; exact h4, by rw [q _ (by omega) (by omega)]; exact h5⟩
  | .whl k _ _ _ a, i, rs, h, q => by
    rw [SegS] at h ⊢
    obtain ⟨ra, n, h1, rfl, h3, h4⟩ := h
    simp only [List.length_cons, List.length_append, List.length_nil] at q
    exact ⟨ra, n, SegB.stay a h1 (fun j a b => q j (by omega) (by omega)), rfl, by rw [q i (by omega) (by omega)]; exact h3, by rw [q _ (by omega) (by omega)]; exact h4⟩
  | .ask k _, _, rs, h, _ => by rw [SegS] at h ⊢; exact h
  | .put k _ _, _, rs, h, _ => by rw [SegS] at h ⊢; exact h
  | .say k _, _, rs, h, _ => by rw [SegS] at h ⊢; exact h
  | .must k _ _ _, _, rs, h, _ => by rw [SegS] at h ⊢; exact h
  | .stop k, _, rs, h, _ => by rw [SegS] at h ⊢; exact h
theorem SegB.stay {m m' : Mm} : ∀ (b : List Stm) {i : Nat} {rs : List Row}, SegB m b i rs → (∀ j, i ≤ j → j < i + rs.length → m' j = m j) → SegB m' b i rs
  | [], i, rs, h, _ => by rw [SegB] at h ⊢; exact h
  | s :: r, i, rs, h, q => by
    rw [SegB] at h ⊢
    obtain ⟨r1, r2, h1, h2, rfl⟩ := h
    simp only [List.length_append] at q
    exact ⟨r1, r2, SegS.stay s h1 (fun j a b => q j (by omega) (by omega)), SegB.stay r h2 (fun j a b => q j (by omega) (by omega)), rfl⟩
end
theorem stack_lt {op : List Nat} {i j : Nat} (h : ∀ o ∈ op, o < i) (hj : i < j) : ∀ o ∈ i :: op, o < j := fun o hx => by
  rcases List.mem_cons.mp hx with rfl | hx
  · exact hj
  · have := h o hx
    omega
mutual
theorem foldS : ∀ (s : Stm) (rs : List Row), TextS s rs → ∀ (i : Nat) (m : Mm) (op : List Nat), (∀ o ∈ op, o < i) → ∃ m1, foldM i rs (m, op) = (m1, op) ∧ SegS m1 s i rs ∧ ∀ j, (j < i ∨ i + rs.length ≤ j) → m1 j = m j
  | .ifs k sg l r a b, rs, h, i, m, op, ho => by
    rw [TextS] at h
    rcases h with ⟨ra, n, h1, rfl, rfl⟩ | ⟨ra, rb, n, x, h1, h2, rfl⟩
    · obtain ⟨m1, e1, s1, k1⟩ := foldB a ra h1 (i + 1) (m.set i (.op none none)) (i :: op) (stack_lt ho (by omega))
      have mi : m1 i = some (.op none none) := by rw [k1 i (by omega), Mm.set_same]
      refine ⟨(m1.set (i + 1 + ra.length) (.back i)).set i (withFin (m1 i) (i + 1 + ra.length)), ?_, ?_, ?_⟩
      · show foldM (i + 1) (ra ++ [(n, .fin)]) (m.set i (.op none none), i :: op) = _
        rw [foldM_app, e1]
        rfl
      · rw [SegS]
        refine .inl ⟨ra, n, SegB.stay a s1 (fun j a b => by rw [Mm.set_ne _ _ (by omega), Mm.set_ne _ _ (by omega)]), rfl, rfl, ?_, ?_⟩
        · rw [Mm.set_same, mi]; rfl
        · rw [Mm.set_ne _ _ (by omega), Mm.set_same]
      · intro j hj
        simp only [List.length_cons, List.length_append, List.length_nil] at hj
        rw [Mm.set_ne _ _ (by omega), Mm.set_ne _ _ (by omega), k1 j (by omega), Mm.set_ne _ _ (by omega)]
    · obtain ⟨m1, e1, s1, k1⟩ := foldB a ra h1 (i + 1) (m.set i (.op none none)) (i :: op) (stack_lt ho (by omega))
      have mi : m1 i = some (.op none none) := by rw [k1 i (by omega), Mm.set_same]
      obtain ⟨m2, e2, s2, k2⟩ := foldB b rb h2 (i + 2 + ra.length) ((m1.set i (withEls (m1 i) (i + 1 + ra.length))).set (i + 1 + ra.length) (.back i)) (i :: op) (stack_lt ho (by omega))
      have mi2 : m2 i = some (.op (some (i + 1 + ra.length)) none) := by rw [k2 i (by omega), Mm.set_ne _ _ (by omega), Mm.set_same, mi]; rfl
      refine ⟨(m2.set (i + 2 + ra.length + rb.length) (.back i)).set i (withFin (m2 i) (i + 2 + ra.length + rb.length)), ?_, ?_, ?_⟩
      · show foldM (i + 1) (ra ++ (n, .els) :: (rb ++ [(x, .fin)])) (m.set i (.op none none), i :: op) = _
        rw [foldM_app, e1]
        show foldM (i + 1 + ra.length + 1) (rb ++ [(x, .fin)]) ((m1.set i (withEls (m1 i) (i + 1 + ra.length))).set (i + 1 + ra.length) (.back i), i :: op) = _
        rw [show i + 1 + ra.length + 1 = i + 2 + ra.length by omega, foldM_app, e2]
        rfl
      · rw [SegS]
        refine .inr ⟨ra, rb, n, x, SegB.stay a s1 (fun j a b => ?_), SegB.stay b s2 (fun j a b => ?_), rfl, ?_, ?_, ?_⟩
        · rw [Mm.set_ne _ _ (by omega), Mm.set_ne _ _ (by omega), k2 j (by omega), Mm.set_ne _ _ (by omega), Mm.set_ne _ _ (by omega)]
        · rw [Mm.set_ne _ _ (by omega), Mm.set_ne _ _ (by omega)]
        · rw [Mm.set_same, mi2]; rfl
        · rw [Mm.set_ne _ _ (by omega), Mm.set_ne _ _ (by omega), k2 _ (by omega), Mm.set_same]
        · rw [Mm.set_ne _ _ (by omega), Mm.set_same]
      · intro j hj
        simp only [List.length_cons, List.length_append, List.length_nil] at hj
        rw [Mm.set_ne _ _ (by omega), Mm.set_ne _ _ (by omega), k2 j (by omega), Mm.set_ne _ _ (by omega), Mm.set_ne _ _ (by omega), k1 j (by omega), Mm.set_ne _ _ (by omega)]
  | .whl k sg l r a, rs, h, i, m, op, ho => by
    rw [TextS] at h
    obtain ⟨ra, n, h1, rfl⟩ := h
    obtain ⟨m1, e1, s1, k1⟩ := foldB a ra h1 (i + 1) (m.set i (.op none none)) (i :: op) (stack_lt ho (by omega))
    have mi : m1 i = some (.op none none) := by rw [k1 i (by omega), Mm.set_same]
    refine ⟨(m1.set (i + 1 + ra.length) (.back i)).set i (withFin (m1 i) (i + 1 + ra.length)), ?_, ?_, ?_⟩
    · show foldM (i + 1) (ra ++ [(n, .fin)]) (m.set i (.op none none), i :: op) = _
      rw [foldM_app, e1]
      rfl
    · rw [SegS]
      refine ⟨ra, n, SegB.stay a s1 (fun j a b => by rw [Mm.set_ne _ _ (by omega), Mm.set_ne _ _ (by omega)]), rfl, ?_, ?_⟩
      · rw [Mm.set_same, mi]; rfl
      · rw [Mm.set_ne _ _ (by omega), Mm.set_same]
    · intro j hj
      simp only [List.length_cons, List.length_append, List.length_nil] at hj
      rw [Mm.set_ne _ _ (by omega), Mm.set_ne _ _ (by omega), k1 j (by omega), Mm.set_ne _ _ (by omega)]
  | .ask k _, rs, h, i, m, op, _ => by rw [TextS] at h; subst h; exact ⟨m, rfl, by rw [SegS], fun _ _ => rfl⟩
  | .put k _ _, rs, h, i, m, op, _ => by rw [TextS] at h; subst h; exact ⟨m, rfl, by rw [SegS], fun _ _ => rfl⟩
  | .say k _, rs, h, i, m, op, _ => by rw [TextS] at h; subst h; exact ⟨m, rfl, by rw [SegS], fun _ _ => rfl⟩
  | .must k _ _ _, rs, h, i, m, op, _ => by rw [TextS] at h; subst h; exact ⟨m, rfl, by rw [SegS], fun _ _ => rfl⟩
  | .stop k, rs, h, i, m, op, _ => by rw [TextS] at h; subst h; exact ⟨m, rfl, by rw [SegS], fun _ _ => rfl⟩
theorem foldB : ∀ (b : List Stm) (rs : List Row), TextB b rs → ∀ (i : Nat) (m : Mm) (op : List Nat), (∀ o ∈ op, o < i) → ∃ m1, foldM i rs (m, op) = (m1, op) ∧ SegB m1 b i rs ∧ ∀ j, (j < i ∨ i + rs.length ≤ j) → m1 j = m j
  | [], rs, h, i, m, op, _ => by rw [TextB] at h; subst h; exact ⟨m, rfl, by rw [SegB], fun _ _ => rfl⟩
  | s :: r, rs, h, i, m, op, ho => by
    rw [TextB] at h
    obtain ⟨r1, r2, h1, h2, rfl⟩ := h
    obtain ⟨m1, e1, s1, k1⟩ := foldS s r1 h1 i m op ho
    obtain ⟨m2, e2, s2, k2⟩ := foldB r r2 h2 (i + r1.length) m1 op (fun o hx => by have := ho o hx; omega)
    refine ⟨m2, ?_, ?_, ?_⟩
    · rw [foldM_app, e1, e2]
    · rw [SegB]
      exact ⟨r1, r2, SegS.stay s s1 (fun j a b => k2 j (by omega)), s2, rfl⟩
    · intro j hj
      rw [List.length_append] at hj
      rw [k2 j (by omega), k1 j (by omega)]
end
end PG

/-! where a place of the text leads; the ways of all rows -/
namespace PG
open PM (W Tr)
def to (R : List Row) (m : Mm) (p : Nat) : Int :=
  if h : p < R.length then
    match (R[p]).2 with
    | .els => match m p with
      | some (.back o) => match m o with
        | some (.op _ (some e)) => if he : p ≤ e then to R m (e + 1) else 0
        | _ => 0
      | _ => 0
    | .fin => match m p with
      | some (.back o) => match R[o]? with
        | some (k, .whl) => k
        | _ => to R m (p + 1)
      | _ => 0
    | _ => (R[p]).1
  else 0
termination_by R.length - p
decreasing_by all_goals omega
theorem to_out {R : List Row} {m : Mm} {p : Nat} (h : R.length ≤ p) : to R m p = 0 := by
  rw [to, dif_neg (by omega)]
theorem get_lt {R : List Row} {p : Nat} {r : Row} (h : R[p]? = some r) : ∃ hp : p < R.length, R[p] = r := List.getElem?_eq_some_iff.mp h
theorem to_plain {R : List Row} {m : Mm} {p : Nat} {k : Int} {w : Wd} (h : R[p]? = some (k, w)) (h1 : w ≠ .els) (h2 : w ≠ .fin) : to R m p = k := by
  obtain ⟨hp, e⟩ := get_lt h
  rw [to, dif_pos hp, e]
  cases w <;> first | rfl | exact absurd rfl h1 | exact absurd rfl h2
theorem to_els {R : List Row} {m : Mm} {p o e : Nat} {k : Int} {x : Option Nat} (h : R[p]? = some (k, .els)) (h1 : m p = some (.back o)) (h2 : m o = some (.op x (some e))) (h3 : p ≤ e) : to R m p = to R m (e + 1) := by
  obtain ⟨hp, q⟩ := get_lt h
  rw [to, dif_pos hp, q]
  simp only [h1, h2]
  rw [dif_pos h3]
theorem to_whl {R : List Row} {m : Mm} {p o : Nat} {k k' : Int} (h : R[p]? = some (k, .fin)) (h1 : m p = some (.back o)) (h2 : R[o]? = some (k', .whl)) : to R m p = k' := by
  obtain ⟨hp, q⟩ := get_lt h
  rw [to, dif_pos hp, q]
  simp only [h1, h2]
theorem to_ifs {R : List Row} {m : Mm} {p o : Nat} {k k' : Int} (h : R[p]? = some (k, .fin)) (h1 : m p = some (.back o)) (h2 : R[o]? = some (k', .ifs)) : to R m p = to R m (p + 1) := by
  obtain ⟨hp, q⟩ := get_lt h
  rw [to, dif_pos hp, q]
  simp only [h1, h2]
def waysAt (R : List Row) (m : Mm) (p : Nat) : List FlowRow := match R[p]? with
  | none => []
  | some (k, .stop) => [(k, .stop, [0])]
  | some (_, .els) => []
  | some (_, .fin) => []
  | some (k, .ifs) => match m p with
    | some (.op x (some e)) => [(k, .ifs, [to R m (p + 1), to R m (x.getD e + 1)])]
    | _ => []
  | some (k, .whl) => match m p with
    | some (.op x (some e)) => [(k, .whl, [to R m (p + 1), to R m (x.getD e + 1)])]
    | _ => []
  | some (k, w) => [(k, w, [to R m (p + 1)])]
def waysIn (R : List Row) (m : Mm) : Nat → Nat → List FlowRow
  | _, 0 => []
  | i, n + 1 => waysAt R m i ++ waysIn R m (i + 1) n
theorem waysIn_add (R : List Row) (m : Mm) : ∀ (a b i : Nat), waysIn R m i (a + b) = waysIn R m i a ++ waysIn R m (i + a) b
  | 0, b, i => by simp [waysIn]
  | a + 1, b, i => by
    rw [show a + 1 + b = (a + b) + 1 by omega, waysIn, waysIn, waysIn_add R m a b (i + 1), List.append_assoc, show i + 1 + a = i + (a + 1) by omega]
/-- rs stands in R at i -/
def At (R : List Row) (i : Nat) (rs : List Row) : Prop := ∀ j, j < rs.length → R[i + j]? = rs[j]?
theorem At.left {R : List Row} {i : Nat} {a b : List Row} (h : At R i (a ++ b)) : At R i a := fun j hj => by
  rw [h j (by rw [List.length_append]; omega), List.getElem?_append_left hj]
theorem At.right {R : List Row} {i : Nat} {a b : List Row} (h : At R i (a ++ b)) : At R (i + a.length) b := fun j hj => by
  have := h (a.length + j) (by rw [List.length_append]; omega)
  rw [List.getElem?_append_right (by omega), show a.length + j - a.length = j by omega] at this
  rw [show i + a.length + j = i + (a.length + j) by omega]
  exact this
theorem At.head {R : List Row} {i : Nat} {x : Row} {b : List Row} (h : At R i (x :: b)) : R[i]? = some x := by
  have := h 0 (by simp)
  simpa using this
theorem At.tail {R : List Row} {i : Nat} {x : Row} {b : List Row} (h : At R i (x :: b)) : At R (i + 1) b := At.right (a := [x]) h
theorem seg_first {m : Mm} : ∀ (s : Stm) {i : Nat} {rs : List Row}, SegS m s i rs → ∃ t, rs = (s.row, s.wd) :: t ∧ s.wd ≠ .els ∧ s.wd ≠ .fin
  | .ifs k _ _ _ a b, i, rs, h => by
    rw [SegS] at h
    rcases h with ⟨ra, n, _, _, rfl, _⟩ | ⟨ra, rb, n, x, _, _, rfl, _⟩
    · exact ⟨_, rfl, by simp [Stm.wd], by simp [Stm.wd]⟩
    · exact ⟨_, rfl, by simp [Stm.wd], by simp [Stm.wd]⟩
  | .whl k _ _ _ a, i, rs, h => by
    rw [SegS] at h
    obtain ⟨ra, n, _, rfl, _⟩ := h
    exact ⟨_, rfl, by simp [Stm.wd], by simp [Stm.wd]⟩
  | .ask k _, _, rs, h => by rw [SegS] at h; exact ⟨[], h, by simp [Stm.wd], by simp [Stm.wd]⟩
  | .put k _ _, _, rs, h => by rw [SegS] at h; exact ⟨[], h, by simp [Stm.wd], by simp [Stm.wd]⟩
  | .say k _, _, rs, h => by rw [SegS] at h; exact ⟨[], h, by simp [Stm.wd], by simp [Stm.wd]⟩
  | .must k _ _ _, _, rs, h => by rw [SegS] at h; exact ⟨[], h, by simp [Stm.wd], by simp [Stm.wd]⟩
  | .stop k, _, rs, h => by rw [SegS] at h; exact ⟨[], h, by simp [Stm.wd], by simp [Stm.wd]⟩
theorem to_body {R : List Row} {m : Mm} : ∀ (b : List Stm) {i : Nat} {rs : List Row}, SegB m b i rs → At R i rs → to R m i = firstRow b (to R m (i + rs.length))
  | [], i, rs, h, _ => by rw [SegB] at h; subst h; rfl
  | s :: r, i, rs, h, ha => by
    rw [SegB] at h
    obtain ⟨r1, r2, h1, h2, rfl⟩ := h
    obtain ⟨t, rfl, n1, n2⟩ := seg_first s h1
    rw [to_plain (At.head ha.left) n1 n2]
    rfl
mutual
theorem ways_S {R : List Row} {m : Mm} : ∀ (s : Stm) {i : Nat} {rs : List Row}, SegS m s i rs → At R i rs → waysIn R m i rs.length = flowS s (to R m (i + rs.length))
  | .ifs k sg l r a b, i, rs, h, ha => by
    rw [SegS] at h
    rcases h with ⟨ra, n, h1, rfl, rfl, h3, h4⟩ | ⟨ra, rb, n, x, h1, h2, rfl, h3, h4, h5⟩
    · have aH := ha.head
      have aA := ha.tail.left
      have aF := ha.tail.right.head
      have tF : to R m (i + 1 + ra.length) = to R m (i + 1 + ra.length + 1) := to_ifs aF h4 aH
      have tA := to_body a h1 aA
      have e : ((k, Wd.ifs) :: (ra ++ [(n, Wd.fin)])).length = 1 + (ra.length + 1) := by simp; omega
      rw [e, waysIn_add, waysIn_add, ways_B a h1 aA, flowS, tF, show i + (1 + (ra.length + 1)) = i + 1 + ra.length + 1 by omega]
      have w1 : waysIn R m i 1 = [(k, .ifs, [firstRow a (to R m (i + 1 + ra.length + 1)), to R m (i + 1 + ra.length + 1)])] := by
        simp only [waysIn, waysAt, aH, h3, List.append_nil, Option.getD_none]
        rw [tA, tF]
      have w2 : waysIn R m (i + 1 + ra.length) 1 = [] := by simp only [waysIn, waysAt, aF, List.append_nil]
      rw [w1, w2]
      simp [flowB, firstRow]
    · have aH := ha.head
      have aA := ha.tail.left
      have aE := ha.tail.right.head
      have aB := ha.tail.right.tail.left
      have aF := ha.tail.right.tail.right.head
      rw [show i + 1 + ra.length + 1 = i + 2 + ra.length by omega] at aB aF
      have tF : to R m (i + 2 + ra.length + rb.length) = to R m (i + 2 + ra.length + rb.length + 1) := to_ifs aF h5 aH
      have tE : to R m (i + 1 + ra.length) = to R m (i + 2 + ra.length + rb.length + 1) := to_els aE h4 h3 (by omega)
      have tA := to_body a h1 aA
      have tB := to_body b h2 aB
      have e : ((k, Wd.ifs) :: (ra ++ (n, Wd.els) :: (rb ++ [(x, Wd.fin)]))).length = 1 + (ra.length + (1 + (rb.length + 1))) := by simp; omega
      rw [e, waysIn_add, waysIn_add, waysIn_add, waysIn_add, ways_B a h1 aA, flowS, show i + (1 + (ra.length + (1 + (rb.length + 1)))) = i + 2 + ra.length + rb.length + 1 by omega, tE, show i + 1 + ra.length + 1 = i + 2 + ra.length by omega, ways_B b h2 aB, tF]
      have w1 : waysIn R m i 1 = [(k, .ifs, [firstRow a (to R m (i + 2 + ra.length + rb.length + 1)), firstRow b (to R m (i + 2 + ra.length + rb.length + 1))])] := by
        simp only [waysIn, waysAt, aH, h3, List.append_nil, Option.getD_some]
        rw [tA, tE, show i + 1 + ra.length + 1 = i + 2 + ra.length by omega, tB, tF]
      have w2 : waysIn R m (i + 1 + ra.length) 1 = [] := by simp only [waysIn, waysAt, aE, List.append_nil]
      have w3 : waysIn R m (i + 2 + ra.length + rb.length) 1 = [] := by simp only [waysIn, waysAt, aF, List.append_nil]
      rw [w1, w2, w3]
      simp
  | .whl k sg l r a, i, rs, h, ha => by
    rw [SegS] at h
    obtain ⟨ra, n, h1, rfl, h3, h4⟩ := h
    have aH := ha.head
    have aA := ha.tail.left
    have aF := ha.tail.right.head
    have tF : to R m (i + 1 + ra.length) = k := to_whl aF h4 aH
    have tA := to_body a h1 aA
    have e : ((k, Wd.whl) :: (ra ++ [(n, Wd.fin)])).length = 1 + (ra.length + 1) := by simp; omega
    rw [e, waysIn_add, waysIn_add, ways_B a h1 aA, flowS, tF, show i + (1 + (ra.length + 1)) = i + 1 + ra.length + 1 by omega]
    have w1 : waysIn R m i 1 = [(k, .whl, [firstRow a k, to R m (i + 1 + ra.length + 1)])] := by
      simp only [waysIn, waysAt, aH, h3, List.append_nil, Option.getD_none]
      rw [tA, tF]
    have w2 : waysIn R m (i + 1 + ra.length) 1 = [] := by simp only [waysIn, waysAt, aF, List.append_nil]
    rw [w1, w2]
    simp
  | .ask k _, i, rs, h, ha => by rw [SegS] at h; subst h; have := ha.head; simp [waysIn, waysAt, this, flowS]
  | .put k _ _, i, rs, h, ha => by rw [SegS] at h; subst h; have := ha.head; simp [waysIn, waysAt, this, flowS]
  | .say k _, i, rs, h, ha => by rw [SegS] at h; subst h; have := ha.head; simp [waysIn, waysAt, this, flowS]
  | .must k _ _ _, i, rs, h, ha => by rw [SegS] at h; subst h; have := ha.head; simp [waysIn, waysAt, this, flowS]
  | .stop k, i, rs, h, ha => by rw [SegS] at h; subst h; have := ha.head; simp [waysIn, waysAt, this, flowS]
theorem ways_B {R : List Row} {m : Mm} : ∀ (b : List Stm) {i : Nat} {rs : List Row}, SegB m b i rs → At R i rs → waysIn R m i rs.length = flowB b (to R m (i + rs.length))
  | [], i, rs, h, _ => by rw [SegB] at h; subst h; rfl
  | s :: r, i, rs, h, ha => by
    rw [SegB] at h
    obtain ⟨r1, r2, h1, h2, rfl⟩ := h
    rw [List.length_append, waysIn_add, ways_S s h1 ha.left, ways_B r h2 ha.right, flowB, to_body r h2 ha.right, show i + r1.length + r2.length = i + (r1.length + r2.length) by omega]
end
def mtOf (R : List Row) : Mm := (foldM 0 R (fun _ => none, [])).1
/-- the ways along the text are those of the bodies -/
theorem ways_flow {b : List Stm} {R : List Row} (h : TextB b R) : waysIn R (mtOf R) 0 R.length = flowB b 0 := by
  obtain ⟨m1, e, s, _⟩ := foldB b R h 0 (fun _ => none) [] (by simp)
  have em : mtOf R = m1 := by unfold mtOf; rw [e]
  rw [em, ways_B b s (fun j _ => by rw [Nat.zero_add]), Nat.zero_add, to_out (Nat.le_refl _)]
end PG

namespace PG
open PM (W Tr)
/-! the rows rise -/
def NumOk (n : Nat) (mode : Int) (rows : List Row) : Prop := (rows.filter plainRow).Pairwise (fun a b => a.1 < b.1) ∧ ∀ r ∈ rows.filter plainRow, 0 < r.1 ∧ r.1 < number n rows mode
theorem number_pos (n : Nat) (rows : List Row) (mode : Int) : 0 < number n rows mode := by
  unfold number
  split
  · omega
  · split <;> omega
theorem number_more (n : Nat) (rows : List Row) (mode : Int) (r : Row) : number n rows mode ≤ number n (rows ++ [r]) mode ∧ (plainRow r = true → number n rows mode < number n (rows ++ [r]) mode) := by
  unfold number
  simp only [List.length_append, List.length_singleton, List.filter_append]
  split
  · exact ⟨by omega, fun _ => by omega⟩
  · split
    · refine ⟨by omega, fun h => ?_⟩
      have : (List.filter (fun r : Row => decide (r.2 ≠ .els ∧ r.2 ≠ .fin)) [r]).length = 1 := by
        unfold plainRow at h
        rw [List.filter_cons, if_pos h]
        rfl
      omega
    · exact ⟨by omega, fun _ => by omega⟩
theorem NumOk.more {n : Nat} {mode : Int} {rows : List Row} (h : NumOk n mode rows) (w : Wd) : NumOk n mode (rows ++ [(number n rows mode, w)]) := by
  obtain ⟨h1, h2⟩ := h
  obtain ⟨m1, m2⟩ := number_more n rows mode (number n rows mode, w)
  unfold NumOk
  rw [List.filter_append]
  by_cases hp : plainRow (number n rows mode, w) = true
  · rw [show [(number n rows mode, w)].filter plainRow = [(number n rows mode, w)] by rw [List.filter_cons, if_pos hp]; rfl]
    refine ⟨List.pairwise_append.mpr ⟨h1, List.pairwise_singleton _ _, fun a ha b hb => ?_⟩, fun r hr => ?_⟩
    · rw [List.mem_singleton.mp hb]
      exact (h2 a ha).2
    · rcases List.mem_append.mp hr with hr | hr
      · have := h2 r hr
        omega
      · rw [List.mem_singleton.mp hr]
        exact ⟨number_pos _ _ _, m2 hp⟩
  · rw [show [(number n rows mode, w)].filter plainRow = [] by rw [List.filter_cons, if_neg hp]; rfl, List.append_nil]
    refine ⟨h1, fun r hr => ?_⟩
    have := h2 r hr
    omega
theorem turn_num (sc : List Int) (bs : List Box) (mode : Int) {w : Walk} (h : NumOk bs.length mode w.rows) : NumOk bs.length mode (turn sc bs mode w).rows := by
  obtain ⟨p, pile, rows⟩ := w
  unfold turn
  simp only at h ⊢
  split
  · exact h.more _
  · cases pile with
    | nil => exact h
    | cons f r =>
      simp only
      split
      · exact h.more _
      · split
        · exact h.more _
        · exact h.more _
theorem turns_num (sc : List Int) (bs : List Box) (mode : Int) : ∀ (n : Nat) {w : Walk}, NumOk bs.length mode w.rows → NumOk bs.length mode (turns sc bs mode n w).rows
  | 0, _, h => h
  | n + 1, _, h => turns_num sc bs mode n (turn_num sc bs mode h)
theorem ends_num (n : Nat) (mode : Int) : ∀ (m : Nat) {w : Walk}, NumOk n mode w.rows → NumOk n mode (ends n mode m w).rows
  | 0, _, h => h
  | m + 1, w, h => by
    unfold ends
    split
    · exact ends_num n mode m (h.more _)
    · exact h
theorem prog_rise (sc : List Int) (many p : Nat) : (flats (genProg sc many p).1.body).Pairwise (fun a b => a.1 < b.1) ∧ ∀ r ∈ flats (genProg sc many p).1.body, 0 < r.1 := by
  rw [prog_flat]
  have key : ∃ n mode, NumOk n mode (genProg sc many p).2 := by
    unfold genProg
    simp only
    generalize genBoxes sc (next sc p % 4) (next sc (p + 1) % 5).toNat 0 (p + 2) = bs
    refine ⟨bs.1.length, next sc bs.2 % 4, ends_num _ _ _ (turns_num _ _ _ _ ?_)⟩
    exact ⟨List.Pairwise.nil, fun r hr => by cases hr⟩
  obtain ⟨n, mode, h1, h2⟩ := key
  exact ⟨h1, fun r hr => (h2 r hr).1⟩
/-! the statements of a body, one after the other -/
mutual
def stmS : Stm → List Stm
  | .ifs k sg l r a b => .ifs k sg l r a b :: (stmB a ++ stmB b)
  | .whl k sg l r a => .whl k sg l r a :: stmB a
  | s => [s]
def stmB : List Stm → List Stm
  | [] => []
  | s :: r => stmS s ++ stmB r
end
mutual
theorem stmS_flat : ∀ s : Stm, (stmS s).map (fun x => (x.row, x.wd)) = flatS s
  | .ifs k sg l r a b => by
    rw [stmS, flatS, List.map_cons, List.map_append, stmB_flat a, stmB_flat b]
    rfl
  | .whl k sg l r a => by
    rw [stmS, flatS, List.map_cons, stmB_flat a]
    rfl
  | .ask k _ => rfl
  | .put k _ _ => rfl
  | .say k _ => rfl
  | .must k _ _ _ => rfl
  | .stop k => rfl
theorem stmB_flat : ∀ b : List Stm, (stmB b).map (fun x => (x.row, x.wd)) = flats b
  | [] => rfl
  | s :: r => by simp [stmB, flats, stmS_flat s, stmB_flat r]
end
theorem stm_rise {b : List Stm} (h : (flats b).Pairwise (fun a b => a.1 < b.1)) : (stmB b).Pairwise (fun a b => a.row < b.row) := by
  rw [← stmB_flat, List.pairwise_map] at h
  exact h
/-! the names of the boxes are unlike -/
end PG

namespace PG
open PM (W Tr)
/-! else and end always find their opener -/
def SafeM : Nat → List Row → Mm × List Nat → Prop
  | _, [], _ => True
  | i, r :: l, st => (r.2 = .els ∨ r.2 = .fin → ∃ o t e f, st.2 = o :: t ∧ st.1 o = some (.op e f)) ∧ SafeM (i + 1) l (stepM st i r.2)
theorem SafeM_app : ∀ (a b : List Row) (i : Nat) (st : Mm × List Nat), SafeM i a st → SafeM (i + a.length) b (foldM i a st) → SafeM i (a ++ b) st
  | [], b, i, st, _, h => h
  | r :: a, b, i, st, h1, h2 => by
    rw [List.cons_append, SafeM]
    rw [SafeM] at h1
    refine ⟨h1.1, SafeM_app a b (i + 1) _ h1.2 ?_⟩
    rw [foldM, List.length_cons, show i + (a.length + 1) = i + 1 + a.length by omega] at h2
    exact h2
theorem SafeM_at : ∀ (a : List Row) (i : Nat) (st : Mm × List Nat), SafeM i a st → ∀ j r, a[j]? = some r → (r.2 = .els ∨ r.2 = .fin) → ∃ o t e f, (foldM i (a.take j) st).2 = o :: t ∧ (foldM i (a.take j) st).1 o = some (.op e f)
  | [], i, st, _, j, r, hj, _ => by simp at hj
  | x :: a, i, st, h, 0, r, hj, hr => by
    rw [SafeM] at h
    simp at hj
    subst hj
    exact h.1 hr
  | x :: a, i, st, h, j + 1, r, hj, hr => by
    rw [SafeM] at h
    rw [List.take_succ_cons, foldM]
    exact SafeM_at a (i + 1) _ h.2 j r (by simpa using hj) hr
mutual
theorem safeS : ∀ (s : Stm) (rs : List Row), TextS s rs → ∀ (i : Nat) (m : Mm) (op : List Nat), (∀ o ∈ op, o < i) → SafeM i rs (m, op)
  | .ifs k sg l r a b, rs, h, i, m, op, ho => by
    rw [TextS] at h
    rcases h with ⟨ra, n, h1, rfl, rfl⟩ | ⟨ra, rb, n, x, h1, h2, rfl⟩
    · obtain ⟨m1, e1, s1, k1⟩ := foldB a ra h1 (i + 1) (m.set i (.op none none)) (i :: op) (stack_lt ho (by omega))
      have mi : m1 i = some (.op none none) := by rw [k1 i (by omega), Mm.set_same]
      rw [SafeM]
      refine ⟨fun z => by simp at z, SafeM_app ra _ (i + 1) _ (safeB a ra h1 (i + 1) _ _ (stack_lt ho (by omega))) ?_⟩
      show SafeM _ _ (foldM (i + 1) ra (m.set i (.op none none), i :: op))
      rw [e1, SafeM, SafeM]
      exact ⟨fun _ => ⟨i, op, _, _, rfl, mi⟩, trivial⟩
    · obtain ⟨m1, e1, s1, k1⟩ := foldB a ra h1 (i + 1) (m.set i (.op none none)) (i :: op) (stack_lt ho (by omega))
      have mi : m1 i = some (.op none none) := by rw [k1 i (by omega), Mm.set_same]
      obtain ⟨m2, e2, s2, k2⟩ := foldB b rb h2 (i + 1 + ra.length + 1) ((m1.set i (withEls (m1 i) (i + 1 + ra.length))).set (i + 1 + ra.length) (.back i)) (i :: op) (stack_lt ho (by omega))
      have mi2 : m2 i = some (.op (some (i + 1 + ra.length)) none) := by rw [k2 i (by omega), Mm.set_ne _ _ (by omega), Mm.set_same, mi]; rfl
      rw [SafeM]
      refine ⟨fun z => by simp at z, SafeM_app ra _ (i + 1) _ (safeB a ra h1 (i + 1) _ _ (stack_lt ho (by omega))) ?_⟩
      show SafeM _ _ (foldM (i + 1) ra (m.set i (.op none none), i :: op))
      rw [e1, SafeM]
      refine ⟨fun _ => ⟨i, op, _, _, rfl, mi⟩, ?_⟩
      show SafeM _ (rb ++ [(x, .fin)]) ((m1.set i (withEls (m1 i) (i + 1 + ra.length))).set (i + 1 + ra.length) (.back i), i :: op)
      refine SafeM_app rb _ _ _ (safeB b rb h2 _ _ _ (stack_lt ho (by omega))) ?_
      rw [e2, SafeM, SafeM]
      exact ⟨fun _ => ⟨i, op, _, _, rfl, mi2⟩, trivial⟩
  | .whl k sg l r a, rs, h, i, m, op, ho => by
    rw [TextS] at h
    obtain ⟨ra, n, h1, rfl⟩ := h
    obtain ⟨m1, e1, s1, k1⟩ := foldB a ra h1 (i + 1) (m.set i (.op none none)) (i :: op) (stack_lt ho (by omega))
    have mi : m1 i = some (.op none none) := by rw [k1 i (by omega), Mm.set_same]
    rw [SafeM]
    refine ⟨fun z => by simp at z, SafeM_app ra _ (i + 1) _ (safeB a ra h1 (i + 1) _ _ (stack_lt ho (by omega))) ?_⟩
    show SafeM _ _ (foldM (i + 1) ra (m.set i (.op none none), i :: op))
    rw [e1, SafeM, SafeM]
    exact ⟨fun _ => ⟨i, op, _, _, rfl, mi⟩, trivial⟩
  | .ask k _, rs, h, i, m, op, _ => by rw [TextS] at h; subst h; rw [SafeM, SafeM]; exact ⟨fun z => by simp at z, trivial⟩
  | .put k _ _, rs, h, i, m, op, _ => by rw [TextS] at h; subst h; rw [SafeM, SafeM]; exact ⟨fun z => by simp at z, trivial⟩
  | .say k _, rs, h, i, m, op, _ => by rw [TextS] at h; subst h; rw [SafeM, SafeM]; exact ⟨fun z => by simp at z, trivial⟩
  | .must k _ _ _, rs, h, i, m, op, _ => by rw [TextS] at h; subst h; rw [SafeM, SafeM]; exact ⟨fun z => by simp at z, trivial⟩
  | .stop k, rs, h, i, m, op, _ => by rw [TextS] at h; subst h; rw [SafeM, SafeM]; exact ⟨fun z => by simp at z, trivial⟩
theorem safeB : ∀ (b : List Stm) (rs : List Row), TextB b rs → ∀ (i : Nat) (m : Mm) (op : List Nat), (∀ o ∈ op, o < i) → SafeM i rs (m, op)
  | [], rs, h, i, m, op, _ => by rw [TextB] at h; subst h; rw [SafeM]; trivial
  | s :: r, rs, h, i, m, op, ho => by
    rw [TextB] at h
    obtain ⟨r1, r2, h1, h2, rfl⟩ := h
    obtain ⟨m1, e1, s1, k1⟩ := foldS s r1 h1 i m op ho
    refine SafeM_app r1 r2 i _ (safeS s r1 h1 i m op ho) ?_
    rw [e1]
    exact safeB r r2 h2 _ _ _ (fun o hx => by have := ho o hx; omega)
end
/-! what the matches tell of a row -/
def OpOk (R : List Row) (m : Mm) (p : Nat) : Prop := ∃ x e, m p = some (.op x (some e)) ∧ p ≤ e ∧ e < R.length ∧ ∀ y, x = some y → y < R.length
def RowOk (R : List Row) (m : Mm) (p : Nat) : Prop := ∀ k w, R[p]? = some (k, w) →
  (w = .els → ∃ o x e, m p = some (.back o) ∧ m o = some (.op x (some e)) ∧ p ≤ e ∧ e < R.length) ∧
  (w = .fin → ∃ o k' w', m p = some (.back o) ∧ R[o]? = some (k', w') ∧ (w' = .ifs ∨ w' = .whl)) ∧
  (w = .ifs ∨ w = .whl → OpOk R m p)
theorem rowok_plain {R : List Row} {m : Mm} {p : Nat} {k : Int} {w : Wd} (h : R[p]? = some (k, w)) (h1 : w ≠ .els) (h2 : w ≠ .fin) (h3 : w ≠ .ifs) (h4 : w ≠ .whl) : RowOk R m p := fun k' w' e => by
  rw [h] at e
  cases e
  exact ⟨fun z => absurd z h1, fun z => absurd z h2, fun z => z.elim (fun z => absurd z h3) (fun z => absurd z h4)⟩
theorem rowok_open {R : List Row} {m : Mm} {p e : Nat} {x : Option Nat} {k : Int} {w : Wd} (h : R[p]? = some (k, w)) (hw : w = .ifs ∨ w = .whl) (hm : m p = some (.op x (some e))) (he : p ≤ e) (le : e < R.length) (lx : ∀ y, x = some y → y < R.length) : RowOk R m p := fun k' w' q => by
  rw [h] at q
  cases q
  exact ⟨fun z => (by rcases hw with rfl | rfl <;> cases z), fun z => (by rcases hw with rfl | rfl <;> cases z), fun _ => ⟨x, e, hm, he, le, lx⟩⟩
theorem rowok_fin {R : List Row} {m : Mm} {p o : Nat} {k k' : Int} {w' : Wd} (h : R[p]? = some (k, .fin)) (hm : m p = some (.back o)) (ho : R[o]? = some (k', w')) (hw : w' = .ifs ∨ w' = .whl) : RowOk R m p := fun k2 w2 q => by
  rw [h] at q
  cases q
  exact ⟨fun z => (by cases z), fun _ => ⟨o, k', w', hm, ho, hw⟩, fun z => (by rcases z with z | z <;> cases z)⟩
theorem rowok_els {R : List Row} {m : Mm} {p o e : Nat} {x : Option Nat} {k : Int} (h : R[p]? = some (k, .els)) (hm : m p = some (.back o)) (ho : m o = some (.op x (some e))) (h1 : p ≤ e) (h2 : e < R.length) : RowOk R m p := fun k2 w2 q => by
  rw [h] at q
  cases q
  exact ⟨fun _ => ⟨o, x, e, hm, ho, h1, h2⟩, fun z => (by cases z), fun z => (by rcases z with z | z <;> cases z)⟩
mutual
theorem rowok_S {R : List Row} {m : Mm} : ∀ (s : Stm) {i : Nat} {rs : List Row}, SegS m s i rs → At R i rs → ∀ j, j < rs.length → RowOk R m (i + j)
  | .ifs k sg l r a b, i, rs, h, ha, j, hj => by
    rw [SegS] at h
    rcases h with ⟨ra, n, h1, rfl, rfl, m1, m2⟩ | ⟨ra, rb, n, x, h1, h2, rfl, m1, m2, m3⟩
    · have r0 := ha.head
      have ra' := ha.tail.left
      have r2 := ha.tail.right.head
      have l2 := (get_lt r2).1
      simp only [List.length_cons, List.length_append, List.length_nil] at hj
      rcases Nat.eq_zero_or_pos j with rfl | jp
      · exact rowok_open r0 (.inl rfl) m1 (by omega) l2 (fun _ z => by cases z)
      · by_cases hz : j < ra.length + 1
        · have := rowok_B a h1 ra' (j - 1) (by omega)
          rw [show i + 1 + (j - 1) = i + j by omega] at this
          exact this
        · rw [show i + j = i + 1 + ra.length by omega]
          exact rowok_fin r2 m2 r0 (.inl rfl)
    · have r0 := ha.head
      have ra' := ha.tail.left
      have r2 := ha.tail.right.head
      have rb' := ha.tail.right.tail.left
      have r3 := ha.tail.right.tail.right.head
      rw [show i + 1 + ra.length + 1 + rb.length = i + 2 + ra.length + rb.length by omega] at r3
      rw [show i + 1 + ra.length + 1 = i + 2 + ra.length by omega] at rb'
      have l2 := (get_lt r2).1
      have l3 := (get_lt r3).1
      simp only [List.length_cons, List.length_append, List.length_nil] at hj
      rcases Nat.eq_zero_or_pos j with rfl | jp
      · exact rowok_open r0 (.inl rfl) m1 (by omega) l3 (fun _ z => by cases z; exact l2)
      · by_cases hz : j < ra.length + 1
        · have := rowok_B a h1 ra' (j - 1) (by omega)
          rw [show i + 1 + (j - 1) = i + j by omega] at this
          exact this
        · by_cases hy : j = ra.length + 1
          · rw [show i + j = i + 1 + ra.length by omega]
            exact rowok_els r2 m2 m1 (by omega) l3
          · by_cases hx : j < ra.length + 2 + rb.length
            · have := rowok_B b h2 rb' (j - 2 - ra.length) (by omega)
              rw [show i + 2 + ra.length + (j - 2 - ra.length) = i + j by omega] at this
              exact this
            · rw [show i + j = i + 2 + ra.length + rb.length by omega]
              exact rowok_fin r3 m3 r0 (.inl rfl)
  | .whl k sg l r a, i, rs, h, ha, j, hj => by
    rw [SegS] at h
    obtain ⟨ra, n, h1, rfl, m1, m2⟩ := h
    have r0 := ha.head
    have ra' := ha.tail.left
    have r2 := ha.tail.right.head
    have l2 := (get_lt r2).1
    simp only [List.length_cons, List.length_append, List.length_nil] at hj
    rcases Nat.eq_zero_or_pos j with rfl | jp
    · exact rowok_open r0 (.inr rfl) m1 (by omega) l2 (fun _ z => by cases z)
    · by_cases hz : j < ra.length + 1
      · have := rowok_B a h1 ra' (j - 1) (by omega)
        rw [show i + 1 + (j - 1) = i + j by omega] at this
        exact this
      · rw [show i + j = i + 1 + ra.length by omega]
        exact rowok_fin r2 m2 r0 (.inr rfl)
  | .ask k _, i, rs, h, ha, j, hj => by rw [SegS] at h; subst h; have := ha.head; simp at hj; subst hj; exact rowok_plain this (by simp) (by simp) (by simp) (by simp)
  | .put k _ _, i, rs, h, ha, j, hj => by rw [SegS] at h; subst h; have := ha.head; simp at hj; subst hj; exact rowok_plain this (by simp) (by simp) (by simp) (by simp)
  | .say k _, i, rs, h, ha, j, hj => by rw [SegS] at h; subst h; have := ha.head; simp at hj; subst hj; exact rowok_plain this (by simp) (by simp) (by simp) (by simp)
  | .must k _ _ _, i, rs, h, ha, j, hj => by rw [SegS] at h; subst h; have := ha.head; simp at hj; subst hj; exact rowok_plain this (by simp) (by simp) (by simp) (by simp)
  | .stop k, i, rs, h, ha, j, hj => by rw [SegS] at h; subst h; have := ha.head; simp at hj; subst hj; exact rowok_plain this (by simp) (by simp) (by simp) (by simp)
theorem rowok_B {R : List Row} {m : Mm} : ∀ (b : List Stm) {i : Nat} {rs : List Row}, SegB m b i rs → At R i rs → ∀ j, j < rs.length → RowOk R m (i + j)
  | [], i, rs, h, ha, j, hj => by rw [SegB] at h; subst h; simp at hj
  | s :: r, i, rs, h, ha, j, hj => by
    rw [SegB] at h
    obtain ⟨r1, r2, h1, h2, rfl⟩ := h
    rw [List.length_append] at hj
    by_cases hz : j < r1.length
    · exact rowok_S s h1 ha.left j hz
    · have := rowok_B r h2 ha.right (j - r1.length) (by omega)
      rw [show i + r1.length + (j - r1.length) = i + j by omega] at this
      exact this
end
theorem rowok_all {b : List Stm} {R : List Row} (h : TextB b R) (p : Nat) (hp : p < R.length) : RowOk R (mtOf R) p := by
  obtain ⟨m1, e, s, _⟩ := foldB b R h 0 (fun _ => none) [] (by simp)
  have em : mtOf R = m1 := by unfold mtOf; rw [e]
  rw [em]
  have := rowok_B b s (R := R) (fun j _ => by rw [Nat.zero_add]) p hp
  rw [Nat.zero_add] at this
  exact this
end PG

namespace PG
open PM (W Tr)
theorem pick_mem {α : Type} (d : α) {l : List α} {i : Int} (h0 : 0 ≤ i) (h1 : i < l.length) : pick d l i ∈ l := by
  unfold pick
  have lt : i.toNat < l.length := by omega
  rw [List.getD_eq_getElem?_getD, List.getElem?_eq_getElem lt]
  exact List.getElem_mem lt
theorem box_names (sc : List Int) (spin : Int) : ∀ (n k p : Nat), ∀ x ∈ (genBoxes sc spin n k p).1, x.name ∈ boxNames
  | 0, k, p, x, h => by simp [genBoxes] at h
  | n + 1, k, p, x, h => by
    rw [genBoxes] at h
    simp only [List.mem_cons] at h
    rcases h with rfl | h
    · exact pick_mem _ (Int.emod_nonneg _ (by decide)) (Int.emod_lt_of_pos _ (by decide))
    · exact box_names sc spin n (k + 1) (p + 3) x h
theorem box_pick (sc : List Int) (p q : Nat) (h : boxesOf sc p ≠ []) : (pick ⟨[], 0, 0⟩ (boxesOf sc p) (next sc q % (boxesOf sc p).length)).name ∈ boxNames := by
  have hp : 0 < (boxesOf sc p).length := List.length_pos_iff.mpr h
  exact box_names sc _ _ _ _ _ (pick_mem _ (Int.emod_nonneg _ (by omega)) (Int.emod_lt_of_pos _ (by omega)))
/-- a tree of the drawn kinds -/
def TrOk : Tr → Prop
  | .num _ => True
  | .box x => x ∈ boxNames
  | .bin o l r => o ∈ ([[43], [45], [42]] : List W) ∧ TrOk l ∧ TrOk r
theorem genE_ok (sc : List Int) (p0 : Nat) : ∀ (d p : Nat), TrOk (genE sc (boxesOf sc p0) d p).1
  | 0, p => by
    unfold genE
    simp only
    split
    · rename_i h; rw [TrOk]; exact box_pick sc p0 _ h.1
    · rw [TrOk]; trivial
  | d + 1, p => by
    unfold genE
    simp only
    split
    · rename_i h
      rw [TrOk]
      have b := next_b sc p
      refine ⟨pick_mem _ (Int.emod_nonneg _ (by decide)) (by show next sc p % 7 < 3; exact h), genE_ok sc p0 d _, genE_ok sc p0 d _⟩
    · split
      · rename_i h; rw [TrOk]; exact box_pick sc p0 _ h.1
      · rw [TrOk]; trivial
theorem prog_all (sc : List Int) (many p : Nat) : OkB (· ∈ boxNames) (fun e => TrOk e ∧ trd e ≤ 2) (· ∈ sgs) (genProg sc many p).1.body :=
  prog_parts sc many p (fun h q => box_pick sc p q h) (fun d q hd => ⟨genE_ok sc p d q, Nat.le_trans (genE_trd _ _ _ _) hd⟩) (fun q => pick_mem _ (Int.emod_nonneg _ (by decide)) (Int.emod_lt_of_pos _ (by decide)))
section
variable {nm : W → Prop} {ex : Tr → Prop} {sg : W → Prop}
mutual
theorem OkS_stm : ∀ (s x : Stm), OkS nm ex sg s → x ∈ stmS s → OkS nm ex sg x
  | .ifs k s l r a b, x, h, m => by
    rw [stmS] at m
    rcases List.mem_cons.mp m with rfl | m
    · exact h
    · rw [OkS] at h
      rcases List.mem_append.mp m with m | m
      · exact OkB_stm a x h.2.2.2.1 m
      · exact OkB_stm b x h.2.2.2.2 m
  | .whl k s l r a, x, h, m => by
    rw [stmS] at m
    rcases List.mem_cons.mp m with rfl | m
    · exact h
    · rw [OkS] at h
      exact OkB_stm a x h.2.2.2 m
  | .ask k b, x, h, m => by simp only [stmS, List.mem_singleton] at m; subst m; exact h
  | .put k b e, x, h, m => by simp only [stmS, List.mem_singleton] at m; subst m; exact h
  | .say k e, x, h, m => by simp only [stmS, List.mem_singleton] at m; subst m; exact h
  | .must k s l r, x, h, m => by simp only [stmS, List.mem_singleton] at m; subst m; exact h
  | .stop k, x, h, m => by simp only [stmS, List.mem_singleton] at m; subst m; exact h
theorem OkB_stm : ∀ (b : List Stm) (x : Stm), OkB nm ex sg b → x ∈ stmB b → OkS nm ex sg x
  | [], x, _, m => by simp [stmB] at m
  | s :: r, x, h, m => by
    rw [stmB] at m
    rw [OkB] at h
    rcases List.mem_append.mp m with m | m
    · exact OkS_stm s x h.1 m
    · exact OkB_stm r x h.2 m
end
end
end PG

/-! ### drawn programs on the heap -/
namespace L2
open PySem
def wdS : PG.Wd → Str
  | .ask => "ask" | .put => "put" | .say => "say" | .must => "must" | .stop => "stop" | .ifs => "if" | .whl => "while" | .els => "else" | .fin => "end"
mutual
def dpS : PG.Stm → Dp
  | .ask k b => .tup [.str "ask", .int k, .str (S b)]
  | .put k b e => .tup [.str "put", .int k, .str (S b), dpT e]
  | .say k e => .tup [.str "say", .int k, dpT e]
  | .must k sg l r => .tup [.str "must", .int k, .str (S sg), dpT l, dpT r]
  | .stop k => .tup [.str "stop", .int k]
  | .ifs k sg l r a b => .tup [.str "if", .int k, .str (S sg), dpT l, dpT r, .lst (dpSs a), .lst (dpSs b)]
  | .whl k sg l r a => .tup [.str "while", .int k, .str (S sg), dpT l, dpT r, .lst (dpSs a)]
def dpSs : List PG.Stm → List Dp
  | [] => []
  | s :: r => dpS s :: dpSs r
end
theorem dpSs_map : ∀ l : List PG.Stm, dpSs l = l.map dpS
  | [] => rfl
  | s :: r => by rw [dpSs, dpSs_map r]; rfl
def dpBox (b : PG.Box) : Dp := .tup [.str (S b.name), .int b.size, .int b.first]
def dpProg (p : PG.Prog) : Dp := .tup [.lst (p.boxes.map dpBox), .lst (p.body.map dpS)]
def dpRow (r : PG.Row) : Dp := .lst [.int r.1, .str (wdS r.2)]
def dpTg : PG.Tg → Dp
  | .row k => .tup [.str "row", .int k]
  | .side k b => .tup [.str "side", .int k, .bl b]
  | .must k => .tup [.str "must", .int k]
  | .fin => .tup [.str "end"]
/-! what stays, whatever becomes of some lists -/
def UptoS (O : Addr → Prop) (H H' : Hp) : Prop := ∀ b o, ¬ O b → H b = some o → H' b = some o
def Fix (K : PySem.W.Frag) (O : Addr → Prop) (H : Hp) (d : Dp) (v : V) : Prop := ∀ H', UptoS O H H' → Rep K H' d v
def Fixs (K : PySem.W.Frag) (O : Addr → Prop) (H : Hp) (ds : List Dp) (vs : List V) : Prop := ∀ H', UptoS O H H' → Reps K H' ds vs
section
variable {K : PySem.W.Frag} {O O' : Addr → Prop} {H H1 H2 : Hp} {d : Dp} {ds : List Dp} {v : V} {vs : List V} {p : Addr} {o : HO}
theorem UptoS.refl : UptoS O H H := fun _ _ _ e => e
theorem UptoS.trans (a : UptoS O H H1) (b : UptoS O H1 H2) : UptoS O H H2 := fun c u n e => b c u n (a c u n e)
theorem UptoS.of (s : Same H H1) : UptoS O H H1 := fun b u _ e => s b u e
theorem UptoS.mono (a : UptoS O H H1) (i : ∀ b, O b → O' b) : UptoS O' H H1 := fun b u n e => a b u (fun z => n (i b z)) e
theorem UptoS.one (a : Upto p H H1) (hp : O p) : UptoS O H H1 := fun b u n e => a b u (fun z => n (by rw [z]; exact hp)) e
theorem UptoS.put (a : UptoS O H H1) (hp : O p) (u : HO) : UptoS O H (upd H1 p u) := fun b w n e => by rw [upd_ne (fun z => n (by rw [z]; exact hp))]; exact a b w n e
theorem Fix.up (f : Fix K O H d v) (u : UptoS O H H1) : Fix K O H1 d v := fun H2 u2 => f H2 (u.trans u2)
theorem Fixs.up (f : Fixs K O H ds vs) (u : UptoS O H H1) : Fixs K O H1 ds vs := fun H2 u2 => f H2 (u.trans u2)
theorem Fix.rep (f : Fix K O H d v) : Rep K H d v := f H .refl
theorem Fixs.reps (f : Fixs K O H ds vs) : Reps K H ds vs := f H .refl
theorem Fix.sub (f : Fix K O H d v) (i : ∀ b, O' b → O b) : Fix K O' H d v := fun H2 u => f H2 (u.mono i)
theorem Fixs.sub (f : Fixs K O H ds vs) (i : ∀ b, O' b → O b) : Fixs K O' H ds vs := fun H2 u => f H2 (u.mono i)
/-- a new thing is no part of it -/
theorem Fix.apart (f : Fix K O H d v) (hp : H p = none) : Fix K (fun b => O b ∨ b = p) (upd H p o) d v := fun H2 u => f H2 fun b w n e => by
  have np : b ≠ p := ne_of_none e hp
  exact u b w (fun z => z.elim n np) (by rw [upd_ne np]; exact e)
theorem Fixs.apart (f : Fixs K O H ds vs) (hp : H p = none) : Fixs K (fun b => O b ∨ b = p) (upd H p o) ds vs := fun H2 u => f H2 fun b w n e => by
  have np : b ≠ p := ne_of_none e hp
  exact u b w (fun z => z.elim n np) (by rw [upd_ne np]; exact e)
theorem Fixs.nil : Fixs K O H [] [] := fun _ _ => .nil
theorem Fixs.cons (a : Fix K O H d v) (b : Fixs K O H ds vs) : Fixs K O H (d :: ds) (v :: vs) := fun H2 u => .cons (a H2 u) (b H2 u)
theorem Fixs.snoc (b : Fixs K O H ds vs) (a : Fix K O H d v) : Fixs K O H (ds ++ [d]) (vs ++ [v]) := fun H2 u => (b H2 u).append (.cons (a H2 u) .nil)
theorem Fix.int {i : Int} : Fix K O H (.int i) (.int i) := fun _ _ => Rep.int_iff.mpr rfl
theorem Fix.str {x : Str} : Fix K O H (.str x) (.str x) := fun _ _ => Rep.str_iff.mpr rfl
theorem Fix.tup (h : H p = some (.tup vs)) (n : ¬ O p) (f : Fixs K O H ds vs) : Fix K O H (.tup ds) (.ref p) := fun H2 u => Rep.tup_iff.mpr ⟨p, vs, rfl, .of (u p _ n h), f H2 u⟩
theorem Fix.lst (h : H p = some (.lst vs)) (n : ¬ O p) (f : Fixs K O H ds vs) : Fix K O H (.lst ds) (.ref p) := fun H2 u => Rep.lst_iff.mpr ⟨p, vs, rfl, .of (u p _ n h), f H2 u⟩
end
/-- the deck: its script, its place -/
structure Deck (K : PySem.W.Frag) (H : Hp) (D S : Addr) (sc : List Int) (p : Nat) : Prop where
  deck : H D = some (.lst [.ref S, .int p])
  script : H S = some (.lst (sc.map .int))
  ne : S ≠ D
  len : sc.length ≤ 63
end L2

namespace L2
open PySem
section
variable (K : PySem.W.Frag)
/-- the deck's next number -/
def spNext : Sp := fun vs H Q _ => ∃ (D S : Addr) (sc : List Int) (p : Nat), vs = [.ref D] ∧ Deck K H D S sc p ∧ p ≤ 100000 ∧ ∀ H', Upto D H H' → Deck K H' D S sc (p + 1) → Q (.int (PG.next sc p)) H'
end
theorem Deck.same {K : PySem.W.Frag} {H H' : Hp} {D S : Addr} {sc : List Int} {p : Nat} (d : Deck K H D S sc p) (s : Same H H') : Deck K H' D S sc p := ⟨s _ _ d.deck, s _ _ d.script, d.ne, d.len⟩
theorem tVar_13 {a : Option V} {r : St} {H : Hp} {Q : VK} : tVar 13 (a :: r) H Q ↔ tVar 12 r H Q := Iff.rfl
theorem tVar_14 {a : Option V} {r : St} {H : Hp} {Q : VK} : tVar 14 (a :: r) H Q ↔ tVar 13 r H Q := Iff.rfl
/-- the boxes: they stay, whatever becomes of O -/
def Boxes (K : PySem.W.Frag) (O : Addr → Prop) (H : Hp) (B : Addr) (bs : List PG.Box) : Prop := Fix K O H (.lst (bs.map dpBox)) (.ref B) ∧ bs.length ≤ 10
/-- what is drawn stays, whatever becomes of the things that were there -/
def Own (K : PySem.W.Frag) (H0 H : Hp) (d : Dp) (v : V) : Prop := ∀ O : Addr → Prop, (∀ b, O b → H0 b ≠ none) → Fix K O H d v
section
variable (K : PySem.W.Frag)
def spGenE (n : Nat) : Sp := fun vs H Q _ => ∃ (D S B : Addr) (sc : List Int) (p d : Nat) (bs : List PG.Box), vs = [.ref D, .ref B, .int d] ∧ d < n ∧ Deck K H D S sc p ∧ p + 4 * 2 ^ d ≤ 100000 ∧ Boxes K (· = D) H B bs ∧
  ∀ v H', Upto D H H' → Deck K H' D S sc (PG.genE sc bs d p).2 → Own K H H' (dpT (PG.genE sc bs d p).1) v → Q v H'
def spGenBoxes : Sp := fun vs H Q _ => ∃ (D S : Addr) (sc : List Int) (p : Nat), vs = [.ref D] ∧ Deck K H D S sc p ∧ p ≤ 90000 ∧
  ∀ B H', Upto D H H' → Deck K H' D S sc (PG.genBoxes sc (PG.next sc p % 4) (PG.next sc (p + 1) % 5).toNat 0 (p + 2)).2 → H B = none →
    Own K H H' (.lst ((PG.genBoxes sc (PG.next sc p % 4) (PG.next sc (p + 1) % 5).toNat 0 (p + 2)).1.map dpBox)) (.ref B) → Q (.ref B) H'
def spGenPlain : Sp := fun vs H Q _ => ∃ (D S B : Addr) (sc : List Int) (p : Nat) (k : Int) (bs : List PG.Box), vs = [.ref D, .ref B, .int k] ∧ Deck K H D S sc p ∧ p ≤ 90000 ∧ Boxes K (· = D) H B bs ∧
  ∀ v H', Upto D H H' → Deck K H' D S sc (PG.genPlain sc bs k p).2 → Own K H H' (dpS (PG.genPlain sc bs k p).1) v → Q v H'
end
section
variable {K : PySem.W.Frag} {O : Addr → Prop} {H0 H H1 : Hp} {d : Dp} {v : V} {D B : Addr} {bs : List PG.Box}
theorem Own.up (f : Own K H0 H d v) (u : Upto D H H1) (hD : H0 D ≠ none) : Own K H0 H1 d v := fun O hO => by
  have := f (fun b => O b ∨ b = D) (fun b hb => hb.elim (hO b) (fun e => e ▸ hD))
  exact (this.up (UptoS.one u (.inr rfl))).sub fun b hb => .inl hb
theorem Own.back {H00 : Hp} (f : Own K H0 H d v) (h : ∀ b, H00 b ≠ none → H0 b ≠ none) : Own K H00 H d v := fun O hO => f O fun b hb => h b (hO b hb)
theorem Boxes.up (f : Boxes K (· = D) H B bs) (u : Upto D H H1) : Boxes K (· = D) H1 B bs := ⟨f.1.up (UptoS.one u rfl), f.2⟩
theorem Boxes.same (f : Boxes K (· = D) H B bs) (s : Same H H1) : Boxes K (· = D) H1 B bs := ⟨f.1.up (.of s), f.2⟩
theorem Upto.dom (u : Upto D H H1) (hD : H1 D ≠ none) : ∀ b, H b ≠ none → H1 b ≠ none := fun b hb => by
  by_cases e : b = D
  · rw [e]; exact hD
  · cases z : H b with
    | none => exact absurd z hb
    | some o => rw [u b o e z]; simp
/-- the boxes as a list; one of them, its name -/
theorem Boxes.list (f : Boxes K O H B bs) : ∃ xs, SqL K H B xs ∧ xs.length = bs.length ∧ ∀ (i : Nat) (b : PG.Box), bs[i]? = some b → ∃ a ys, xs[i]? = some (.ref a) ∧ SqT K H a ys ∧ ys = [.str (S b.name), .int b.size, .int b.first] := by
  have r := f.1.rep
  rw [Rep.lst_iff] at r
  obtain ⟨a, xs, e, q, rs⟩ := r
  cases e
  refine ⟨xs, q, by rw [rs.length, List.length_map], fun i b hb => ?_⟩
  obtain ⟨v, hv, rv⟩ := rs.get (i := i) (d := dpBox b) (by rw [List.getElem?_map, hb]; rfl)
  unfold dpBox at rv
  rw [Rep.tup_iff] at rv
  obtain ⟨a2, ys, rfl, q2, r2⟩ := rv
  refine ⟨a2, ys, hv, q2, ?_⟩
  rw [Reps.cons_iff] at r2
  obtain ⟨v1, t1, rfl, e1, r2⟩ := r2
  rw [Reps.cons_iff] at r2
  obtain ⟨v2, t2, rfl, e2, r2⟩ := r2
  rw [Reps.cons_iff] at r2
  obtain ⟨v3, t3, rfl, e3, r2⟩ := r2
  rw [Reps.nil_iff] at r2
  subst r2
  rw [Rep.str_iff] at e1
  rw [Rep.int_iff] at e2 e3
  subst e1 e2 e3
  rfl
end
/-- parts that stay -/
def Owns (K : PySem.W.Frag) (H0 H : Hp) (ds : List Dp) (vs : List V) : Prop := ∀ O : Addr → Prop, (∀ b, O b → H0 b ≠ none) → Fixs K O H ds vs
section
variable {K : PySem.W.Frag} {H0 H H1 : Hp} {d : Dp} {v : V} {ds : List Dp} {vs : List V} {D p : Addr}
theorem Owns.nil : Owns K H0 H [] [] := fun _ _ => Fixs.nil
theorem Owns.cons (a : Own K H0 H d v) (b : Owns K H0 H ds vs) : Owns K H0 H (d :: ds) (v :: vs) := fun O h => Fixs.cons (a O h) (b O h)
theorem Own.int {i : Int} : Own K H0 H (.int i) (.int i) := fun _ _ => Fix.int
theorem Own.str {x : Str} : Own K H0 H (.str x) (.str x) := fun _ _ => Fix.str
theorem Owns.same (f : Owns K H0 H ds vs) (s : Same H H1) : Owns K H0 H1 ds vs := fun O hO => (f O hO).up (.of s)
/-- a new tuple -/
theorem own_tup (hp : H p = none) (dom : ∀ b, H0 b ≠ none → H b ≠ none) (f : Owns K H0 H ds vs) : Own K H0 (upd H p (.tup vs)) (.tup ds) (.ref p) := fun O hO => by
  have np : ¬ O p := fun z => dom p (hO p z) hp
  exact Fix.tup upd_same np ((f.same (Same.new hp _)) O hO)
end
theorem Boxes.pick {K : PySem.W.Frag} {O : Addr → Prop} {H : Hp} {B : Addr} {bs : List PG.Box} (f : Boxes K O H B bs) {i : Int} (h0 : 0 ≤ i) (h1 : i < bs.length) {Q : VK} (q : Q (.str (S (PG.pick ⟨[], 0, 0⟩ bs i).name)) H) :
    rIxL K (.ref B) (.int i) H (fun x H1 => rIxT K x (.int 0) H1 Q) := by
  obtain ⟨xs, hx, _, get⟩ := f.list
  have lt : i.toNat < bs.length := by omega
  have e : bs[i.toNat]? = some (PG.pick ⟨[], 0, 0⟩ bs i) := by
    unfold PG.pick
    rw [List.getD_eq_getElem?_getD, List.getElem?_eq_getElem lt]
    rfl
  obtain ⟨a, ys, hy, q2, rfl⟩ := get _ _ e
  have ei : i = ((i.toNat : Nat) : Int) := by omega
  refine rIxL_i hx (v := .ref a) (by rw [ei]; exact atI_nat hy) (rIxT_i q2 (v := .str (S (PG.pick ⟨[], 0, 0⟩ bs i).name)) (atI_nat (j := 0) rfl) q)
theorem Owns.up {K : PySem.W.Frag} {H0 H H1 : Hp} {ds : List Dp} {vs : List V} {D : Addr} (f : Owns K H0 H ds vs) (u : Upto D H H1) (hD : H0 D ≠ none) : Owns K H0 H1 ds vs := fun O hO => by
  have := f (fun b => O b ∨ b = D) (fun b hb => hb.elim (hO b) (fun e => e ▸ hD))
  exact (this.up (UptoS.one u (.inr rfl))).sub fun b hb => .inl hb
theorem Owns.snoc {K : PySem.W.Frag} {H0 H : Hp} {d : Dp} {v : V} {ds : List Dp} {vs : List V} (b : Owns K H0 H ds vs) (a : Own K H0 H d v) : Owns K H0 H (ds ++ [d]) (vs ++ [v]) := fun O h => Fixs.snoc (b O h) (a O h)
/-- a list that was there is written anew -/
theorem ow_put {K : PySem.W.Frag} {H0 H : Hp} {ds : List Dp} {vs xs ys : List V} {B : Addr} (h : H B = some (.lst xs)) (f : Owns K H0 H ds vs) (hB : H0 B ≠ none) : Owns K H0 (upd H B (.lst ys)) ds vs := f.up ((Upto.refl B H).put _) hB
end L2

/-! ### the walk that draws a program, on the heap -/
namespace L2
open PySem
def kdS : Nat → Str
  | 0 => "all"
  | 1 => "if"
  | 2 => "else"
  | _ => "while"
structure FrameAt (K : PySem.W.Frag) (Oo : Addr → Prop) (H : Hp) (f : PG.Frame) (a b : Addr) (hd fi : V) (xs : List V) : Prop where
  fr : H a = some (.lst [.str (kdS f.kind), .ref b, hd, fi])
  bd : H b = some (.lst xs)
  ok : Fixs K Oo H (f.body.map dpS) xs
  hdOk : f.kind ≠ 0 → ∃ c ys, hd = .ref c ∧ H c = some (.tup ys) ∧ ¬ Oo c ∧ Fixs K Oo H [.str (if f.kind = 3 then "while" else "if"), .int f.k, .str (S f.sg), dpT f.l, dpT f.r] ys
  fiOk : f.kind = 2 → Fix K Oo H (.lst (f.first.map dpS)) fi
  len : xs.length = f.body.length
abbrev Fra := PG.Frame × Addr × Addr
def opn (D P R : Addr) (frs : List Fra) : List Addr := D :: P :: R :: frs.flatMap fun x => [x.2.1, x.2.2]
/-- what may be written: the deck, the pile, the rows, the open frames and bodies; and E -/
def O (D P R : Addr) (frs : List Fra) (E : List Addr) : Addr → Prop := fun b => b ∈ opn D P R frs ∨ b ∈ E
structure PSt (K : PySem.W.Frag) (H : Hp) (D S : Addr) (sc : List Int) (p : Nat) (B : Addr) (bs : List PG.Box) (P R : Addr) (frs : List Fra) (rows : List PG.Row) (E : List Addr) : Prop where
  deck : Deck K H D S sc p
  box : Fix K (O D P R frs E) H (.lst (bs.map dpBox)) (.ref B)
  few : bs.length ≤ 10
  pile : H P = some (.lst (frs.reverse.map fun x => .ref x.2.1))
  frames : ∀ x ∈ frs, ∃ hd fi xs, FrameAt K (O D P R frs E) H x.1 x.2.1 x.2.2 hd fi xs
  rows : ∃ rvs, H R = some (.lst rvs) ∧ Fixs K (O D P R frs E) H (rows.map dpRow) rvs ∧ rvs.length = rows.length
  nd : (opn D P R frs).Nodup
  nS : S ∉ opn D P R frs
section
variable {K : PySem.W.Frag} {H H' : Hp} {D S B P R : Addr} {sc : List Int} {p p' : Nat} {bs : List PG.Box} {frs : List Fra} {rows : List PG.Row} {E E' : List Addr}
theorem FrameAt.up {Oo : Addr → Prop} {f : PG.Frame} {a b : Addr} {hd fi : V} {xs : List V} (x : FrameAt K Oo H f a b hd fi xs) (u : UptoS Oo H H') (ha : H' a = H a) (hb : H' b = H b) : FrameAt K Oo H' f a b hd fi xs :=
  ⟨ha.trans x.fr, hb.trans x.bd, x.ok.up u, fun z => let ⟨c, ys, e, h, n, g⟩ := x.hdOk z; ⟨c, ys, e, u _ _ n h, n, g.up u⟩, fun z => (x.fiOk z).up u, x.len⟩
theorem FrameAt.sub {O1 O2 : Addr → Prop} {f : PG.Frame} {a b : Addr} {hd fi : V} {xs : List V} (x : FrameAt K O1 H f a b hd fi xs) (i : ∀ c, O2 c → O1 c) : FrameAt K O2 H f a b hd fi xs :=
  ⟨x.fr, x.bd, x.ok.sub i, fun z => let ⟨c, ys, e, h, n, g⟩ := x.hdOk z; ⟨c, ys, e, h, fun w => n (i c w), g.sub i⟩, fun z => (x.fiOk z).sub i, x.len⟩
theorem FrameAt.apart {O1 : Addr → Prop} {f : PG.Frame} {a b q : Addr} {hd fi : V} {xs : List V} {o : HO} (x : FrameAt K O1 H f a b hd fi xs) (hq : H q = none) : FrameAt K (fun c => O1 c ∨ c = q) (upd H q o) f a b hd fi xs :=
  ⟨by rw [upd_ne (ne_of_none x.fr hq)]; exact x.fr, by rw [upd_ne (ne_of_none x.bd hq)]; exact x.bd, x.ok.apart hq, fun z => let ⟨c, ys, e, h, n, g⟩ := x.hdOk z; ⟨c, ys, e, by rw [upd_ne (ne_of_none h hq)]; exact h, fun w => w.elim n (ne_of_none h hq), g.apart hq⟩, fun z => (x.fiOk z).apart hq, x.len⟩
theorem PSt.ne (s : PSt K H D S sc p B bs P R frs rows E) : D ≠ P ∧ D ≠ R ∧ P ≠ R ∧ ∀ x ∈ frs, x.2.1 ≠ D ∧ x.2.2 ≠ D ∧ x.2.1 ≠ P ∧ x.2.2 ≠ P ∧ x.2.1 ≠ R ∧ x.2.2 ≠ R := by
  have nd := s.nd
  unfold opn at nd
  rw [List.nodup_cons, List.nodup_cons, List.nodup_cons] at nd
  obtain ⟨h1, h2, h3, h4⟩ := nd
  simp only [List.mem_cons, not_or] at h1 h2
  refine ⟨h1.1, h1.2.1, h2.1, fun x hx => ?_⟩
  have m1 : x.2.1 ∈ frs.flatMap fun x => [x.2.1, x.2.2] := List.mem_flatMap.mpr ⟨x, hx, by simp⟩
  have m2 : x.2.2 ∈ frs.flatMap fun x => [x.2.1, x.2.2] := List.mem_flatMap.mpr ⟨x, hx, by simp⟩
  exact ⟨fun e => h1.2.2 (e ▸ m1), fun e => h1.2.2 (e ▸ m2), fun e => h2.2 (e ▸ m1), fun e => h2.2 (e ▸ m2), fun e => h3 (e ▸ m1), fun e => h3 (e ▸ m2)⟩
theorem PSt.dom (s : PSt K H D S sc p B bs P R frs rows E) : ∀ b, b ∈ opn D P R frs → H b ≠ none := fun b hb => by
  unfold opn at hb
  simp only [List.mem_cons, List.mem_flatMap] at hb
  rcases hb with rfl | rfl | rfl | ⟨x, hx, hb⟩
  · rw [s.deck.deck]; simp
  · rw [s.pile]; simp
  · obtain ⟨rvs, h, _⟩ := s.rows
    rw [h]; simp
  · obtain ⟨hd, fi, xs, fa⟩ := s.frames x hx
    simp only [List.not_mem_nil, or_false] at hb
    rcases hb with rfl | rfl
    · rw [fa.fr]; simp
    · rw [fa.bd]; simp
theorem PSt.fresh (s : PSt K H D S sc p B bs P R frs rows E) {q : Addr} (hq : H q = none) : q ∉ opn D P R frs := fun z => s.dom q z hq
/-- the deck was drawn from -/
theorem PSt.draw (s : PSt K H D S sc p B bs P R frs rows E) (u : Upto D H H') (dk : Deck K H' D S sc p') : PSt K H' D S sc p' B bs P R frs rows E := by
  obtain ⟨n1, n2, n3, n4⟩ := s.ne
  have uS : UptoS (O D P R frs E) H H' := UptoS.one u (.inl (by simp [opn]))
  refine ⟨dk, s.box.up uS, s.few, u _ _ n1.symm s.pile, fun x hx => ?_, ?_, s.nd, s.nS⟩
  · obtain ⟨hd, fi, xs, fa⟩ := s.frames x hx
    obtain ⟨m1, m2, _⟩ := n4 x hx
    exact ⟨hd, fi, xs, fa.up uS ((u _ _ m1 fa.fr).trans fa.fr.symm) ((u _ _ m2 fa.bd).trans fa.bd.symm)⟩
  · obtain ⟨rvs, h, f, l⟩ := s.rows
    exact ⟨rvs, u _ _ n2.symm h, f.up uS, l⟩
theorem PSt.same (s : PSt K H D S sc p B bs P R frs rows E) (e : Same H H') : PSt K H' D S sc p B bs P R frs rows E := s.draw (.of e) (s.deck.same e)
theorem PSt.boxes (s : PSt K H D S sc p B bs P R frs rows E) : Boxes K (· = D) H B bs := ⟨s.box.sub fun b hb => .inl (by rw [show b = D from hb]; simp [opn]), s.few⟩
/-- less may be written -/
theorem PSt.less (s : PSt K H D S sc p B bs P R frs rows E) (i : ∀ b, b ∈ E' → b ∈ E) : PSt K H D S sc p B bs P R frs rows E' := by
  have j : ∀ b, O D P R frs E' b → O D P R frs E b := fun b hb => hb.elim .inl fun z => .inr (i b z)
  exact ⟨s.deck, s.box.sub j, s.few, s.pile, fun x hx => let ⟨hd, fi, xs, fa⟩ := s.frames x hx; ⟨hd, fi, xs, fa.sub j⟩, let ⟨rvs, h, f, l⟩ := s.rows; ⟨rvs, h, f.sub j, l⟩, s.nd, s.nS⟩
/-- a new thing that may be written -/
theorem PSt.more (s : PSt K H D S sc p B bs P R frs rows E) {q : Addr} (hq : H q = none) (o : HO) : PSt K (upd H q o) D S sc p B bs P R frs rows (q :: E) := by
  have j : ∀ b, O D P R frs (q :: E) b → (O D P R frs E b ∨ b = q) := fun b hb => by
    rcases hb with h | h
    · exact .inl (.inl h)
    · rcases List.mem_cons.mp h with h | h
      · exact .inr h
      · exact .inl (.inr h)
  have sm := Same.new hq o
  exact ⟨s.deck.same sm, (s.box.apart hq).sub j, s.few, sm _ _ s.pile, fun x hx => let ⟨hd, fi, xs, fa⟩ := s.frames x hx; ⟨hd, fi, xs, (fa.apart hq).sub j⟩, let ⟨rvs, h, f, l⟩ := s.rows; ⟨rvs, sm _ _ h, (f.apart hq).sub j, l⟩, s.nd, s.nS⟩
/-- another row is told -/
theorem PSt.row (s : PSt K H D S sc p B bs P R frs rows E) {rvs : List V} (hR : H R = some (.lst rvs)) {k : Int} {w : PG.Wd} {q : Addr} (hq : H q = some (.lst [.int k, .str (wdS w)])) (nq : ¬ O D P R frs E q) : PSt K (upd H R (.lst (rvs ++ [.ref q]))) D S sc p B bs P R frs (rows ++ [(k, w)]) E := by
  obtain ⟨n1, n2, n3, n4⟩ := s.ne
  have mR : R ∈ opn D P R frs := by simp [opn]
  have uS : UptoS (O D P R frs E) H (upd H R (.lst (rvs ++ [.ref q]))) := UptoS.refl.put (.inl mR) _
  have nSR : S ≠ R := fun e => s.nS (by rw [e]; exact mR)
  refine ⟨⟨by rw [upd_ne n2]; exact s.deck.deck, by rw [upd_ne nSR]; exact s.deck.script, s.deck.ne, s.deck.len⟩, s.box.up uS, s.few, by rw [upd_ne n3]; exact s.pile, fun x hx => ?_, ?_, s.nd, s.nS⟩
  · obtain ⟨hd, fi, xs, fa⟩ := s.frames x hx
    obtain ⟨_, _, _, _, m1, m2⟩ := n4 x hx
    exact ⟨hd, fi, xs, fa.up uS (upd_ne m1) (upd_ne m2)⟩
  · obtain ⟨rvs', h, f, l⟩ := s.rows
    rw [hR] at h
    cases h
    refine ⟨_, upd_same, ?_, by simp [l]⟩
    rw [List.map_append]
    exact (f.up uS).snoc (Fix.lst (by rw [upd_ne (fun e => nq (.inl (by rw [e]; exact mR)))]; exact hq) nq (.cons .int (.cons .str .nil)))
/-- another statement in the innermost body -/
theorem PSt.stm {f : PG.Frame} {a b : Addr} {r : List Fra} (s : PSt K H D S sc p B bs P R ((f, a, b) :: r) rows E) {xs : List V} (hb : H b = some (.lst xs)) {st : PG.Stm} {v : V} (hv : Fix K (O D P R ((f, a, b) :: r) E) H (dpS st) v) :
    PSt K (upd H b (.lst (xs ++ [v]))) D S sc p B bs P R (({ f with body := f.body ++ [st] }, a, b) :: r) rows E := by
  obtain ⟨n1, n2, n3, n4⟩ := s.ne
  have mb : b ∈ opn D P R ((f, a, b) :: r) := by simp [opn]
  have uS : UptoS (O D P R ((f, a, b) :: r) E) H (upd H b (.lst (xs ++ [v]))) := UptoS.refl.put (.inl mb) _
  obtain ⟨m1, m2, m3, m4, m5, m6⟩ := n4 _ (List.mem_cons_self ..)
  have nSb : S ≠ b := fun e => s.nS (by rw [e]; exact mb)
  have nd := s.nd
  have ndf : a ≠ b ∧ ∀ x ∈ r, x.2.1 ≠ b ∧ x.2.2 ≠ b := by
    unfold opn at nd
    rw [List.nodup_cons, List.nodup_cons, List.nodup_cons, List.flatMap_cons] at nd
    obtain ⟨_, _, _, h4⟩ := nd
    simp only [List.cons_append, List.nil_append, List.nodup_cons, List.mem_cons, not_or] at h4
    exact ⟨h4.1.1, fun x hx => ⟨fun e => h4.2.1 (List.mem_flatMap.mpr ⟨x, hx, by simp [e]⟩), fun e => h4.2.1 (List.mem_flatMap.mpr ⟨x, hx, by simp [e]⟩)⟩⟩
  refine ⟨⟨by rw [upd_ne m2.symm]; exact s.deck.deck, by rw [upd_ne nSb]; exact s.deck.script, s.deck.ne, s.deck.len⟩, s.box.up uS, s.few, by rw [upd_ne m4.symm, s.pile, List.reverse_cons, List.reverse_cons, List.map_append, List.map_append]; rfl, fun x hx => ?_, ?_, s.nd, s.nS⟩
  · rcases List.mem_cons.mp hx with rfl | hx
    · obtain ⟨hd, fi, xs', fa⟩ := s.frames _ (List.mem_cons_self ..)
      have e := fa.bd
      rw [hb] at e
      cases e
      have fu := (show FrameAt K (O D P R ((f, a, b) :: r) E) H f a b hd fi xs from fa)
      refine ⟨hd, fi, _, ⟨by rw [upd_ne ndf.1]; exact fa.fr, upd_same, ?_, fun z => let ⟨c, ys, e, h, n, g⟩ := fu.hdOk z; ⟨c, ys, e, uS _ _ n h, n, g.up uS⟩, fun z => (fu.fiOk z).up uS, by simp [fu.len]⟩⟩
      show Fixs K _ _ ((f.body ++ [st]).map dpS) _
      rw [List.map_append]
      exact (fu.ok.up uS).snoc (hv.up uS)
    · obtain ⟨hd, fi, xs', fa⟩ := s.frames x (List.mem_cons_of_mem _ hx)
      exact ⟨hd, fi, xs', fa.up uS (upd_ne (ndf.2 x hx).1) (upd_ne (ndf.2 x hx).2)⟩
  · obtain ⟨rvs, h, g, l⟩ := s.rows
    exact ⟨rvs, by rw [upd_ne m6.symm]; exact h, g.up uS, l⟩
/-- the innermost frame is taken from the pile -/
theorem PSt.pop {f : PG.Frame} {a b : Addr} {r : List Fra} (s : PSt K H D S sc p B bs P R ((f, a, b) :: r) rows E) :
    PSt K (upd H P (.lst (r.reverse.map fun x => .ref x.2.1))) D S sc p B bs P R r rows (a :: b :: E) ∧ (∃ hd fi xs, FrameAt K (O D P R r (a :: b :: E)) (upd H P (.lst (r.reverse.map fun x => .ref x.2.1))) f a b hd fi xs) ∧ a ∉ opn D P R r ∧ b ∉ opn D P R r ∧ a ≠ b := by
  obtain ⟨n1, n2, n3, n4⟩ := s.ne
  have mP : P ∈ opn D P R ((f, a, b) :: r) := by simp [opn]
  have uS : UptoS (O D P R ((f, a, b) :: r) E) H (upd H P (.lst (r.reverse.map fun x => .ref x.2.1))) := UptoS.refl.put (.inl mP) _
  have j : ∀ c, O D P R r (a :: b :: E) c → O D P R ((f, a, b) :: r) E c := fun c hc => by
    simp only [O, opn, List.mem_cons, List.flatMap_cons, List.cons_append, List.nil_append] at hc ⊢
    rcases hc with (h | h | h | h) | h | h | h
    · exact .inl (.inl h)
    · exact .inl (.inr (.inl h))
    · exact .inl (.inr (.inr (.inl h)))
    · exact .inl (.inr (.inr (.inr (.inr (.inr h)))))
    · exact .inl (.inr (.inr (.inr (.inl h))))
    · exact .inl (.inr (.inr (.inr (.inr (.inl h)))))
    · exact .inr h
  have sub : ∀ c, c ∈ opn D P R r → c ∈ opn D P R ((f, a, b) :: r) := fun c hc => by
    simp only [opn, List.mem_cons, List.flatMap_cons, List.cons_append, List.nil_append] at hc ⊢
    rcases hc with h | h | h | h
    · exact .inl h
    · exact .inr (.inl h)
    · exact .inr (.inr (.inl h))
    · exact .inr (.inr (.inr (.inr (.inr h))))
  have nd := s.nd
  unfold opn at nd
  rw [List.flatMap_cons] at nd
  simp only [List.cons_append, List.nil_append, List.nodup_cons, List.mem_cons, not_or] at nd
  obtain ⟨⟨d1, d2, d3, d4, d5⟩, ⟨p1, p2, p3, p4⟩, ⟨r1, r2, r3⟩, ⟨a1, a2⟩, b1, fl⟩ := nd
  have nSP : S ≠ P := fun e => s.nS (by rw [e]; exact mP)
  obtain ⟨m1, m2, m3, m4, m5, m6⟩ := n4 _ (List.mem_cons_self ..)
  refine ⟨⟨⟨by rw [upd_ne n1]; exact s.deck.deck, by rw [upd_ne nSP]; exact s.deck.script, s.deck.ne, s.deck.len⟩, (s.box.up uS).sub j, s.few, upd_same, fun x hx => ?_, ?_, ?_, fun z => s.nS (sub _ z)⟩, ?_, ?_, ?_, a1⟩
  · obtain ⟨hd, fi, xs', fa⟩ := s.frames x (List.mem_cons_of_mem _ hx)
    obtain ⟨_, _, k3, k4, _, _⟩ := n4 x (List.mem_cons_of_mem _ hx)
    exact ⟨hd, fi, xs', (fa.up uS (upd_ne k3) (upd_ne k4)).sub j⟩
  · obtain ⟨rvs, h, g, l⟩ := s.rows
    exact ⟨rvs, by rw [upd_ne n3.symm]; exact h, (g.up uS).sub j, l⟩
  · unfold opn
    simp only [List.nodup_cons, List.mem_cons, not_or]
    exact ⟨⟨d1, d2, d5⟩, ⟨p1, p4⟩, r3, fl⟩
  · obtain ⟨hd, fi, xs', fa⟩ := s.frames _ (List.mem_cons_self ..)
    exact ⟨hd, fi, xs', (fa.up uS (upd_ne m3) (upd_ne m4)).sub j⟩
  · unfold opn
    simp only [List.mem_cons, not_or]
    exact ⟨m1, m3, m5, a2⟩
  · unfold opn
    simp only [List.mem_cons, not_or]
    exact ⟨m2, m4, m6, b1⟩
/-- a frame is put on the pile -/
theorem PSt.push (s : PSt K H D S sc p B bs P R frs rows E) {f : PG.Frame} {a b : Addr} {hd fi : V} {xs : List V} (fa : FrameAt K (O D P R frs E) H f a b hd fi xs) (ha : a ∉ opn D P R frs) (hb : b ∉ opn D P R frs) (nab : a ≠ b) (nSa : S ≠ a) (nSb : S ≠ b) (ea : a ∈ E) (eb : b ∈ E) :
    PSt K (upd H P (.lst ((frs.reverse.map fun x => .ref x.2.1) ++ [.ref a]))) D S sc p B bs P R ((f, a, b) :: frs) rows E := by
  obtain ⟨n1, n2, n3, n4⟩ := s.ne
  have mP : P ∈ opn D P R frs := by simp [opn]
  have uS : UptoS (O D P R frs E) H (upd H P (.lst ((frs.reverse.map fun x => .ref x.2.1) ++ [.ref a]))) := UptoS.refl.put (.inl mP) _
  have j : ∀ c, O D P R ((f, a, b) :: frs) E c → O D P R frs E c := fun c hc => by
    simp only [O, opn, List.mem_cons, List.flatMap_cons, List.cons_append, List.nil_append] at hc ⊢
    rcases hc with (h | h | h | h | h | h) | h
    · exact .inl (.inl h)
    · exact .inl (.inr (.inl h))
    · exact .inl (.inr (.inr (.inl h)))
    · exact .inr (by rw [h]; exact ea)
    · exact .inr (by rw [h]; exact eb)
    · exact .inl (.inr (.inr (.inr h)))
    · exact .inr h
  have nSP : S ≠ P := fun e => s.nS (by rw [e]; exact mP)
  unfold opn at ha hb
  simp only [List.mem_cons, not_or] at ha hb
  have nd := s.nd
  unfold opn at nd
  simp only [List.nodup_cons, List.mem_cons, not_or] at nd
  obtain ⟨⟨d1, d2, d5⟩, ⟨p1, p4⟩, r3, fl⟩ := nd
  have nS := s.nS
  unfold opn at nS
  simp only [List.mem_cons, not_or] at nS
  refine ⟨⟨by rw [upd_ne n1]; exact s.deck.deck, by rw [upd_ne nSP]; exact s.deck.script, s.deck.ne, s.deck.len⟩, (s.box.up uS).sub j, s.few, by rw [upd_same, List.reverse_cons, List.map_append]; rfl, fun x hx => ?_, ?_, ?_, ?_⟩
  · rcases List.mem_cons.mp hx with rfl | hx
    · exact ⟨hd, fi, xs, (fa.up uS (upd_ne ha.2.1) (upd_ne hb.2.1)).sub j⟩
    · obtain ⟨hd, fi, xs', fa⟩ := s.frames x hx
      obtain ⟨_, _, k3, k4, _, _⟩ := n4 x hx
      exact ⟨hd, fi, xs', (fa.up uS (upd_ne k3) (upd_ne k4)).sub j⟩
  · obtain ⟨rvs, h, g, l⟩ := s.rows
    exact ⟨rvs, by rw [upd_ne n3.symm]; exact h, (g.up uS).sub j, l⟩
  · unfold opn
    rw [List.flatMap_cons]
    simp only [List.cons_append, List.nil_append, List.nodup_cons, List.mem_cons, not_or]
    exact ⟨⟨d1, d2, fun e => ha.1 e.symm, fun e => hb.1 e.symm, d5⟩, ⟨p1, fun e => ha.2.1 e.symm, fun e => hb.2.1 e.symm, p4⟩, ⟨fun e => ha.2.2.1 e.symm, fun e => hb.2.2.1 e.symm, r3⟩, ⟨nab, ha.2.2.2⟩, hb.2.2.2, fl⟩
  · unfold opn
    rw [List.flatMap_cons]
    simp only [List.cons_append, List.nil_append, List.mem_cons, not_or]
    exact ⟨nS.1, nS.2.1, nS.2.2.1, nSa, nSb, nS.2.2.2⟩
end
end L2

namespace L2
open PySem
/-- a comprehension over a list; the test and the part may lay new things -/
theorem comp_list3 {K : PySem.W.Frag} {a D : Addr} {xs : List V} {tc : TT} {te : TE} {Q : VK} {r : St} {H : Hp} (p : Nat → Bool) (f : Nat → V) (hS : SqL K H a xs) (hl : xs.length ≤ 16000000) (hD : H D = none)
    (test : ∀ i x, xs[i]? = some x → ∀ H2, Same H H2 → ∀ R : Bool → Hp → Prop, (∀ H3, Same H2 H3 → R (p i) H3) → tc (some x :: r) H2 R)
    (step : ∀ i x, xs[i]? = some x → p i = true → ∀ H2, Same H H2 → ∀ R : VK, (∀ H3, Same H2 H3 → R (f i) H3) → te (some x :: r) H2 R)
    (q : ∀ H2, Same H H2 → H2 D = some (.lst (((List.range xs.length).filter p).map f)) → Q (.ref D) H2) : compW (Itl K a) D (gName 0) tc te Q (none :: r) (upd H D (.lst [])) := by
  refine ⟨fun i m τ H2 => m = xs.length - i ∧ i ≤ xs.length ∧ (∃ x, τ = x :: r) ∧ Same H H2 ∧ H2 D = some (.lst (((List.range i).filter p).map f)), ⟨xs.length, by simp, Nat.zero_le _, ⟨none, rfl⟩, Same.new hD _, by rw [upd_same]; simp⟩, ?_⟩
  rintro i m τ H2 ⟨rfl, hi, ⟨x, rfl⟩, s2, h2⟩
  by_cases hlt : i < xs.length
  · refine .inr ⟨⟨xs, xs[i], s2.seq hS, by simp [hlt]⟩, fun τ' H' => (∃ x, τ' = x :: r) ∧ Same H H' ∧ H' D = some (.lst (((List.range (i + 1)).filter p).map f)), fun τ' H' ⟨h1, h3, h4⟩ => ⟨xs.length - (i + 1), by omega, rfl, hlt, h1, h3, h4⟩, fun y H' hy => ?_⟩
    obtain ⟨rfl, hy⟩ := hy
    have ey := hy _ (s2.seq hS)
    simp only [gName, List.set]
    refine test i y ey _ s2 _ fun H3 s3 => ?_
    have s13 := s2.trans s3
    have h3 := s3 _ _ h2
    rw [List.range_succ, List.filter_append, List.map_append]
    cases hp : p i with
    | false =>
      rw [if_neg Bool.false_ne_true]
      exact ⟨⟨_, rfl⟩, s13, by rw [h3]; simp [hp]⟩
    | true =>
      rw [if_pos rfl]
      refine step i y ey hp _ s13 _ fun H4 s4 => ⟨_, s4 _ _ h3, ?_, ⟨_, rfl⟩, ?_, ?_⟩
      · have h1 : (((List.range i).filter p).map f).length ≤ i := by
          rw [List.length_map]
          exact Nat.le_trans (List.length_filter_le _ _) (by rw [List.length_range]; omega)
        have : sizeLine = 2 ^ 24 := rfl
        omega
      · intro b o e
        rw [upd_ne (ne_of_none e hD)]
        exact s4 _ _ (s13 _ _ e)
      · rw [upd_same]
        simp [hp]
  · have e : i = xs.length := by omega
    subst e
    exact .inl ⟨⟨xs, s2.seq hS, Nat.le_refl _⟩, q H2 s2 h2⟩
theorem range_count {α : Type} (p : α → Bool) (d : α) : ∀ l : List α, ((List.range l.length).filter fun i => p (l.getD i d)).length = (l.filter p).length := by
  intro l
  have e : l = (List.range l.length).map fun i => l.getD i d := by
    apply List.ext_getElem
    · simp
    · intro i h1 h2
      simp [h1]
  conv => rhs; rw [e]
  rw [List.filter_map, List.length_map]
  rfl
section
variable (K : PySem.W.Frag)
def spNumber : Sp := fun vs H Q _ => ∃ (B R : Addr) (bs : List PG.Box) (rows : List PG.Row) (mode : Int), vs = [.ref B, .ref R, .int mode] ∧ Rep K H (.lst (bs.map dpBox)) (.ref B) ∧ Rep K H (.lst (rows.map dpRow)) (.ref R) ∧ bs.length ≤ 10 ∧ rows.length ≤ 1000 ∧
  ∀ H', Same H H' → Q (.int (PG.number bs.length rows mode)) H'
def spClose : Sp := fun vs H Q _ => ∃ (D S : Addr) (sc : List Int) (p : Nat) (B : Addr) (bs : List PG.Box) (P R : Addr) (f g : PG.Frame) (a b a' b' : Addr) (r : List Fra) (rows : List PG.Row), vs = [.ref P] ∧
  PSt K H D S sc p B bs P R ((f, a, b) :: (g, a', b') :: r) rows [] ∧ (f.kind = 1 ∨ f.kind = 2 ∨ f.kind = 3) ∧ g.body.length ≤ 1000 ∧ r.length ≤ 10 ∧
  ∀ H', (∀ c, H c ≠ none → H' c ≠ none) → (∀ c o, c ∉ opn D P R ((f, a, b) :: (g, a', b') :: r) → H c = some o → H' c = some o) → PSt K H' D S sc p B bs P R (({ g with body := g.body ++ [f.told] }, a', b') :: r) rows [] → Q .non H'
end
theorem ix_listK {X : Cx} {K : PySem.W.Frag} (h : X.K = K) : IxR X (rIxL K) := h ▸ ix_list
theorem op_notInK {X : Cx} {K : PySem.W.Frag} (h : X.K = K) : OpR X (compareOp .NotIn) (rIn K true) := h ▸ op_notIn_seq
end L2

namespace L2
open PySem
section
variable (K : PySem.W.Frag)
def dpPR (x : PG.Prog × List PG.Row) : Dp := .lst [dpProg x.1, .lst (x.2.map dpRow)]
def spProgram : Sp := fun vs H Q _ => ∃ (D S : Addr) (sc : List Int) (p many : Nat), vs = [.ref D, .int many] ∧ Deck K H D S sc p ∧ p ≤ 100 ∧ many ≤ 100 ∧
  ∀ v H', Upto D H H' → (∃ p', Deck K H' D S sc p') → Rep K H' (dpPR (PG.genProg sc many p)) v → Q v H'
end
/-- the old stays, but for the deck -/
def Kept (D : Addr) (H H' : Hp) : Prop := Upto D H H' ∧ ∀ b, H b ≠ none → H' b ≠ none
theorem Kept.up {D : Addr} {H H1 H2 : Hp} (k : Kept D H H1) (u : Upto D H1 H2) (hD : H2 D ≠ none) : Kept D H H2 := ⟨k.1.trans u, fun b hb => u.dom hD b (k.2 b hb)⟩
theorem Kept.same {D : Addr} {H H1 H2 : Hp} (k : Kept D H H1) (s : Same H1 H2) : Kept D H H2 := ⟨k.1.trans (.of s), fun b hb => by
  have := k.2 b hb
  cases z : H1 b with
  | none => exact absurd z this
  | some o => rw [s _ _ z]; simp⟩
/-- a thing that was not there is written -/
theorem Kept.put {D q : Addr} {H H1 : Hp} (k : Kept D H H1) (hq : H q = none) (o : HO) : Kept D H (upd H1 q o) := ⟨fun b u n e => by rw [upd_ne (ne_of_none e hq)]; exact k.1 b u n e, fun b hb => by
  by_cases z : b = q
  · rw [z, upd_same]; simp
  · rw [upd_ne z]; exact k.2 b hb⟩
theorem ifs_gen {c : TT} {ta tb : TS} {D : Ends} {σ : St} {H : Hp} (h : ∀ U : St → Hp → Prop, (∀ σ' H', tb D σ' H' → U σ' H') → tIfS c ta (fun _ σ H => U σ H) D σ H) : tIfS c ta tb D σ H := h (tb D) fun _ _ x => x
theorem dpS_word {K : PySem.W.Frag} {H : Hp} : ∀ (s : PG.Stm) {v : V}, Rep K H (dpS s) v → ∃ a ys, v = .ref a ∧ SqT K H a (.str (wdS s.wd) :: ys) := by
  intro s v h
  have key : ∃ ds, dpS s = .tup (.str (wdS s.wd) :: ds) := by
    cases s <;> exact ⟨_, by rw [dpS]; rfl⟩
  obtain ⟨ds, e⟩ := key
  rw [e, Rep.tup_iff] at h
  obtain ⟨a, xs, rfl, q, r⟩ := h
  rw [Reps.cons_iff] at r
  obtain ⟨v1, t1, rfl, e1, _⟩ := r
  rw [Rep.str_iff] at e1
  subst e1
  exact ⟨a, t1, rfl, q⟩
/-! ### flow -/
def bodiesOf : PG.Stm → List (List PG.Stm)
  | .ifs _ _ _ _ a b => [a, b]
  | .whl _ _ _ _ a => [a]
  | _ => []
def behindOf (s : PG.Stm) (x : Int) : Int := match s with
  | .whl k _ _ _ _ => k
  | _ => x
def waysOf (s : PG.Stm) (x : Int) : List Int := match s with
  | .stop _ => [0]
  | .ifs _ _ _ _ a b => [PG.firstRow a x, PG.firstRow b x]
  | .whl k _ _ _ a => [PG.firstRow a k, x]
  | _ => [x]
theorem flowS_eq (s : PG.Stm) (x : Int) : PG.flowS s x = (s.row, s.wd, waysOf s x) :: ((bodiesOf s).flatMap fun b => PG.flowB b (behindOf s x)) := by
  cases s <;> simp [PG.flowS, PG.Stm.row, PG.Stm.wd, waysOf, bodiesOf, behindOf]
def dpFlow (r : PG.FlowRow) : Dp := .tup [.int r.1, .str (wdS r.2.1), .tup (r.2.2.map .int)]
section
variable (K : PySem.W.Frag)
def spFirst : Sp := fun vs H Q _ => ∃ (b : Addr) (body : List PG.Stm) (x : Int), vs = [.ref b, .int x] ∧ Rep K H (.lst (body.map dpS)) (.ref b) ∧ body.length ≤ 100000 ∧ Q (.int (PG.firstRow body x)) H
def spBehind : Sp := fun vs H Q _ => ∃ (v : V) (st : PG.Stm) (x : Int), vs = [v, .int x] ∧ Rep K H (dpS st) v ∧ Q (.int (behindOf st x)) H
def spBodies : Sp := fun vs H Q _ => ∃ (v : V) (st : PG.Stm) (H0 : Hp), vs = [v] ∧ Rep K H0 (dpS st) v ∧ Same H0 H ∧ ∀ l us H', Same H H' → H l = none → H' l = some (.lst us) → Reps K H0 ((bodiesOf st).map fun b => .lst (b.map dpS)) us → Q (.ref l) H'
end
/-- a statement's parts: its word, its row, the rest -/
theorem stm_parts {K : PySem.W.Frag} {H : Hp} : ∀ (s : PG.Stm) {v : V}, Rep K H (dpS s) v → ∃ a ys, v = .ref a ∧ SqT K H a (.str (wdS s.wd) :: .int s.row :: ys) := by
  intro s v h
  have key : ∃ ds, dpS s = .tup (.str (wdS s.wd) :: .int s.row :: ds) := by
    cases s <;> exact ⟨_, by rw [dpS]; rfl⟩
  obtain ⟨ds, e⟩ := key
  rw [e, Rep.tup_iff] at h
  obtain ⟨a, xs, rfl, q, r⟩ := h
  rw [Reps.cons_iff] at r
  obtain ⟨v1, t1, rfl, e1, r⟩ := r
  rw [Reps.cons_iff] at r
  obtain ⟨v2, t2, rfl, e2, _⟩ := r
  rw [Rep.str_iff] at e1
  rw [Rep.int_iff] at e2
  subst e1 e2
  exact ⟨a, t2, rfl, q⟩
section
variable (K : PySem.W.Frag)
/-- bodies within, not too long -/
def shortS (st : PG.Stm) : Prop := ∀ b ∈ bodiesOf st, b.length ≤ 100000
def spWays : Sp := fun vs H Q _ => ∃ (v : V) (st : PG.Stm) (x : Int), vs = [v, .int x] ∧ Rep K H (dpS st) v ∧ shortS st ∧ ∀ u H', Same H H' → Rep K H' (.tup ((waysOf st x).map .int)) u → Q u H'
end
mutual
def noL : Dp → Bool
  | .lst _ => false
  | .tup l => noLs l
  | _ => true
def noLs : List Dp → Bool
  | [] => true
  | d :: r => noL d && noLs r
end
section
variable {K : PySem.W.Frag} {H H' : Hp} {tl : Addr} {xs : List V}
mutual
theorem rep_stay (h : H tl = some (.lst xs)) (u : UptoS (· = tl) H H') : ∀ (d : Dp) (v : V), noL d = true → Rep K H d v → Rep K H' d v
  | .non, v, _, r => by rw [Rep.non_iff] at r ⊢; exact r
  | .bl b, v, _, r => by rw [Rep.bl_iff] at r ⊢; exact r
  | .int b, v, _, r => by rw [Rep.int_iff] at r ⊢; exact r
  | .str b, v, _, r => by rw [Rep.str_iff] at r ⊢; exact r
  | .lst l, v, e, _ => by rw [noL] at e; cases e
  | .tup l, v, e, r => by
    rw [noL] at e
    rw [Rep.tup_iff] at r ⊢
    obtain ⟨a, ys, rfl, q, rs⟩ := r
    refine ⟨a, ys, rfl, ?_, reps_stay h u l ys e rs⟩
    rcases q with (q | ⟨o, q⟩) | q
    · exact .inl (.inl (u _ _ (ne_of q h (by intro z; cases z)) q))
    · exact .inl (.inr ⟨o, u _ _ (ne_of q h (by intro z; cases z)) q⟩)
    · exact .inr q
theorem reps_stay (h : H tl = some (.lst xs)) (u : UptoS (· = tl) H H') : ∀ (ds : List Dp) (vs : List V), noLs ds = true → Reps K H ds vs → Reps K H' ds vs
  | [], vs, _, r => by rw [Reps.nil_iff] at r ⊢; exact r
  | d :: ds, vs, e, r => by
    rw [noLs, Bool.and_eq_true] at e
    rw [Reps.cons_iff] at r ⊢
    obtain ⟨v, t, rfl, r1, r2⟩ := r
    exact ⟨v, t, rfl, rep_stay h u d v e.1 r1, reps_stay h u ds t e.2 r2⟩
end
theorem fixs_of (h : H tl = some (.lst xs)) {ds : List Dp} {vs : List V} (e : noLs ds = true) (r : Reps K H ds vs) : Fixs K (· = tl) H ds vs := fun _ u => reps_stay h u ds vs e r
theorem fix_of (h : H tl = some (.lst xs)) {d : Dp} {v : V} (e : noL d = true) (r : Rep K H d v) : Fix K (· = tl) H d v := fun _ u => rep_stay h u d v e r
end
theorem noLs_ints : ∀ l : List Int, noLs (l.map .int) = true
  | [] => by simp [noLs]
  | i :: r => by rw [List.map_cons, noLs, noLs_ints r]; simp [noL]
theorem noL_flow (r : PG.FlowRow) : noL (dpFlow r) = true := by simp [dpFlow, noL, noLs, noLs_ints]
theorem noLs_flow : ∀ l : List PG.FlowRow, noLs (l.map dpFlow) = true
  | [] => by simp [noLs]
  | r :: l => by rw [List.map_cons, noLs, noL_flow, noLs_flow l]; rfl
section
variable (K : PySem.W.Frag)
def spFlowB (n : Nat) : Sp := fun vs H Q _ => ∃ (b : Addr) (body : List PG.Stm) (x : Int), vs = [.ref b, .int x] ∧ Rep K H (.lst (body.map dpS)) (.ref b) ∧ PG.depB body < n ∧ (PG.flats body).length ≤ 1000 ∧
  ∀ l us H', Same H H' → H l = none → H' l = some (.lst us) → Reps K H' ((PG.flowB body x).map dpFlow) us → Q (.ref l) H'
end
mutual
theorem flatS_bodies : ∀ (s : PG.Stm) (b : List PG.Stm), b ∈ bodiesOf s → (PG.flats b).length + 1 ≤ (PG.flatS s).length ∧ PG.depB b + 1 ≤ PG.depS s
  | .ifs k _ _ _ x y, b, h => by
    simp only [bodiesOf, List.mem_cons, List.not_mem_nil, or_false] at h
    rw [PG.flatS, PG.depS]
    simp only [List.length_cons, List.length_append]
    rcases h with rfl | rfl <;> omega
  | .whl k _ _ _ x, b, h => by
    simp only [bodiesOf, List.mem_cons, List.not_mem_nil, or_false] at h
    rw [PG.flatS, PG.depS]
    simp only [List.length_cons]
    subst h
    omega
  | .ask _ _, b, h => by cases h
  | .put _ _ _, b, h => by cases h
  | .say _ _, b, h => by cases h
  | .must _ _ _ _, b, h => by cases h
  | .stop _, b, h => by cases h
end
theorem flats_mem : ∀ (l : List PG.Stm) (s : PG.Stm), s ∈ l → (PG.flatS s).length ≤ (PG.flats l).length ∧ PG.depS s ≤ PG.depB l
  | [], s, h => by cases h
  | a :: r, s, h => by
    rw [PG.flats, PG.depB, List.length_append]
    rcases List.mem_cons.mp h with rfl | h
    · omega
    · have := flats_mem r s h
      omega
theorem flatS_pos (s : PG.Stm) : 1 ≤ (PG.flatS s).length := by cases s <;> simp [PG.flatS]
theorem len_flats : ∀ l : List PG.Stm, l.length ≤ (PG.flats l).length
  | [] => Nat.zero_le _
  | s :: r => by
    rw [PG.flats, List.length_append, List.length_cons]
    have := flatS_pos s
    have := len_flats r
    omega
section
variable (K : PySem.W.Frag)
def spFlow : Sp := fun vs H Q _ => ∃ (v : V) (pr : PG.Prog), vs = [v] ∧ Rep K H (dpProg pr) v ∧ PG.depB pr.body ≤ 3 ∧ (PG.flats pr.body).length ≤ 1000 ∧
  ∀ l us H', Same H H' → H l = none → H' l = some (.lst us) → Reps K H' ((PG.flowB pr.body 0).map dpFlow) us → Q (.ref l) H'
end
end L2

namespace L2
open PySem
section
variable {X : Cx}
/-- x == y of two of the same make, not deep -/
def rSame6 (K : PySem.W.Frag) : R2 := fun x y H Q => ∃ d, Rep K H d x ∧ Rep K H d y ∧ (∃ l, d = .lst l) ∧ d.deep ≤ 60 ∧ Q (.bl true) H
theorem op_eqS6 (hu : X.A.units + 64 < cLine) : OpR X (compareOp .Eq) (rSame6 X.K) := by
  intro pins s σ H x y v u Q I rx ry h
  obtain ⟨d, h1, h2, ⟨l, rfl⟩, hd, q⟩ := h
  rw [Rep.lst_iff] at h1 h2
  obtain ⟨p, xs, rfl, q1, w1⟩ := h1
  obtain ⟨p', xs', rfl, q2, w2⟩ := h2
  cases (show v = Value.ref p from rx)
  cases (show u = Value.ref p' from ry)
  obtain ⟨its, v1, t1, _⟩ := I.list q1
  obtain ⟨its', v2, t2, _⟩ := I.list q2
  unfold Dp.deep at hd
  have items := eq_sames I w1 w2 v1 v2 (A := X.A.in1) (by show X.A.units + 1 + _ < _; omega)
  have n1 : its.length = its'.length := by rw [← v1.length, ← v2.length, w1.length, w2.length]
  refine SeqAt.eq_listAt (e := fun _ => true) t1.isList t2.isList (by simpa using n1) (by omega) (fun j h1 h2 => items j its[j] its'[j] (by simp at h1; simp [h1]) (by simp at h2; simp [h2])) ?_
  rw [all_true]
  exact ⟨.bl true, H, I, rfl, q⟩
end
/-! how deep -/
theorem deep_dpT : ∀ t : PM.Tr, (dpT t).deep ≤ PG.trd t + 1
  | .num n => by simp [dpT, Dp.deep, Dp.deeps]
  | .box n => by simp [dpT, Dp.deep, Dp.deeps]
  | .bin o l r => by
    have := deep_dpT l
    have := deep_dpT r
    simp only [dpT, Dp.deep, Dp.deeps, PG.trd]
    omega
abbrev OkE : PG.Stm → Prop := PG.OkS (fun _ => True) (fun e => PG.trd e ≤ 2) (fun _ => True)
abbrev OkEs : List PG.Stm → Prop := PG.OkB (fun _ => True) (fun e => PG.trd e ≤ 2) (fun _ => True)
mutual
theorem deep_dpS : ∀ s : PG.Stm, OkE s → (dpS s).deep ≤ 2 * PG.depS s + 4
  | .ask k b, h => by simp [dpS, Dp.deep, Dp.deeps]
  | .put k b e, h => by
    simp only [PG.OkS] at h
    have := deep_dpT e
    simp only [dpS, Dp.deep, Dp.deeps, PG.depS]
    omega
  | .say k e, h => by
    simp only [PG.OkS] at h
    have := deep_dpT e
    simp only [dpS, Dp.deep, Dp.deeps, PG.depS]
    omega
  | .must k sg l r, h => by
    simp only [PG.OkS] at h
    have := deep_dpT l
    have := deep_dpT r
    simp only [dpS, Dp.deep, Dp.deeps, PG.depS]
    omega
  | .stop k, h => by simp [dpS, Dp.deep, Dp.deeps]
  | .ifs k sg l r a b, h => by
    simp only [PG.OkS] at h
    have := deep_dpT l
    have := deep_dpT r
    have := deep_dpSs a h.2.2.2.1
    have := deep_dpSs b h.2.2.2.2
    simp only [dpS, Dp.deep, Dp.deeps, PG.depS]
    omega
  | .whl k sg l r a, h => by
    simp only [PG.OkS] at h
    have := deep_dpT l
    have := deep_dpT r
    have := deep_dpSs a h.2.2.2
    simp only [dpS, Dp.deep, Dp.deeps, PG.depS]
    omega
theorem deep_dpSs : ∀ b : List PG.Stm, OkEs b → Dp.deeps (dpSs b) ≤ 2 * PG.depB b + 4
  | [], h => by simp [dpSs, Dp.deeps]
  | s :: r, h => by
    simp only [PG.OkB] at h
    have := deep_dpS s h.1
    have := deep_dpSs r h.2
    simp only [dpSs, Dp.deeps, PG.depB]
    omega
end
theorem deep_boxes : ∀ b : List PG.Box, Dp.deeps (b.map dpBox) ≤ 1
  | [] => by simp [Dp.deeps]
  | s :: r => by
    have := deep_boxes r
    simp only [List.map_cons, Dp.deeps, dpBox, Dp.deep]
    omega
theorem deep_rows : ∀ b : List PG.Row, Dp.deeps (b.map dpRow) ≤ 1
  | [] => by simp [Dp.deeps]
  | s :: r => by
    have := deep_rows r
    simp only [List.map_cons, Dp.deeps, dpRow, Dp.deep]
    omega
theorem deep_PR (sc : List Int) (many p : Nat) : (dpPR (PG.genProg sc many p)).deep ≤ 60 := by
  have ok : OkEs (PG.genProg sc many p).1.body := PG.prog_parts sc many p (fun _ _ => trivial) (fun d q hd => Nat.le_trans (PG.genE_trd _ _ _ _) hd) (fun _ => trivial)
  have h1 := deep_dpSs _ ok
  have h2 := PG.prog_dep sc many p
  have h3 := deep_boxes (PG.genProg sc many p).1.boxes
  have h4 := deep_rows (PG.genProg sc many p).2
  rw [dpSs_map] at h1
  simp only [dpPR, dpProg, Dp.deep, Dp.deeps]
  omega
/-! targets on the heap -/
structure TgI (K : PySem.W.Frag) (H H2 : Hp) (tl : Addr) (H3 : Hp) (us : List V) (pre : List PG.Tg) : Prop where
  s : Same H H3
  u : UptoS (· = tl) H2 H3
  y : H3 tl = some (.lst us)
  f : Fixs K (· = tl) H3 (pre.map dpTg) us
  l : us.length = pre.length
section
variable {K : PySem.W.Frag} {H H2 H3 H4 : Hp} {tl p : Addr} {us vs : List V} {pre : List PG.Tg} {ds : List Dp} {g : PG.Tg}
end
theorem row_at {K : PySem.W.Frag} {H : Hp} {rows : List PG.Row} {rv : List V} (rr : Reps K H (rows.map dpRow) rv) {i : Nat} {y : V} (hi : rv[i]? = some y) (li : i < rows.length) : ∃ a, y = .ref a ∧ SqL K H a [.int rows[i].1, .str (wdS rows[i].2)] := by
  obtain ⟨v', hv', rw_⟩ := rr.get (i := i) (d := dpRow rows[i]) (by rw [List.getElem?_map, List.getElem?_eq_getElem li]; rfl)
  rw [hi] at hv'
  cases hv'
  unfold dpRow at rw_
  rw [Rep.lst_iff] at rw_
  obtain ⟨a, ys, rfl, hy, ry⟩ := rw_
  rw [Reps.cons_iff] at ry
  obtain ⟨v1, t1, rfl, e1, ry⟩ := ry
  rw [Reps.cons_iff] at ry
  obtain ⟨v2, t2, rfl, e2, ry⟩ := ry
  rw [Reps.nil_iff] at ry
  subst ry
  rw [Rep.str_iff] at e2
  rw [Rep.int_iff] at e1
  subst e1 e2
  exact ⟨a, rfl, hy⟩
theorem wd_loop : ∀ w : PG.Wd, inV (V.str (wdS w)) [V.str (Str.ofString "if"), V.str (Str.ofString "while")] = decide (w = .ifs ∨ w = .whl) := by
  intro w
  cases w <;> decide +kernel
theorem wd_not : ∀ w : PG.Wd, inV (V.str (wdS w)) [V.str (Str.ofString "else"), V.str (Str.ofString "end")] = decide (w = .els ∨ w = .fin) := by
  intro w
  cases w <;> decide +kernel
section
variable (K : PySem.W.Frag)
end
/-- a comprehension over a tuple; the test and the part may lay new things -/
theorem comp_tup3 {K : PySem.W.Frag} {a D : Addr} {xs : List V} {tc : TT} {te : TE} {Q : VK} {r : St} {H : Hp} (p : Nat → Bool) (f : Nat → V) (hS : SqT K H a xs) (hl : xs.length ≤ 16000000) (hD : H D = none)
    (test : ∀ i x, xs[i]? = some x → ∀ H2, Same H H2 → ∀ R : Bool → Hp → Prop, (∀ H3, Same H2 H3 → R (p i) H3) → tc (some x :: r) H2 R)
    (step : ∀ i x, xs[i]? = some x → p i = true → ∀ H2, Same H H2 → ∀ R : VK, (∀ H3, Same H2 H3 → R (f i) H3) → te (some x :: r) H2 R)
    (q : ∀ H2, Same H H2 → H2 D = some (.lst (((List.range xs.length).filter p).map f)) → Q (.ref D) H2) : compW (Itt K a) D (gName 0) tc te Q (none :: r) (upd H D (.lst [])) := by
  refine ⟨fun i m τ H2 => m = xs.length - i ∧ i ≤ xs.length ∧ (∃ x, τ = x :: r) ∧ Same H H2 ∧ H2 D = some (.lst (((List.range i).filter p).map f)), ⟨xs.length, by simp, Nat.zero_le _, ⟨none, rfl⟩, Same.new hD _, by rw [upd_same]; simp⟩, ?_⟩
  rintro i m τ H2 ⟨rfl, hi, ⟨x, rfl⟩, s2, h2⟩
  by_cases hlt : i < xs.length
  · refine .inr ⟨⟨xs, xs[i], s2.seqT hS, by simp [hlt]⟩, fun τ' H' => (∃ x, τ' = x :: r) ∧ Same H H' ∧ H' D = some (.lst (((List.range (i + 1)).filter p).map f)), fun τ' H' ⟨h1, h3, h4⟩ => ⟨xs.length - (i + 1), by omega, rfl, hlt, h1, h3, h4⟩, fun y H' hy => ?_⟩
    obtain ⟨rfl, hy⟩ := hy
    have ey := hy _ (s2.seqT hS)
    simp only [gName, List.set]
    refine test i y ey _ s2 _ fun H3 s3 => ?_
    have s13 := s2.trans s3
    have h3 := s3 _ _ h2
    rw [List.range_succ, List.filter_append, List.map_append]
    cases hp : p i with
    | false =>
      rw [if_neg Bool.false_ne_true]
      exact ⟨⟨_, rfl⟩, s13, by rw [h3]; simp [hp]⟩
    | true =>
      rw [if_pos rfl]
      refine step i y ey hp _ s13 _ fun H4 s4 => ⟨_, s4 _ _ h3, ?_, ⟨_, rfl⟩, ?_, ?_⟩
      · have h1 : (((List.range i).filter p).map f).length ≤ i := by
          rw [List.length_map]
          exact Nat.le_trans (List.length_filter_le _ _) (by rw [List.length_range]; omega)
        have : sizeLine = 2 ^ 24 := rfl
        omega
      · intro b o e
        rw [upd_ne (ne_of_none e hD)]
        exact s4 _ _ (s13 _ _ e)
      · rw [upd_same]
        simp [hp]
  · have e : i = xs.length := by omega
    subst e
    exact .inl ⟨⟨xs, s2.seqT hS, Nat.le_refl _⟩, q H2 s2 h2⟩
end L2

/-! ### openers, elses and ends on the heap -/
namespace L2
open PySem
def optV : Option Nat → V
  | none => .non
  | some e => .int e
def mtV (A : Nat → Addr) (p : Nat) : Option PG.Mt → Option V
  | none => none
  | some (.back q) => some (.int q)
  | some (.op _ _) => some (.ref (A p))
/-- the dict at d tells m; all is new since H -/
structure MtI (H : Hp) (d : Addr) (m : PG.Mm) (A : Nat → Addr) (Hx : Hp) (kvs : List (Key × V)) : Prop where
  s : Same H Hx
  dn : H d = none
  dd : Hx d = some (.dK kvs)
  at_ : ∀ p : Nat, valV kvs (.inl (p : Int)) = mtV A p (m p)
  ls : ∀ p e f, m p = some (.op e f) → Hx (A p) = some (.lst [optV e, optV f]) ∧ H (A p) = none
  inj : ∀ p q e f e' f', m p = some (.op e f) → m q = some (.op e' f') → A p = A q → p = q
section
variable {H Hx H' : Hp} {d b : Addr} {m : PG.Mm} {A : Nat → Addr} {kvs : List (Key × V)} {o : HO}
theorem MtI.ne (t : MtI H d m A Hx kvs) {p : Nat} {e f : Option Nat} (h : m p = some (.op e f)) : A p ≠ d := ne_of (t.ls p e f h).1 t.dd (by intro z; cases z)
theorem MtI.same (t : MtI H d m A Hx kvs) (s : Same Hx H') : MtI H d m A H' kvs := ⟨t.s.trans s, t.dn, s _ _ t.dd, t.at_, fun p e f h => ⟨s _ _ (t.ls p e f h).1, (t.ls p e f h).2⟩, t.inj⟩
/-- another thing is written -/
theorem MtI.put (t : MtI H d m A Hx kvs) (hb : H b = none) (nd : b ≠ d) (nl : ∀ p e f, m p = some (.op e f) → A p ≠ b) (o : HO) : MtI H d m A (upd Hx b o) kvs :=
  ⟨fun z u e => by rw [upd_ne (ne_of_none e hb)]; exact t.s z u e, t.dn, by rw [upd_ne nd.symm]; exact t.dd, t.at_, fun p e f h => ⟨by rw [upd_ne (nl p e f h)]; exact (t.ls p e f h).1, (t.ls p e f h).2⟩, t.inj⟩
theorem len_putK {κ : Type} [DecidableEq κ] (kvs : List (κ × V)) (k : κ) (v : V) : (putK kvs k v).length ≤ kvs.length + 1 := by
  unfold putK
  split
  · rw [List.length_map]; omega
  · rw [List.length_append]; simp
/-- d[p] = q -/
theorem MtI.back (t : MtI H d m A Hx kvs) (p q : Nat) : MtI H d (m.set p (.back q)) A (upd Hx d (.dK (putK kvs (.inl (p : Int)) (.int q)))) (putK kvs (.inl (p : Int)) (.int q)) := by
  have key : ∀ j e f, (m.set p (.back q)) j = some (.op e f) → j ≠ p ∧ m j = some (.op e f) := fun j e f h => by
    by_cases z : j = p
    · subst z
      rw [PG.Mm.set_same] at h
      cases h
    · rw [PG.Mm.set_ne _ _ z] at h
      exact ⟨z, h⟩
  refine ⟨fun z u e => by rw [upd_ne (ne_of_none e t.dn)]; exact t.s z u e, t.dn, upd_same, fun j => ?_, fun j e f h => ?_, fun a b e f e' f' h1 h2 z => t.inj a b e f e' f' (key a e f h1).2 (key b e' f' h2).2 z⟩
  · rw [valV_put]
    by_cases z : j = p
    · subst z
      rw [if_pos rfl, PG.Mm.set_same]
      rfl
    · rw [if_neg (fun e => z (by injection e with e; omega)), PG.Mm.set_ne _ _ z, t.at_ j]
  · have h := (key j e f h).2
    exact ⟨by rw [upd_ne (t.ne h)]; exact (t.ls j e f h).1, (t.ls j e f h).2⟩
/-- d[p] = [None, None], a new list -/
theorem MtI.open_ (t : MtI H d m A Hx kvs) (p : Nat) (hb : Hx b = none) : MtI H d (m.set p (.op none none)) (fun j => if j = p then b else A j) (upd (upd Hx b (.lst [.non, .non])) d (.dK (putK kvs (.inl (p : Int)) (.ref b)))) (putK kvs (.inl (p : Int)) (.ref b)) := by
  have nb : b ≠ d := (ne_of_none t.dd hb).symm
  have hb0 : H b = none := by
    cases z : H b with
    | none => rfl
    | some o => rw [t.s _ _ z] at hb; cases hb
  have key : ∀ j e f, (m.set p (.op none none)) j = some (.op e f) → (j = p ∧ e = none ∧ f = none) ∨ (j ≠ p ∧ m j = some (.op e f)) := fun j e f h => by
    by_cases z : j = p
    · subst z
      rw [PG.Mm.set_same] at h
      cases h
      exact .inl ⟨rfl, rfl, rfl⟩
    · rw [PG.Mm.set_ne _ _ z] at h
      exact .inr ⟨z, h⟩
  have old : ∀ j e f, m j = some (.op e f) → A j ≠ b := fun j e f h => ne_of_none (t.ls j e f h).1 hb
  refine ⟨fun z u e => by rw [upd_ne (ne_of_none e t.dn), upd_ne (ne_of_none e hb0)]; exact t.s z u e, t.dn, upd_same, fun j => ?_, fun j e f h => ?_, fun a c e f e' f' h1 h2 z => ?_⟩
  · rw [valV_put]
    by_cases z : j = p
    · subst z
      rw [if_pos rfl, PG.Mm.set_same]
      simp [mtV]
    · rw [if_neg (fun e => z (by injection e with e; omega)), PG.Mm.set_ne _ _ z, t.at_ j]
      unfold mtV
      cases m j with
      | none => rfl
      | some x => cases x <;> simp [z]
  · rcases key j e f h with ⟨rfl, rfl, rfl⟩ | ⟨z, h⟩
    · rw [if_pos rfl]
      exact ⟨by rw [upd_ne nb, upd_same]; rfl, hb0⟩
    · rw [if_neg z]
      exact ⟨by rw [upd_ne (t.ne h), upd_ne (old j e f h)]; exact (t.ls j e f h).1, (t.ls j e f h).2⟩
  · rcases key a e f h1 with ⟨rfl, _, _⟩ | ⟨z1, g1⟩ <;> rcases key c e' f' h2 with ⟨rfl, _, _⟩ | ⟨z2, g2⟩
    · rfl
    · rw [if_pos rfl, if_neg z2] at z
      exact absurd z.symm (old c _ _ g2)
    · rw [if_neg z1, if_pos rfl] at z
      exact absurd z (old a _ _ g1)
    · rw [if_neg z1, if_neg z2] at z
      exact t.inj a c e f e' f' g1 g2 z
/-- the list of an opener is written -/
theorem MtI.list (t : MtI H d m A Hx kvs) {p : Nat} {e f : Option Nat} (h : m p = some (.op e f)) (e' f' : Option Nat) : MtI H d (m.set p (.op e' f')) A (upd Hx (A p) (.lst [optV e', optV f'])) kvs := by
  have key : ∀ j x y, (m.set p (.op e' f')) j = some (.op x y) → (j = p ∧ x = e' ∧ y = f') ∨ (j ≠ p ∧ m j = some (.op x y)) := fun j x y h => by
    by_cases z : j = p
    · subst z
      rw [PG.Mm.set_same] at h
      cases h
      exact .inl ⟨rfl, rfl, rfl⟩
    · rw [PG.Mm.set_ne _ _ z] at h
      exact .inr ⟨z, h⟩
  have op : ∀ j x y, (m.set p (.op e' f')) j = some (.op x y) → ∃ x y, m j = some (.op x y) := fun j x y hj => by
    rcases key j x y hj with ⟨rfl, _, _⟩ | ⟨_, h'⟩
    · exact ⟨_, _, h⟩
    · exact ⟨_, _, h'⟩
  refine ⟨fun z u q => by rw [upd_ne (ne_of_none q (t.ls p e f h).2)]; exact t.s z u q, t.dn, by rw [upd_ne (t.ne h).symm]; exact t.dd, fun j => ?_, fun j x y hj => ?_, fun a c x y x' y' h1 h2 z => ?_⟩
  · rw [t.at_ j]
    by_cases z : j = p
    · subst z
      rw [PG.Mm.set_same, h]
      rfl
    · rw [PG.Mm.set_ne _ _ z]
  · rcases key j x y hj with ⟨rfl, rfl, rfl⟩ | ⟨z, hj⟩
    · exact ⟨upd_same, (t.ls _ _ _ h).2⟩
    · exact ⟨by rw [upd_ne (fun q => z (t.inj j p _ _ _ _ hj h q))]; exact (t.ls j x y hj).1, (t.ls j x y hj).2⟩
  · obtain ⟨_, _, h1⟩ := op a x y h1
    obtain ⟨_, _, h2⟩ := op c x' y' h2
    exact t.inj a c _ _ _ _ h1 h2 z
end
section
variable (K : PySem.W.Frag)
/-- the matches of rows: they stay, whatever becomes of old things -/
def MtOf (H Hx : Hp) (d : Addr) (R : List PG.Row) : Prop := ∃ A kvs, MtI H d (PG.mtOf R) A Hx kvs
def spEnds : Sp := fun vs H Q _ => ∃ (R : Addr) (rows : List PG.Row) (b : List PG.Stm), vs = [.ref R] ∧ Rep K H (.lst (rows.map dpRow)) (.ref R) ∧ rows.length ≤ 1000 ∧ PG.TextB b rows ∧ ∀ d H', MtOf H H' d rows → Q (.ref d) H'
def spTo : Sp := fun vs H Q _ => ∃ (R d : Addr) (rows : List PG.Row) (b : List PG.Stm) (H0 : Hp) (p : Nat), vs = [.ref R, .ref d, .int p] ∧ Rep K H (.lst (rows.map dpRow)) (.ref R) ∧ rows.length ≤ 1000 ∧ PG.TextB b rows ∧ MtOf H0 H d rows ∧ Q (.int (PG.to rows (PG.mtOf rows) p)) H
def spLWays : Sp := fun vs H Q _ => ∃ (R : Addr) (rows : List PG.Row) (b : List PG.Stm), vs = [.ref R] ∧ Rep K H (.lst (rows.map dpRow)) (.ref R) ∧ rows.length ≤ 1000 ∧ PG.TextB b rows ∧
  ∀ l us H', Same H H' → H l = none → H' l = some (.lst us) → Reps K H' ((PG.flowB b 0).map dpFlow) us → Q (.ref l) H'
end
end L2

/-! ### a list that grows -/
namespace L2
open PySem
structure AccL (K : PySem.W.Frag) (H : Hp) (tl : Addr) (H3 : Hp) (us : List V) (ds : List Dp) : Prop where
  s : Same H H3
  y : H3 tl = some (.lst us)
  f : Fixs K (· = tl) H3 ds us
  l : us.length = ds.length
section
variable {K : PySem.W.Frag} {H H3 H4 : Hp} {tl p p1 p2 : Addr} {us vs : List V} {ds es : List Dp} {d : Dp} {v : V}
theorem AccL.new (h : H tl = none) : AccL K H tl (upd H tl (.lst [])) [] [] := ⟨Same.new h _, upd_same, .nil, rfl⟩
theorem AccL.same (a : AccL K H tl H3 us ds) (s : Same H3 H4) : AccL K H tl H4 us ds := ⟨a.s.trans s, s _ _ a.y, a.f.up (.of s), a.l⟩
theorem AccL.push (a : AccL K H tl H3 us ds) (ht : H tl = none) (fv : Fix K (· = tl) H3 d v) : AccL K H tl (upd H3 tl (.lst (us ++ [v]))) (us ++ [v]) (ds ++ [d]) := by
  have uu : UptoS (· = tl) H3 (upd H3 tl (.lst (us ++ [v]))) := UptoS.refl.put (O := (· = tl)) rfl _
  exact ⟨fun z o e => by rw [upd_ne (ne_of_none e ht)]; exact a.s z o e, upd_same, (a.f.snoc fv).up uu, by simp [a.l]⟩
/-- a new tuple of a row, a word and ways, put at the end -/
theorem AccL.row (a : AccL K H tl H3 us ds) (ht : H tl = none) {k : Int} {w : PG.Wd} {ws : List Int} (h1 : H3 p1 = none) (h2 : (upd H3 p1 (.tup (ws.map V.int))) p2 = none) :
    (upd (upd H3 p1 (.tup (ws.map V.int))) p2 (.tup [.int k, .str (wdS w), .ref p1])) tl = some (.lst us) ∧
    AccL K H tl (upd (upd (upd H3 p1 (.tup (ws.map V.int))) p2 (.tup [.int k, .str (wdS w), .ref p1])) tl (.lst (us ++ [.ref p2]))) (us ++ [.ref p2]) (ds ++ [dpFlow (k, w, ws)]) := by
  have s1 := Same.new h1 (.tup (ws.map V.int))
  have a1 := a.same s1
  have t1 : (upd H3 p1 (.tup (ws.map V.int))) p1 = some (.tup (ws.map V.int)) := upd_same
  have n1 : p1 ≠ tl := (ne_of_none a.y h1).symm
  generalize upd H3 p1 (.tup (ws.map V.int)) = H5 at *
  have s2 := Same.new h2 (.tup [.int k, .str (wdS w), .ref p1])
  have a2 := a1.same s2
  have t2 : (upd H5 p2 (.tup [.int k, .str (wdS w), .ref p1])) p2 = some (.tup [.int k, .str (wdS w), .ref p1]) := upd_same
  have n2 : p2 ≠ tl := (ne_of_none a1.y h2).symm
  have t1 := s2 _ _ t1
  generalize upd H5 p2 (.tup [.int k, .str (wdS w), .ref p1]) = H6 at *
  refine ⟨a2.y, a2.push ht (Fix.tup t2 n2 (.cons .int (.cons .str (.cons (Fix.tup t1 n1 ?_) .nil))))⟩
  have allI : ∀ l : List Int, Fixs K (· = tl) H6 (l.map Dp.int) (l.map V.int) := fun l => by
    induction l with
    | nil => exact .nil
    | cons i r ih => exact .cons .int ih
  exact allI ws
end
end L2

/-! ### statements by their rows -/
namespace L2
open PySem
section
variable {X : Cx}
def rUpdate : V → List V → Hp → VK → Prop := fun x vs H Q => ∃ a b kvs more, x = .ref a ∧ vs = [.ref b] ∧ a ≠ b ∧ H a = some (.dK kvs) ∧ H b = some (.dK more) ∧ kvs.length + more.length ≤ sizeLine ∧ Q .non (upd H a (.dK (mergeK kvs more)))
theorem mt_update : MtM X "dict.update" rUpdate := by
  intro pins s σ H x vs v us Q I rx rv h
  obtain ⟨a, b, kvs, more, rfl, rfl, hab, ha, hb, hz, q⟩ := h
  cases rx
  obtain ⟨u, rfl, ru⟩ := rv.one
  cases ru
  obtain ⟨z, hd, vs, rel, dd⟩ := dk_of I.hok ha
  obtain ⟨z2, hd2, vs2, rel2, dd2⟩ := dk_of I.hok hb
  refine call_meetsIn PySem.F.slot_dict_update dd.typeIs PySem.F.entry_dict_update (PySem.F.args_dict_update_2 _ _) (meets_dict_update (mixKind X.prog X.w) a b hab hd2) ⟨vs, vs2, dd, dd2, by rw [← rel.length, ← rel2.length]; exact hz, fun h' dd' _ hs => ?_⟩
  have he : ∃ q, h'.get? a = some q := let ⟨q, _, _, hq, _⟩ := dd'; ⟨q, hq⟩
  exact ⟨.non, _, d_write (t' := s.toks) I (by rw [ha]; exact True.intro) hs he (dk_new (Nat.le_trans (length_mergeK more kvs) hz) hd (rel2.merge rel) dd'), rfl, q⟩
end
/-! new keys stand at the end -/
theorem putK_fresh {kvs : List (Key × V)} {k : Key} {v : V} (h : k ∉ kvs.map (·.1)) : putK kvs k v = kvs ++ [(k, v)] := by
  unfold putK
  rw [if_neg]
  intro z
  rw [List.any_eq_true] at z
  obtain ⟨x, hx, e⟩ := z
  exact h (List.mem_map.mpr ⟨x, hx, of_decide_eq_true e⟩)
theorem mergeK_new : ∀ (more kvs : List (Key × V)), ((kvs ++ more).map (·.1)).Nodup → mergeK kvs more = kvs ++ more
  | [], kvs, _ => by simp [mergeK]
  | p :: r, kvs, h => by
    have hp : p.1 ∉ kvs.map (·.1) := fun z => by
      rw [List.map_append, List.nodup_append] at h
      exact h.2.2 _ z _ (by simp) rfl
    show mergeK (putK kvs p.1 p.2) r = _
    rw [putK_fresh hp, mergeK_new r _ (by rw [List.append_assoc]; exact h), List.append_assoc]
    rfl
/-- a dict of rows and statements -/
def rowKv (ss : List PG.Stm) (vs : List V) : List (Key × V) := List.zipWith (fun s v => (Sum.inl s.row, v)) ss vs
theorem rowKv_keys : ∀ (ss : List PG.Stm) (vs : List V), vs.length = ss.length → (rowKv ss vs).map (·.1) = ss.map fun s => (Sum.inl s.row : Key)
  | [], [], _ => rfl
  | [], _ :: _, h => by simp at h
  | _ :: _, [], h => by simp at h
  | s :: ss, v :: vs, h => by
    show _ :: (rowKv ss vs).map (·.1) = _
    rw [rowKv_keys ss vs (by simpa using h)]
    rfl
theorem rowKv_app : ∀ (ss tt : List PG.Stm) (vs us : List V), vs.length = ss.length → rowKv (ss ++ tt) (vs ++ us) = rowKv ss vs ++ rowKv tt us
  | [], tt, [], us, _ => rfl
  | [], _, _ :: _, _, h => by simp at h
  | _ :: _, _, [], _, h => by simp at h
  | s :: ss, tt, v :: vs, us, h => by
    show _ :: rowKv (ss ++ tt) (vs ++ us) = _ :: (rowKv ss vs ++ rowKv tt us)
    rw [rowKv_app ss tt vs us (by simpa using h)]
theorem rows_nodup {ss : List PG.Stm} (h : ss.Pairwise fun a b => a.row < b.row) : (ss.map fun s => (Sum.inl s.row : Key)).Nodup := by
  refine List.pairwise_map.mpr (h.imp fun {a b} hab e => ?_)
  have := Sum.inl.inj e
  omega
theorem rowKv_at : ∀ (ss : List PG.Stm) (vs : List V), vs.length = ss.length → ss.Pairwise (fun a b => a.row < b.row) → ∀ i (hi : i < ss.length) v, vs[i]? = some v → valV (rowKv ss vs) (.inl ss[i].row) = some v
  | [], _, _, _, i, hi, _, _ => by simp at hi
  | _ :: _, [], h, _, _, _, _, _ => by simp at h
  | s :: ss, v :: vs, h, hp, 0, hi, u, hu => by
    simp at hu
    subst hu
    show valV ((_, v) :: rowKv ss vs) _ = _
    exact valV_pos rfl
  | s :: ss, v :: vs, h, hp, i + 1, hi, u, hu => by
    rw [List.pairwise_cons] at hp
    have lt := hp.1 (ss[i]'(by simpa using hi)) (List.getElem_mem _)
    show valV ((.inl s.row, v) :: rowKv ss vs) (.inl (ss[i]'(by simpa using hi)).row) = _
    rw [valV_neg (fun e => by have e := Sum.inl.inj e; omega)]
    exact rowKv_at ss vs (by simpa using h) hp.2 i (by simpa using hi) u (by simpa using hu)
/-! a statement's own list of statements -/
theorem stmS_eq (s : PG.Stm) : PG.stmS s = s :: (bodiesOf s).flatMap PG.stmB := by
  cases s <;> simp [PG.stmS, bodiesOf]
section
variable (K : PySem.W.Frag)
def spStms (n : Nat) : Sp := fun vs H Q _ => ∃ (b : Addr) (body : List PG.Stm) (H0 : Hp), vs = [.ref b] ∧ Same H0 H ∧ Rep K H0 (.lst (body.map dpS)) (.ref b) ∧ PG.depB body < n ∧ (PG.flats body).length ≤ 1000 ∧ (PG.stmB body).Pairwise (fun a b => a.row < b.row) ∧
  ∀ d us H', Same H H' → H d = none → us.length = (PG.stmB body).length → H' d = some (.dK (rowKv (PG.stmB body) us)) → Reps K H0 ((PG.stmB body).map dpS) us → Q (.ref d) H'
def spStmIn (n : Nat) : Sp := fun vs H Q _ => ∃ (b : Addr) (body : List PG.Stm) (H0 : Hp), vs = [.ref b] ∧ Same H0 H ∧ Rep K H0 (.lst (body.map dpS)) (.ref b) ∧ PG.depB body < n ∧ (PG.flats body).length ≤ 1000 ∧
  ∀ l us H', Same H H' → H l = none → H' l = some (.lst us) → Reps K H0 ((PG.stmB body).map dpS) us → Q (.ref l) H'
end
/-- a statement's parts from the sixth on are its bodies -/
theorem stm_cut {K : PySem.W.Frag} {H : Hp} : ∀ (s : PG.Stm) {v : V}, Rep K H (dpS s) v → ∃ a xs, v = .ref a ∧ SqT K H a xs ∧ 2 ≤ xs.length ∧ xs.length ≤ 7 ∧ xs[1]? = some (.int s.row) ∧ Reps K H ((bodiesOf s).map fun b => .lst (b.map dpS)) (cutV xs (some 5) none) := by
  intro s v h
  have cut : ∀ xs : List V, cutV xs (some 5) none = xs.drop 5 := fun xs => by
    unfold cutV
    rw [HT.sIx_none, show (5 : Int) = ((5 : Nat) : Int) from rfl, HT.sIx_nat]
    by_cases h : 5 ≤ xs.length
    · rw [Nat.min_eq_left h]
      exact List.take_of_length_le (by rw [List.length_drop]; omega)
    · rw [Nat.min_eq_right (by omega), List.drop_eq_nil_of_le (Nat.le_refl _), List.drop_eq_nil_of_le (by omega), List.take_nil]
  cases s with
  | ask k b =>
    simp only [dpS, Rep.tup_iff, Reps.cons_iff, Reps.nil_iff, Rep.str_iff, Rep.int_iff] at h
    obtain ⟨a, xs, rfl, hS, _, _, rfl, rfl, _, _, rfl, rfl, _, _, rfl, rfl, rfl⟩ := h
    exact ⟨a, _, rfl, hS, by simp, by simp, rfl, by rw [cut]; exact .nil⟩
  | put k b e =>
    simp only [dpS, Rep.tup_iff, Reps.cons_iff, Reps.nil_iff, Rep.str_iff, Rep.int_iff] at h
    obtain ⟨a, xs, rfl, hS, _, _, rfl, rfl, _, _, rfl, rfl, _, _, rfl, _, _, _, rfl, _, rfl⟩ := h
    exact ⟨a, _, rfl, hS, by simp, by simp, rfl, by rw [cut]; exact .nil⟩
  | say k e =>
    simp only [dpS, Rep.tup_iff, Reps.cons_iff, Reps.nil_iff, Rep.str_iff, Rep.int_iff] at h
    obtain ⟨a, xs, rfl, hS, _, _, rfl, rfl, _, _, rfl, rfl, _, _, rfl, _, rfl⟩ := h
    exact ⟨a, _, rfl, hS, by simp, by simp, rfl, by rw [cut]; exact .nil⟩
  | must k sg l r =>
    simp only [dpS, Rep.tup_iff, Reps.cons_iff, Reps.nil_iff, Rep.str_iff, Rep.int_iff] at h
    obtain ⟨a, xs, rfl, hS, _, _, rfl, rfl, _, _, rfl, rfl, _, _, rfl, _, _, _, rfl, _, _, _, rfl, _, rfl⟩ := h
    exact ⟨a, _, rfl, hS, by simp, by simp, rfl, by rw [cut]; exact .nil⟩
  | stop k =>
    simp only [dpS, Rep.tup_iff, Reps.cons_iff, Reps.nil_iff, Rep.str_iff, Rep.int_iff] at h
    obtain ⟨a, xs, rfl, hS, _, _, rfl, rfl, _, _, rfl, rfl, rfl⟩ := h
    exact ⟨a, _, rfl, hS, by simp, by simp, rfl, by rw [cut]; exact .nil⟩
  | ifs k sg l r x y =>
    simp only [dpS, Rep.tup_iff, Reps.cons_iff, Reps.nil_iff, Rep.str_iff, Rep.int_iff] at h
    obtain ⟨a, xs, rfl, hS, _, _, rfl, rfl, _, _, rfl, rfl, _, _, rfl, _, _, _, rfl, _, _, _, rfl, _, _, _, rfl, h5, _, _, rfl, h6, rfl⟩ := h
    rw [dpSs_map] at h5 h6
    exact ⟨a, _, rfl, hS, by simp, by simp, rfl, by rw [cut]; exact .cons h5 (.cons h6 .nil)⟩
  | whl k sg l r x =>
    simp only [dpS, Rep.tup_iff, Reps.cons_iff, Reps.nil_iff, Rep.str_iff, Rep.int_iff] at h
    obtain ⟨a, xs, rfl, hS, _, _, rfl, rfl, _, _, rfl, rfl, _, _, rfl, _, _, _, rfl, _, _, _, rfl, _, _, _, rfl, h5, rfl⟩ := h
    rw [dpSs_map] at h5
    exact ⟨a, _, rfl, hS, by simp, by simp, rfl, by rw [cut]; exact .cons h5 .nil⟩
theorem for_genT {K : PySem.W.Frag} {tl : TE} {g : TG} {tb : TS} {D : Ends} {σ : St} {H : Hp} (h : ∀ U : Addr → Hp → Prop, (∀ a H1, (∃ W : Nat → Nat → St → Hp → Prop, (∃ m, W 0 m σ H1) ∧ ∀ i m σ H, W i m σ H →
    ((Itt K a).stop i H ∧ D.nx σ H) ∨ ((Itt K a).go i H ∧ ∃ N : St → Hp → Prop, (∀ σ' H', N σ' H' → ∃ m', m' < m ∧ W (i + 1) m' σ' H') ∧ ∀ x H', (Itt K a).yld i H x H' → g x σ H' fun σ2 H2 => tb { D with nx := N, ct := N, bk := D.nx } σ2 H2)) → U a H1) →
    tl σ H fun x H1 => ∃ a, x = .ref a ∧ (∃ xs, SqT K H1 a xs) ∧ U a H1) : tFor (iTup K tl) g tb D σ H := h _ fun _ _ x => x
theorem stmB_app : ∀ a b : List PG.Stm, PG.stmB (a ++ b) = PG.stmB a ++ PG.stmB b
  | [], b => by simp [PG.stmB]
  | s :: r, b => by
    show PG.stmB (s :: (r ++ b)) = _
    rw [PG.stmB, PG.stmB, stmB_app r b, List.append_assoc]
theorem stmB_one (s : PG.Stm) : PG.stmB [s] = PG.stmS s := by rw [PG.stmB, PG.stmB, List.append_nil]
theorem stmB_len (b : List PG.Stm) : (PG.stmB b).length = (PG.flats b).length := by rw [← PG.stmB_flat, List.length_map]
end L2

namespace HT
open PySem PySem.Spec PyProof.Rows
section
variable {prog : Program} {w : World} {A : Around} {E : Value → Shared → Prop} {s : Shared}
theorem getItem_tuple_whole {t sl : Addr} {items : Array Value} {vl vu : Value} {lo hi : Option Int} {Q : Value → Shared → Prop} (ht : IsTup s.heap t items) (hs : s.heap.IsSliceOf sl vl vu .none) (pl : IsPart vl lo) (pu : IsPart vu hi)
    (hw : sIx items.size 0 lo = 0 ∧ sIx items.size items.size hi = items.size) (h : Q (.ref t) s) : wpAny (model prog w) A (getItem (.ref t) (.ref sl)) Q E s := by
  have hj : sIx items.size items.size hi ≤ items.size := sIx_le _ _ (Nat.le_refl _) hi
  obtain ⟨os, hos, hcs, hds⟩ := id hs
  have hTs : s.TypeIs (.ref sl) "slice" := ⟨os, hos, hcs⟩
  unfold getItem
  try with_reducible refine wpAny_holding ?_
  first | refine wpAny_bind (wpAny_pure ?_) | skip
  refine wpAny_bind (wpAny_sequenceKey ht.typeIs (by decide) ?_)
  refine wpAny_bind (wpAny_callSpecial?_slot (name := Str.ofString "__getitem__") ht.typeIs PyProof.Rows.slot_tuple_getitem
    (wpAny_call_entry PyProof.Rows.slot_tuple_getitem ht.typeIs entry_tuple_getitem ?_ (args_tuple_getitem _ _)))
  show wpAny _ _ (Builtin.Tuple.tupleItemsOf (.ref t) >>= _) _ _ s
  refine wpAny_bind (tupleItemsOf_ ht ?_)
  refine wpAny_bind (wpAny_typeOf hTs ?_)
  rw [if_pos (by decide)]
  refine wpAny_bind (sliceApplied_gen hs pl pu ?_)
  have hyes : ((((sIx items.size 0 lo : Nat) : Int) == 0 && (1 : Int) == 1 && (sIx items.size items.size hi - sIx items.size 0 lo) == items.size) = true) := by
    rw [hw.1, hw.2]
    simp
  show wpAny _ _ (if (((sIx items.size 0 lo : Nat) : Int) == 0 && (1 : Int) == 1 && (sIx items.size items.size hi - sIx items.size 0 lo) == items.size) = true then _ else _) _ _ s
  rw [if_pos hyes]
  refine wpAny_bind (m := Builtin.Tuple.tupleIsExact _) ?_
  unfold Builtin.Tuple.tupleIsExact
  refine wpAny_bind (wpAny_typeOf ht.typeIs (wpAny_pure ?_))
  rw [if_pos (by simp)]
  first
    | exact wpAny_bind (wpAny_rule (wpAny_pure ⟨_, rfl, wpAny_pure h⟩))
    | exact wpAny_bind (wpAny_pure (wpAny_pure ⟨_, rfl, wpAny_pure h⟩))
end
end HT
namespace L2
open PySem PySem.Spec PyProof.Rows
/-- t[lo:hi]: the whole is t itself, else a new one -/
def rSlTT (K : PySem.W.Frag) : V → Option Int → Option Int → Hp → VK → Prop := fun x lo hi H Q => ∃ a xs, x = .ref a ∧ SqT K H a xs ∧
  ((HT.sIx xs.length 0 lo = 0 ∧ HT.sIx xs.length xs.length hi = xs.length) → Q (.ref a) H) ∧
  (¬ (HT.sIx xs.length 0 lo = 0 ∧ HT.sIx xs.length xs.length hi = xs.length) → ∀ p, H p = none → Q (.ref p) (upd H p (.tup (cutV xs lo hi))))
theorem sl_tupT {X : Cx} : SlR X (rSlTT X.K) := by
  intro pins s σ H x v vl vu lo hi sl Q I rx hs pl pu h
  obtain ⟨a, xs, rfl, hx, h1, h2⟩ := h
  by_cases hw : HT.sIx xs.length 0 lo = 0 ∧ HT.sIx xs.length xs.length hi = xs.length
  · cases rx
    obtain ⟨its, r, ht, hz⟩ := I.tuple hx
    have hlen : its.toArray.size = xs.length := by rw [List.size_toArray]; exact r.length.symm
    refine ⟨"tuple", _, PyProof.Rows.slot_tuple_getitem.lookup, ht.typeIs, ?_⟩
    exact HT.getItem_tuple_whole ht hs pl pu (by rw [hlen]; exact hw) ⟨.ref a, H, I, rfl, h1 hw⟩
  · exact sl_tup pins s σ H (.ref a) v vl vu lo hi sl Q I rx hs pl pu ⟨a, xs, rfl, hx, hw, h2 hw⟩
end L2

/-! ### statements whose bodies are lists of their own -/
namespace L2
open PySem
def All3 {α β γ : Type} (R : α → β → γ → Prop) : List α → List β → List γ → Prop
  | [], [], [] => True
  | a :: as, b :: bs, c :: cs => R a b c ∧ All3 R as bs cs
  | _, _, _ => False
section
variable {α β γ : Type} {R S : α → β → γ → Prop}
theorem All3.nil_iff {bs : List β} {cs : List γ} : All3 R [] bs cs ↔ bs = [] ∧ cs = [] := by
  cases bs <;> cases cs <;> simp [All3]
theorem All3.cons_iff {a : α} {as : List α} {bs : List β} {cs : List γ} : All3 R (a :: as) bs cs ↔ ∃ b bs' c cs', bs = b :: bs' ∧ cs = c :: cs' ∧ R a b c ∧ All3 R as bs' cs' := by
  constructor
  · intro h
    cases bs with
    | nil => simp [All3] at h
    | cons b bs =>
      cases cs with
      | nil => simp [All3] at h
      | cons c cs => exact ⟨b, bs, c, cs, rfl, rfl, h.1, h.2⟩
  · rintro ⟨b, bs', c, cs', rfl, rfl, h1, h2⟩
    exact ⟨h1, h2⟩
theorem All3.length : ∀ {as : List α} {bs : List β} {cs : List γ}, All3 R as bs cs → bs.length = as.length ∧ cs.length = as.length
  | [], _, _, h => by obtain ⟨rfl, rfl⟩ := All3.nil_iff.mp h; exact ⟨rfl, rfl⟩
  | a :: as, _, _, h => by
    obtain ⟨b, bs', c, cs', rfl, rfl, _, h2⟩ := All3.cons_iff.mp h
    have := All3.length h2
    simp [this]
theorem All3.imp : ∀ {as : List α} {bs : List β} {cs : List γ}, All3 R as bs cs → (∀ a b c, a ∈ as → c ∈ cs → R a b c → S a b c) → All3 S as bs cs
  | [], _, _, h, _ => by obtain ⟨rfl, rfl⟩ := All3.nil_iff.mp h; trivial
  | a :: as, _, _, h, f => by
    obtain ⟨b, bs', c, cs', rfl, rfl, h1, h2⟩ := All3.cons_iff.mp h
    exact ⟨f a b c (List.mem_cons_self ..) (List.mem_cons_self ..) h1, h2.imp fun a' b' c' m1 m2 => f a' b' c' (List.mem_cons_of_mem _ m1) (List.mem_cons_of_mem _ m2)⟩
theorem All3.snoc : ∀ {as : List α} {bs : List β} {cs : List γ} {a : α} {b : β} {c : γ}, All3 R as bs cs → R a b c → All3 R (as ++ [a]) (bs ++ [b]) (cs ++ [c])
  | [], _, _, a, b, c, h, r => by obtain ⟨rfl, rfl⟩ := All3.nil_iff.mp h; exact ⟨r, trivial⟩
  | x :: as, _, _, a, b, c, h, r => by
    obtain ⟨b', bs', c', cs', rfl, rfl, h1, h2⟩ := All3.cons_iff.mp h
    exact ⟨h1, All3.snoc h2 r⟩
end
def hdS : PG.Stm → List Dp
  | .ask k b => [.str "ask", .int k, .str (S b)]
  | .put k b e => [.str "put", .int k, .str (S b), dpT e]
  | .say k e => [.str "say", .int k, dpT e]
  | .must k sg l r => [.str "must", .int k, .str (S sg), dpT l, dpT r]
  | .stop k => [.str "stop", .int k]
  | .ifs k sg l r _ _ => [.str "if", .int k, .str (S sg), dpT l, dpT r]
  | .whl k sg l r _ => [.str "while", .int k, .str (S sg), dpT l, dpT r]
theorem dpS_hd (s : PG.Stm) : dpS s = .tup (hdS s ++ (bodiesOf s).map fun b => .lst (b.map dpS)) := by
  cases s <;> simp [dpS, hdS, bodiesOf, dpSs_map]
theorem hdS_len (s : PG.Stm) : 2 ≤ (hdS s).length ∧ (hdS s).length ≤ 5 ∧ (bodiesOf s ≠ [] → (hdS s).length = 5) := by
  cases s <;> simp [hdS, bodiesOf]
mutual
theorem noL_T : ∀ t : PM.Tr, noL (dpT t) = true
  | .num n => by simp [dpT, noL, noLs]
  | .box n => by simp [dpT, noL, noLs]
  | .bin o l r => by simp [dpT, noL, noLs, noL_T l, noL_T r]
end
theorem noLs_hd (s : PG.Stm) : noLs (hdS s) = true := by cases s <;> simp [hdS, noLs, noL, noL_T]
section
variable {K : PySem.W.Frag} {H H' : Hp} {O : Addr → Prop}
theorem seqT_stay (hO : ∀ g, O g → ∃ ys, H g = some (.lst ys)) (u : UptoS O H H') {a : Addr} {ys : List V} (q : SqT K H a ys) : SqT K H' a ys := by
  rcases q with (q | ⟨o, q⟩) | q
  · exact .inl (.inl (u _ _ (fun z => by obtain ⟨_, e⟩ := hO a z; rw [e] at q; cases q) q))
  · exact .inl (.inr ⟨o, u _ _ (fun z => by obtain ⟨_, e⟩ := hO a z; rw [e] at q; cases q) q⟩)
  · exact .inr q
mutual
theorem repO_stay (hO : ∀ g, O g → ∃ ys, H g = some (.lst ys)) (u : UptoS O H H') : ∀ (d : Dp) (v : V), noL d = true → Rep K H d v → Rep K H' d v
  | .non, v, _, r => by rw [Rep.non_iff] at r ⊢; exact r
  | .bl b, v, _, r => by rw [Rep.bl_iff] at r ⊢; exact r
  | .int b, v, _, r => by rw [Rep.int_iff] at r ⊢; exact r
  | .str b, v, _, r => by rw [Rep.str_iff] at r ⊢; exact r
  | .lst l, v, e, _ => by rw [noL] at e; cases e
  | .tup l, v, e, r => by
    rw [noL] at e
    rw [Rep.tup_iff] at r ⊢
    obtain ⟨a, ys, rfl, q, rs⟩ := r
    exact ⟨a, ys, rfl, seqT_stay hO u q, repsO_stay hO u l ys e rs⟩
theorem repsO_stay (hO : ∀ g, O g → ∃ ys, H g = some (.lst ys)) (u : UptoS O H H') : ∀ (ds : List Dp) (vs : List V), noLs ds = true → Reps K H ds vs → Reps K H' ds vs
  | [], vs, _, r => by rw [Reps.nil_iff] at r ⊢; exact r
  | d :: ds, vs, e, r => by
    rw [noLs, Bool.and_eq_true] at e
    rw [Reps.cons_iff] at r ⊢
    obtain ⟨v, t, rfl, r1, r2⟩ := r
    exact ⟨v, t, rfl, repO_stay hO u d v e.1 r1, repsO_stay hO u ds t e.2 r2⟩
end
end
section
variable (K : PySem.W.Frag) (H : Hp)
def TrB : Nat → List PG.Stm → Addr → List Addr → Prop
  | 0, _, _, _ => False
  | n + 1, body, b, F => ∃ vs Fs, H b = some (.lst vs) ∧ All3 (fun s v G => ∃ a hs bs Gs, v = .ref a ∧ SqT K H a (hs ++ bs.map V.ref) ∧ Reps K H (hdS s) hs ∧ All3 (TrB n) (bodiesOf s) bs Gs ∧ G = Gs.flatten) body vs Fs ∧ F = b :: Fs.flatten
def TrS (n : Nat) (s : PG.Stm) (v : V) (G : List Addr) : Prop := ∃ a hs bs Gs, v = .ref a ∧ SqT K H a (hs ++ bs.map V.ref) ∧ Reps K H (hdS s) hs ∧ All3 (TrB K H n) (bodiesOf s) bs Gs ∧ G = Gs.flatten
end
section
variable {K : PySem.W.Frag} {H H' : Hp} {O : Addr → Prop}
theorem TrB_succ {n : Nat} {body : List PG.Stm} {b : Addr} {F : List Addr} : TrB K H (n + 1) body b F ↔ ∃ vs Fs, H b = some (.lst vs) ∧ All3 (TrS K H n) body vs Fs ∧ F = b :: Fs.flatten := Iff.rfl
theorem TrB.stay (hO : ∀ g, O g → ∃ ys, H g = some (.lst ys)) (u : UptoS O H H') : ∀ (n : Nat) (body : List PG.Stm) (b : Addr) (F : List Addr), (∀ f ∈ F, ¬ O f) → TrB K H n body b F → TrB K H' n body b F
  | 0, _, _, _, _, h => h.elim
  | n + 1, body, b, F, hF, h => by
    obtain ⟨vs, Fs, hb, all, rfl⟩ := TrB_succ.mp h
    refine TrB_succ.mpr ⟨vs, Fs, u _ _ (hF b (List.mem_cons_self ..)) hb, all.imp fun s v G _ mG hs => ?_, rfl⟩
    obtain ⟨a, hs, bs, Gs, rfl, q, r, al, rfl⟩ := hs
    refine ⟨a, hs, bs, Gs, rfl, seqT_stay hO u q, repsO_stay hO u _ _ (noLs_hd s) r, al.imp fun bd b' G' _ mG' ht => TrB.stay hO u n bd b' G' (fun f hf => ?_) ht, rfl⟩
    exact hF f (List.mem_cons_of_mem _ (List.mem_flatten.mpr ⟨_, mG, List.mem_flatten.mpr ⟨_, mG', hf⟩⟩))
theorem TrS.stay (hO : ∀ g, O g → ∃ ys, H g = some (.lst ys)) (u : UptoS O H H') {n : Nat} {s : PG.Stm} {v : V} {G : List Addr} (hG : ∀ f ∈ G, ¬ O f) (h : TrS K H n s v G) : TrS K H' n s v G := by
  obtain ⟨a, hs, bs, Gs, rfl, q, r, al, rfl⟩ := h
  exact ⟨a, hs, bs, Gs, rfl, seqT_stay hO u q, repsO_stay hO u _ _ (noLs_hd s) r, al.imp fun bd b' G' _ mG' ht => TrB.stay hO u n bd b' G' (fun f hf => hG f (List.mem_flatten.mpr ⟨_, mG', hf⟩)) ht, rfl⟩
theorem TrB.lists : ∀ (n : Nat) (body : List PG.Stm) (b : Addr) (F : List Addr), TrB K H n body b F → ∀ f ∈ F, ∃ ys, H f = some (.lst ys)
  | 0, _, _, _, h => h.elim
  | n + 1, body, b, F, h => by
    obtain ⟨vs, Fs, hb, all, rfl⟩ := TrB_succ.mp h
    intro f hf
    rcases List.mem_cons.mp hf with rfl | hf
    · exact ⟨vs, hb⟩
    · have key : ∀ {as : List PG.Stm} {bs : List V} {cs : List (List Addr)}, All3 (TrS K H n) as bs cs → ∀ f ∈ cs.flatten, ∃ ys, H f = some (.lst ys) := by
        intro as
        induction as with
        | nil => intro bs cs h f hf; obtain ⟨rfl, rfl⟩ := All3.nil_iff.mp h; simp at hf
        | cons a as ih =>
          intro bs cs h f hf
          obtain ⟨b', bs', c, cs', rfl, rfl, h1, h2⟩ := All3.cons_iff.mp h
          rw [List.flatten_cons, List.mem_append] at hf
          rcases hf with hf | hf
          · obtain ⟨a', hs, bb, Gs, rfl, q, r, al, rfl⟩ := h1
            have key2 : ∀ {as : List (List PG.Stm)} {bs : List Addr} {cs : List (List Addr)}, All3 (TrB K H n) as bs cs → ∀ f ∈ cs.flatten, ∃ ys, H f = some (.lst ys) := by
              intro as
              induction as with
              | nil => intro bs cs h f hf; obtain ⟨rfl, rfl⟩ := All3.nil_iff.mp h; simp at hf
              | cons x as ih2 =>
                intro bs cs h f hf
                obtain ⟨b', bs', c, cs', rfl, rfl, h1, h2⟩ := All3.cons_iff.mp h
                rw [List.flatten_cons, List.mem_append] at hf
                rcases hf with hf | hf
                · exact TrB.lists n _ _ _ h1 f hf
                · exact ih2 h2 f hf
            exact key2 al f hf
          · exact ih h2 f hf
      exact key all f hf
mutual
theorem TrB.rep : ∀ (n : Nat) (body : List PG.Stm) (b : Addr) (F : List Addr), TrB K H n body b F → Rep K H (.lst (body.map dpS)) (.ref b)
  | 0, _, _, _, h => h.elim
  | n + 1, body, b, F, h => by
    obtain ⟨vs, Fs, hb, all, rfl⟩ := TrB_succ.mp h
    refine Rep.lst_iff.mpr ⟨b, vs, rfl, .of hb, ?_⟩
    have key : ∀ {as : List PG.Stm} {bs : List V} {cs : List (List Addr)}, All3 (TrS K H n) as bs cs → Reps K H (as.map dpS) bs := by
      intro as
      induction as with
      | nil => intro bs cs h; obtain ⟨rfl, rfl⟩ := All3.nil_iff.mp h; exact .nil
      | cons a as ih =>
        intro bs cs h
        obtain ⟨b', bs', c, cs', rfl, rfl, h1, h2⟩ := All3.cons_iff.mp h
        refine .cons ?_ (ih h2)
        obtain ⟨a', hs, bb, Gs, rfl, q, r, al, rfl⟩ := h1
        rw [dpS_hd]
        refine Rep.tup_iff.mpr ⟨a', _, rfl, q, r.append ?_⟩
        have key2 : ∀ {as : List (List PG.Stm)} {bs : List Addr} {cs : List (List Addr)}, All3 (TrB K H n) as bs cs → Reps K H (as.map fun b => .lst (b.map dpS)) (bs.map V.ref) := by
          intro as
          induction as with
          | nil => intro bs cs h; obtain ⟨rfl, rfl⟩ := All3.nil_iff.mp h; exact .nil
          | cons x as ih2 =>
            intro bs cs h
            obtain ⟨b', bs', c, cs', rfl, rfl, h1, h2⟩ := All3.cons_iff.mp h
            exact .cons (TrB.rep n _ _ _ h1) (ih2 h2)
        exact key2 al
    exact key all
end
theorem TrS.rep {n : Nat} {s : PG.Stm} {v : V} {G : List Addr} (h : TrS K H n s v G) : Rep K H (dpS s) v := by
  obtain ⟨a', hs, bb, Gs, rfl, q, r, al, rfl⟩ := h
  rw [dpS_hd]
  refine Rep.tup_iff.mpr ⟨a', _, rfl, q, r.append ?_⟩
  have key2 : ∀ {as : List (List PG.Stm)} {bs : List Addr} {cs : List (List Addr)}, All3 (TrB K H n) as bs cs → Reps K H (as.map fun b => .lst (b.map dpS)) (bs.map V.ref) := by
    intro as
    induction as with
    | nil => intro bs cs h; obtain ⟨rfl, rfl⟩ := All3.nil_iff.mp h; exact .nil
    | cons x as ih2 =>
      intro bs cs h
      obtain ⟨b', bs', c, cs', rfl, rfl, h1, h2⟩ := All3.cons_iff.mp h
      exact .cons (TrB.rep n _ _ _ h1) (ih2 h2)
  exact key2 al
/-- the bodies' part of a statement's tuple -/
theorem tr_cut {s : PG.Stm} {hs : List V} {bs : List Addr} (r : Reps K H (hdS s) hs) (l : bs.length = (bodiesOf s).length) : cutV (hs ++ bs.map V.ref) (some 5) none = bs.map V.ref := by
  obtain ⟨h1, h2, h3⟩ := hdS_len s
  have lh := r.length
  unfold cutV
  rw [HT.sIx_none, show (5 : Int) = ((5 : Nat) : Int) from rfl, HT.sIx_nat]
  by_cases hb : bodiesOf s = []
  · rw [hb] at l
    have : bs = [] := List.length_eq_zero_iff.mp l
    subst this
    simp only [List.map_nil, List.append_nil]
    rw [Nat.min_eq_right (by omega), Nat.sub_self, List.take_zero]
  · have := h3 hb
    have e5 : hs.length = 5 := by omega
    rw [List.length_append, Nat.min_eq_left (by omega), List.drop_append_of_le_length (by omega), ← e5, List.drop_length, List.nil_append]
    exact List.take_of_length_le (by omega)
end
section
variable (K : PySem.W.Frag)
def spSpoil (n : Nat) : Sp := fun vs H Q _ => ∃ (b : Addr) (body : List PG.Stm) (F : List Addr), vs = [.ref b] ∧ TrB K H n body b F ∧ F.Nodup ∧ (PG.flats body).length ≤ 1000 ∧ ∀ H', UptoS (· ∈ F) H H' → (∀ f ∈ F, ∃ ys, H' f = some (.lst ys)) → Q .non H'
def spCopyS (n : Nat) : Sp := fun vs H Q _ => ∃ (v : V) (st : PG.Stm) (H0 : Hp), vs = [v] ∧ Same H0 H ∧ Rep K H0 (dpS st) v ∧ PG.depS st < n + 1 ∧ (PG.flatS st).length ≤ 1000 ∧ ∀ u G H', Same H H' → TrS K H' n st u G → G.Nodup → (∀ f ∈ G, H f = none) → Q u H'
def spCopyB (n : Nat) : Sp := fun vs H Q _ => ∃ (b : Addr) (body : List PG.Stm) (H0 : Hp), vs = [.ref b] ∧ Same H0 H ∧ Rep K H0 (.lst (body.map dpS)) (.ref b) ∧ PG.depB body < n ∧ (PG.flats body).length ≤ 1000 ∧ ∀ l F H', Same H H' → TrB K H' n body l F → F.Nodup → (∀ f ∈ F, H f = none) → Q (.ref l) H'
def spWith : Sp := fun vs H Q _ => ∃ (a l : Addr) (hs ws : List V) (bs : List V), vs = [.ref a, .ref l] ∧ SqT K H a (hs ++ ws) ∧ hs ≠ [] ∧ hs.length ≤ 10 ∧ ws.length = bs.length ∧ bs.length ≤ 10 ∧ H l = some (.lst bs) ∧ ∀ p H', Same H H' → SqT K H' p (hs ++ bs) → Q (.ref p) H'
def spStmAt : Sp := fun vs H Q _ => ∃ (v : V) (pr : PG.Prog) (i : Nat) (hi : i < (PG.stmB pr.body).length), vs = [v, .int (PG.stmB pr.body)[i].row] ∧ Rep K H (dpProg pr) v ∧ PG.depB pr.body ≤ 3 ∧ (PG.flats pr.body).length ≤ 1000 ∧ (PG.stmB pr.body).Pairwise (fun a b => a.row < b.row) ∧
  ∀ u G H', Same H H' → TrS K H' 3 (PG.stmB pr.body)[i] u G → G.Nodup → (∀ f ∈ G, H f = none) → Q u H'
end
/-- a comprehension over a list, whatever its parts come to -/
theorem comp_listI {K : PySem.W.Frag} {a D : Addr} {xs : List V} {te : TE} {Q : VK} {r : St} {H : Hp} (Pv : Nat → List V → Hp → Prop) (hS : SqL K H a xs) (hl : xs.length ≤ 16000000) (hD : H D = none) (h0 : Pv 0 [] (upd H D (.lst [])))
    (step : ∀ i x ys H2, xs[i]? = some x → Same H H2 → H2 D = some (.lst ys) → ys.length = i → Pv i ys H2 → ∀ R : VK, (∀ v H3, Same H2 H3 → Pv (i + 1) (ys ++ [v]) (upd H3 D (.lst (ys ++ [v]))) → R v H3) → te (some x :: r) H2 R)
    (q : ∀ ys H2, Same H H2 → H2 D = some (.lst ys) → Pv xs.length ys H2 → Q (.ref D) H2) : compW (Itl K a) D (gName 0) tYes te Q (none :: r) (upd H D (.lst [])) := by
  refine ⟨fun i m τ H2 => m = xs.length - i ∧ i ≤ xs.length ∧ (∃ x, τ = x :: r) ∧ Same H H2 ∧ ∃ ys, H2 D = some (.lst ys) ∧ ys.length = i ∧ Pv i ys H2, ⟨xs.length, by simp, Nat.zero_le _, ⟨none, rfl⟩, Same.new hD _, [], upd_same, rfl, h0⟩, ?_⟩
  rintro i m τ H2 ⟨rfl, hi, ⟨x, rfl⟩, s2, ys, h2, ly, p2⟩
  by_cases hlt : i < xs.length
  · refine .inr ⟨⟨xs, xs[i], s2.seq hS, by simp [hlt]⟩, fun τ' H' => (∃ x, τ' = x :: r) ∧ Same H H' ∧ ∃ ys, H' D = some (.lst ys) ∧ ys.length = i + 1 ∧ Pv (i + 1) ys H', fun τ' H' ⟨h1, h3, h4⟩ => ⟨xs.length - (i + 1), by omega, rfl, hlt, h1, h3, h4⟩, fun y H' hy => ?_⟩
    obtain ⟨rfl, hy⟩ := hy
    have ey := hy _ (s2.seq hS)
    simp only [gName, List.set, tYes]
    rw [if_pos trivial]
    refine step i y ys _ ey s2 h2 ly p2 _ fun v H3 s3 p3 => ⟨ys, s3 _ _ h2, ?_, ⟨_, rfl⟩, ?_, ys ++ [v], upd_same, by simp [ly], p3⟩
    · have : sizeLine = 2 ^ 24 := rfl
      omega
    · intro b o e
      rw [upd_ne (ne_of_none e hD)]
      exact s3 _ _ (s2 _ _ e)
  · have e : i = xs.length := by omega
    subst e
    exact .inl ⟨⟨xs, s2.seq hS, Nat.le_refl _⟩, q ys H2 s2 h2 p2⟩
end L2

namespace L2
open PySem
abbrev OkP : PG.Stm → Prop := PG.OkS (· ∈ PG.boxNames) (fun e => PG.TrOk e ∧ PG.trd e ≤ 2) (· ∈ PG.sgs)
abbrev OkPs : List PG.Stm → Prop := PG.OkB (· ∈ PG.boxNames) (fun e => PG.TrOk e ∧ PG.trd e ≤ 2) (· ∈ PG.sgs)
theorem str_box : ∀ b ∈ PG.boxNames, PyData.canLay0 (.str (S b)) = true := by decide +kernel
theorem str_sg : ∀ b ∈ PG.sgs, PyData.canLay0 (.str (S b)) = true := by decide +kernel
theorem str_op : ∀ b ∈ ([[43], [45], [42]] : List PM.W), PyData.canLay0 (.str (S b)) = true := by decide +kernel
theorem can_T : ∀ t : PM.Tr, PG.TrOk t → (dpT t).py.canLay0 = true ∧ (dpT t).py.depth ≤ PG.trd t + 1
  | .num n, h => by
    simp only [dpT, Dp.py, Dp.pys, PyData.canLay0, PyData.canLayAll0, PyData.depth, PyData.depthAll]
    exact ⟨by decide +kernel, by simp⟩
  | .box x, h => by
    rw [PG.TrOk] at h
    have := str_box x h
    simp only [PyData.canLay0] at this
    simp only [dpT, Dp.py, Dp.pys, PyData.canLay0, PyData.canLayAll0, PyData.depth, PyData.depthAll, this]
    exact ⟨by decide +kernel, by simp⟩
  | .bin o l r, h => by
    rw [PG.TrOk] at h
    have e := str_op o h.1
    simp only [PyData.canLay0] at e
    obtain ⟨l1, l2⟩ := can_T l h.2.1
    obtain ⟨r1, r2⟩ := can_T r h.2.2
    simp only [dpT, Dp.py, Dp.pys, PyData.canLay0, PyData.canLayAll0, PyData.depth, PyData.depthAll, e, l1, r1, PG.trd]
    exact ⟨rfl, by omega⟩
theorem word_can (w : PG.Wd) : PyData.canLay0 (.str (wdS w)) = true := by cases w <;> decide +kernel
mutual
theorem can_S : ∀ s : PG.Stm, OkP s → (dpS s).py.canLay0 = true ∧ (dpS s).py.depth ≤ 2 * PG.depS s + 4
  | .ask k b, h => by
    simp only [PG.OkS] at h
    have e := str_box b h
    simp only [PyData.canLay0] at e
    simp only [dpS, Dp.py, Dp.pys, PyData.canLay0, PyData.canLayAll0, PyData.depth, PyData.depthAll, e]
    exact ⟨by decide +kernel, by omega⟩
  | .put k b x, h => by
    simp only [PG.OkS] at h
    have e := str_box b h.1
    simp only [PyData.canLay0] at e
    obtain ⟨l1, l2⟩ := can_T x h.2.1
    have := h.2.2
    simp only [dpS, Dp.py, Dp.pys, PyData.canLay0, PyData.canLayAll0, PyData.depth, PyData.depthAll, e, l1]
    exact ⟨by decide +kernel, by omega⟩
  | .say k x, h => by
    simp only [PG.OkS] at h
    obtain ⟨l1, l2⟩ := can_T x h.1
    have := h.2
    simp only [dpS, Dp.py, Dp.pys, PyData.canLay0, PyData.canLayAll0, PyData.depth, PyData.depthAll, l1]
    exact ⟨by decide +kernel, by omega⟩
  | .must k sg l r, h => by
    simp only [PG.OkS] at h
    have e := str_sg sg h.1
    simp only [PyData.canLay0] at e
    obtain ⟨l1, l2⟩ := can_T l h.2.1.1
    obtain ⟨r1, r2⟩ := can_T r h.2.2.1
    have := h.2.1.2
    have := h.2.2.2
    simp only [dpS, Dp.py, Dp.pys, PyData.canLay0, PyData.canLayAll0, PyData.depth, PyData.depthAll, e, l1, r1]
    exact ⟨by decide +kernel, by omega⟩
  | .stop k, h => by
    simp only [dpS, Dp.py, Dp.pys, PyData.canLay0, PyData.canLayAll0, PyData.depth, PyData.depthAll]
    exact ⟨by decide +kernel, by omega⟩
  | .ifs k sg l r a b, h => by
    simp only [PG.OkS] at h
    have e := str_sg sg h.1
    simp only [PyData.canLay0] at e
    obtain ⟨l1, l2⟩ := can_T l h.2.1.1
    obtain ⟨r1, r2⟩ := can_T r h.2.2.1.1
    obtain ⟨a1, a2⟩ := can_Ss a h.2.2.2.1
    obtain ⟨b1, b2⟩ := can_Ss b h.2.2.2.2
    have := h.2.1.2
    have := h.2.2.1.2
    simp only [dpS, Dp.py, Dp.pys, PyData.canLay0, PyData.canLayAll0, PyData.depth, PyData.depthAll, e, l1, r1, a1, b1, PG.depS]
    exact ⟨by decide +kernel, by omega⟩
  | .whl k sg l r a, h => by
    simp only [PG.OkS] at h
    have e := str_sg sg h.1
    simp only [PyData.canLay0] at e
    obtain ⟨l1, l2⟩ := can_T l h.2.1.1
    obtain ⟨r1, r2⟩ := can_T r h.2.2.1.1
    obtain ⟨a1, a2⟩ := can_Ss a h.2.2.2
    have := h.2.1.2
    have := h.2.2.1.2
    simp only [dpS, Dp.py, Dp.pys, PyData.canLay0, PyData.canLayAll0, PyData.depth, PyData.depthAll, e, l1, r1, a1, PG.depS]
    exact ⟨by decide +kernel, by omega⟩
theorem can_Ss : ∀ b : List PG.Stm, OkPs b → PyData.canLayAll0 (Dp.pys (dpSs b)) = true ∧ PyData.depthAll (Dp.pys (dpSs b)) ≤ 2 * PG.depB b + 4
  | [], h => by simp [dpSs, Dp.pys, PyData.canLayAll0, PyData.depthAll]
  | s :: r, h => by
    simp only [PG.OkB] at h
    obtain ⟨a1, a2⟩ := can_S s h.1
    obtain ⟨b1, b2⟩ := can_Ss r h.2
    simp only [dpSs, Dp.pys, PyData.canLayAll0, PyData.depthAll, a1, b1, PG.depB]
    exact ⟨rfl, by omega⟩
end
theorem stm_shaped {s : PG.Stm} (h : OkP s) (d : PG.depS s ≤ 3) : SeqAt.shaped (dpS s).py = true := by
  obtain ⟨h1, h2⟩ := can_S s h
  unfold SeqAt.shaped
  rw [h1, Bool.true_and, decide_eq_true_iff]
  omega
theorem int_can : ∀ l : List Int, PyData.canLayAll0 (Dp.pys (l.map Dp.int)) = true ∧ PyData.depthAll (Dp.pys (l.map Dp.int)) = 0
  | [] => by simp [Dp.pys, PyData.canLayAll0, PyData.depthAll]
  | i :: r => by
    obtain ⟨h1, h2⟩ := int_can r
    simp [Dp.pys, Dp.py, PyData.canLayAll0, PyData.depthAll, PyData.canLay0, PyData.depth, h1, h2]
theorem flow_can : ∀ l : List PG.FlowRow, PyData.canLayAll0 (Dp.pys (l.map dpFlow)) = true ∧ PyData.depthAll (Dp.pys (l.map dpFlow)) ≤ 2
  | [] => by simp [Dp.pys, PyData.canLayAll0, PyData.depthAll]
  | r :: l => by
    obtain ⟨h1, h2⟩ := flow_can l
    obtain ⟨k, w, ws⟩ := r
    obtain ⟨i1, i2⟩ := int_can ws
    have e := word_can w
    simp only [PyData.canLay0] at e
    simp only [List.map_cons, dpFlow, Dp.pys, Dp.py, PyData.canLayAll0, PyData.depthAll, PyData.canLay0, PyData.depth, i1, i2, e, h1]
    exact ⟨rfl, by omega⟩
theorem flow_shaped (l : List PG.FlowRow) : SeqAt.shaped (Dp.lst (l.map dpFlow)).py = true := by
  obtain ⟨h1, h2⟩ := flow_can l
  unfold SeqAt.shaped
  rw [Dp.py, PyData.canLay0, h1, Bool.true_and, decide_eq_true_iff, PyData.depth]
  omega
theorem deep_flow (l : List PG.FlowRow) : (Dp.lst (l.map dpFlow)).deep ≤ 60 := by
  have ki : ∀ l : List Int, Dp.deeps (l.map Dp.int) = 0 := fun l => by
    induction l with
    | nil => simp [Dp.deeps]
    | cons i r ih => simp [Dp.deeps, Dp.deep, ih]
  have key : ∀ l : List PG.FlowRow, Dp.deeps (l.map dpFlow) ≤ 2 := fun l => by
    induction l with
    | nil => simp [Dp.deeps]
    | cons g r ih =>
      rw [List.map_cons, Dp.deeps]
      have : (dpFlow g).deep ≤ 2 := by simp [dpFlow, Dp.deep, Dp.deeps, ki]
      omega
  have := key l
  rw [Dp.deep]
  omega
section
variable (K : PySem.W.Frag)
def spWhole : Sp := fun vs H Q _ => ∃ (l : Addr) (us : List V) (fl : List PG.FlowRow), vs = [.ref l] ∧ H l = some (.lst us) ∧ Reps K H (fl.map dpFlow) us ∧ (∀ r ∈ fl, r.2.2.length ≤ 1000) ∧ ∀ H', Same H H' → Q (.bl true) H'
end
theorem call_isTK {X : Cx} {K : PySem.W.Frag} (e : X.K = K) : CallR X (.builtin "isinstance") (fun xs H Q => ∃ x T t b, xs = [x, .ty T] ∧ TyOf K H x t ∧ PySem.W.kitOne K t (.type T) = some b ∧ Q (.bl b) H) := by
  subst e
  exact call_isT
theorem flow_row {K : PySem.W.Frag} {H : Hp} {fl : List PG.FlowRow} {fv : List V} (g2 : Reps K H (fl.map dpFlow) fv) {i : Nat} {y : V} (hi : fv[i]? = some y) (li : i < fl.length) :
    ∃ a p, y = .ref a ∧ SqT K H a [.int fl[i].1, .str (wdS fl[i].2.1), .ref p] ∧ SqT K H p (fl[i].2.2.map V.int) := by
  obtain ⟨v', hv', rv⟩ := g2.get (i := i) (d := dpFlow fl[i]) (by rw [List.getElem?_map, List.getElem?_eq_getElem li]; rfl)
  rw [hi] at hv'
  cases hv'
  unfold dpFlow at rv
  rw [Rep.tup_iff] at rv
  obtain ⟨a, xs, rfl, hx, rs⟩ := rv
  rw [Reps.cons_iff] at rs
  obtain ⟨v1, t1, rfl, r1, rs⟩ := rs
  rw [Reps.cons_iff] at rs
  obtain ⟨v2, t2, rfl, r2, rs⟩ := rs
  rw [Reps.cons_iff] at rs
  obtain ⟨v3, t3, rfl, r3, rs⟩ := rs
  rw [Reps.nil_iff] at rs
  rw [Rep.int_iff] at r1
  rw [Rep.str_iff] at r2
  obtain ⟨p, ys, rfl, hp, ry⟩ := Rep.tup_iff.mp r3
  subst r1 r2 rs
  have key : ∀ {l : List Int} {ys : List V}, Reps K H (l.map Dp.int) ys → ys = l.map V.int := by
    intro l
    induction l with
    | nil => intro ys h; rw [List.map_nil, Reps.nil_iff] at h; exact h
    | cons i r ih =>
      intro ys h
      rw [List.map_cons, Reps.cons_iff] at h
      obtain ⟨v, t, rfl, h1, h2⟩ := h
      rw [Rep.int_iff] at h1
      rw [h1, ih h2]
      rfl
  rw [key ry] at hp
  exact ⟨a, p, rfl, hx, hp⟩
end L2

section
set_option maxHeartbeats 4000000
namespace K13
open PySem L2
def top (i : Nat) : Stmt := PySem.Challenge.pw_everyrow_k13_flow_told.main.body.getD i (.Pass ⟨0, 0, 0, 0⟩)
abbrev s_flow : Stmt := top 2
abbrev s_statement_at : Stmt := top 3
abbrev s_flow_of_body : Stmt := top 4
abbrev s_first_row : Stmt := top 5
abbrev s_behind_body : Stmt := top 6
abbrev s_ways_of : Stmt := top 7
abbrev s_bodies_in : Stmt := top 8
abbrev s_statements_in : Stmt := top 9
abbrev s_copied_statement : Stmt := top 10
abbrev s_copied_body : Stmt := top 11
abbrev s_with_bodies : Stmt := top 12
abbrev s__law_next : Stmt := top 14
abbrev s__law_e : Stmt := top 15
abbrev s__law_boxes : Stmt := top 16
abbrev s__law_plain : Stmt := top 17
abbrev s__law_close : Stmt := top 18
abbrev s__law_number : Stmt := top 19
abbrev s__law_program : Stmt := top 20
abbrev s__law_ends : Stmt := top 21
abbrev s__law_to : Stmt := top 22
abbrev s__law_ways : Stmt := top 23
abbrev s__law_statements : Stmt := top 24
abbrev s__law_spoil : Stmt := top 25
abbrev s__law_whole : Stmt := top 26
abbrev s_law : Stmt := top 27
theorem sc_flow : FnScope ["program"] ["program"] (defScope s_flow) := ⟨rfl, rfl, rfl, by decide +kernel, rfl, by decide +kernel, by decide +kernel⟩
theorem sc_statement_at : FnScope ["program", "row", "statement"] ["program", "row"] (defScope s_statement_at) := ⟨rfl, rfl, rfl, by decide +kernel, rfl, by decide +kernel, by decide +kernel⟩
theorem sc_flow_of_body : FnScope ["body", "behind", "told", "place", "statement", "after", "inner"] ["body", "behind"] (defScope s_flow_of_body) := ⟨rfl, rfl, rfl, by decide +kernel, rfl, by decide +kernel, by decide +kernel⟩
theorem sc_first_row : FnScope ["body", "behind"] ["body", "behind"] (defScope s_first_row) := ⟨rfl, rfl, rfl, by decide +kernel, rfl, by decide +kernel, by decide +kernel⟩
theorem sc_behind_body : FnScope ["statement", "after"] ["statement", "after"] (defScope s_behind_body) := ⟨rfl, rfl, rfl, by decide +kernel, rfl, by decide +kernel, by decide +kernel⟩
theorem sc_ways_of : FnScope ["statement", "after", "word"] ["statement", "after"] (defScope s_ways_of) := ⟨rfl, rfl, rfl, by decide +kernel, rfl, by decide +kernel, by decide +kernel⟩
theorem sc_bodies_in : FnScope ["statement"] ["statement"] (defScope s_bodies_in) := ⟨rfl, rfl, rfl, by decide +kernel, rfl, by decide +kernel, by decide +kernel⟩
theorem sc_statements_in : FnScope ["body", "found", "statement", "inner"] ["body"] (defScope s_statements_in) := ⟨rfl, rfl, rfl, by decide +kernel, rfl, by decide +kernel, by decide +kernel⟩
theorem sc_copied_statement : FnScope ["statement"] ["statement"] (defScope s_copied_statement) := ⟨rfl, rfl, rfl, by decide +kernel, rfl, by decide +kernel, by decide +kernel⟩
theorem sc_copied_body : FnScope ["body"] ["body"] (defScope s_copied_body) := ⟨rfl, rfl, rfl, by decide +kernel, rfl, by decide +kernel, by decide +kernel⟩
theorem sc_with_bodies : FnScope ["statement", "bodies"] ["statement", "bodies"] (defScope s_with_bodies) := ⟨rfl, rfl, rfl, by decide +kernel, rfl, by decide +kernel, by decide +kernel⟩
theorem sc__law_next : FnScope ["deck", "at", "many", "cell", "j", "number"] ["deck"] (defScope s__law_next) := ⟨rfl, rfl, rfl, by decide +kernel, rfl, by decide +kernel, by decide +kernel⟩
theorem sc__law_e : FnScope ["deck", "boxes", "deep", "kind", "one"] ["deck", "boxes", "deep"] (defScope s__law_e) := ⟨rfl, rfl, rfl, by decide +kernel, rfl, by decide +kernel, by decide +kernel⟩
theorem sc__law_boxes : FnScope ["deck", "found", "spin", "k", "size"] ["deck"] (defScope s__law_boxes) := ⟨rfl, rfl, rfl, by decide +kernel, rfl, by decide +kernel, by decide +kernel⟩
theorem sc__law_plain : FnScope ["deck", "boxes", "k", "kind", "sign"] ["deck", "boxes", "k"] (defScope s__law_plain) := ⟨rfl, rfl, rfl, by decide +kernel, rfl, by decide +kernel, by decide +kernel⟩
theorem sc__law_close : FnScope ["pile", "kind", "body", "head", "first", "told"] ["pile"] (defScope s__law_close) := ⟨rfl, rfl, rfl, by decide +kernel, rfl, by decide +kernel, by decide +kernel⟩
theorem sc__law_number : FnScope ["boxes", "rows", "mode"] ["boxes", "rows", "mode"] (defScope s__law_number) := ⟨rfl, rfl, rfl, by decide +kernel, rfl, by decide +kernel, by decide +kernel⟩
theorem sc__law_program : FnScope ["deck", "many", "boxes", "pile", "rows", "mode", "turn", "k", "way", "kind", "body", "head", "first", "word", "condition"] ["deck", "many"] (defScope s__law_program) := ⟨rfl, rfl, rfl, by decide +kernel, rfl, by decide +kernel, by decide +kernel⟩
theorem sc__law_ends : FnScope ["rows", "matches", "opened", "at", "word"] ["rows"] (defScope s__law_ends) := ⟨rfl, rfl, rfl, by decide +kernel, rfl, by decide +kernel, by decide +kernel⟩
theorem sc__law_to : FnScope ["rows", "matches", "at", "word"] ["rows", "matches", "at"] (defScope s__law_to) := ⟨rfl, rfl, rfl, by decide +kernel, rfl, by decide +kernel, by decide +kernel⟩
theorem sc__law_ways : FnScope ["rows", "matches", "found", "at", "row", "word", "near", "other"] ["rows"] (defScope s__law_ways) := ⟨rfl, rfl, rfl, by decide +kernel, rfl, by decide +kernel, by decide +kernel⟩
theorem sc__law_statements : FnScope ["body", "found", "one", "part"] ["body"] (defScope s__law_statements) := ⟨rfl, rfl, rfl, by decide +kernel, rfl, by decide +kernel, by decide +kernel⟩
theorem sc__law_spoil : FnScope ["body", "one", "part"] ["body"] (defScope s__law_spoil) := ⟨rfl, rfl, rfl, by decide +kernel, rfl, by decide +kernel, by decide +kernel⟩
theorem sc__law_whole : FnScope ["told", "row", "word", "ways"] ["told"] (defScope s__law_whole) := ⟨rfl, rfl, rfl, by decide +kernel, rfl, by decide +kernel, by decide +kernel⟩
theorem sc_law : FnScope ["script", "deck", "many", "program", "rows", "due", "found", "statements", "row", "word", "ways", "one", "part"] ["script"] (defScope s_law) := ⟨rfl, rfl, rfl, by decide +kernel, rfl, by decide +kernel, by decide +kernel⟩

set_option genInjectivity false in
structure Ad where
  f_flow : Addr
  fd_flow : FuncData
  f_statement_at : Addr
  fd_statement_at : FuncData
  f_flow_of_body : Addr
  fd_flow_of_body : FuncData
  f_first_row : Addr
  fd_first_row : FuncData
  f_behind_body : Addr
  fd_behind_body : FuncData
  f_ways_of : Addr
  fd_ways_of : FuncData
  f_bodies_in : Addr
  fd_bodies_in : FuncData
  f_statements_in : Addr
  fd_statements_in : FuncData
  f_copied_statement : Addr
  fd_copied_statement : FuncData
  f_copied_body : Addr
  fd_copied_body : FuncData
  f_with_bodies : Addr
  fd_with_bodies : FuncData
  f__law_next : Addr
  fd__law_next : FuncData
  f__law_e : Addr
  fd__law_e : FuncData
  f__law_boxes : Addr
  fd__law_boxes : FuncData
  f__law_plain : Addr
  fd__law_plain : FuncData
  f__law_close : Addr
  fd__law_close : FuncData
  f__law_number : Addr
  fd__law_number : FuncData
  f__law_program : Addr
  fd__law_program : FuncData
  f__law_ends : Addr
  fd__law_ends : FuncData
  f__law_to : Addr
  fd__law_to : FuncData
  f__law_ways : Addr
  fd__law_ways : FuncData
  f__law_statements : Addr
  fd__law_statements : FuncData
  f__law_spoil : Addr
  fd__law_spoil : FuncData
  f__law_whole : Addr
  fd__law_whole : FuncData
  f_law : Addr
  fd_law : FuncData
set_option genInjectivity false in
structure Tx (K : PySem.W.Frag) (mg : Str → Option Value) (t : Ad) : Prop where
  D_flow : DefAt K mg "flow" s_flow ["program"] t.f_flow t.fd_flow
  D_statement_at : DefAt K mg "statement_at" s_statement_at ["program", "row"] t.f_statement_at t.fd_statement_at
  D_flow_of_body : DefAt K mg "flow_of_body" s_flow_of_body ["body", "behind"] t.f_flow_of_body t.fd_flow_of_body
  D_first_row : DefAt K mg "first_row" s_first_row ["body", "behind"] t.f_first_row t.fd_first_row
  D_behind_body : DefAt K mg "behind_body" s_behind_body ["statement", "after"] t.f_behind_body t.fd_behind_body
  D_ways_of : DefAt K mg "ways_of" s_ways_of ["statement", "after"] t.f_ways_of t.fd_ways_of
  D_bodies_in : DefAt K mg "bodies_in" s_bodies_in ["statement"] t.f_bodies_in t.fd_bodies_in
  D_statements_in : DefAt K mg "statements_in" s_statements_in ["body"] t.f_statements_in t.fd_statements_in
  D_copied_statement : DefAt K mg "copied_statement" s_copied_statement ["statement"] t.f_copied_statement t.fd_copied_statement
  D_copied_body : DefAt K mg "copied_body" s_copied_body ["body"] t.f_copied_body t.fd_copied_body
  D_with_bodies : DefAt K mg "with_bodies" s_with_bodies ["statement", "bodies"] t.f_with_bodies t.fd_with_bodies
  D__law_next : DefAt K mg "_law_next" s__law_next ["deck"] t.f__law_next t.fd__law_next
  D__law_e : DefAt K mg "_law_e" s__law_e ["deck", "boxes", "deep"] t.f__law_e t.fd__law_e
  D__law_boxes : DefAt K mg "_law_boxes" s__law_boxes ["deck"] t.f__law_boxes t.fd__law_boxes
  D__law_plain : DefAt K mg "_law_plain" s__law_plain ["deck", "boxes", "k"] t.f__law_plain t.fd__law_plain
  D__law_close : DefAt K mg "_law_close" s__law_close ["pile"] t.f__law_close t.fd__law_close
  D__law_number : DefAt K mg "_law_number" s__law_number ["boxes", "rows", "mode"] t.f__law_number t.fd__law_number
  D__law_program : DefAt K mg "_law_program" s__law_program ["deck", "many"] t.f__law_program t.fd__law_program
  D__law_ends : DefAt K mg "_law_ends" s__law_ends ["rows"] t.f__law_ends t.fd__law_ends
  D__law_to : DefAt K mg "_law_to" s__law_to ["rows", "matches", "at"] t.f__law_to t.fd__law_to
  D__law_ways : DefAt K mg "_law_ways" s__law_ways ["rows"] t.f__law_ways t.fd__law_ways
  D__law_statements : DefAt K mg "_law_statements" s__law_statements ["body"] t.f__law_statements t.fd__law_statements
  D__law_spoil : DefAt K mg "_law_spoil" s__law_spoil ["body"] t.f__law_spoil t.fd__law_spoil
  D__law_whole : DefAt K mg "_law_whole" s__law_whole ["told"] t.f__law_whole t.fd__law_whole
  D_law : DefAt K mg "law" s_law ["script"] t.f_law t.fd_law
  mg_END : ∃ u, mg "END" = some u ∧ RelV (.int 0) u
  z_len : mg "len" = none
  z_range : mg "range" = none
  z_bool : mg "bool" = none
  z_list : mg "list" = none
  z_tuple : mg "tuple" = none
  z_max : mg "max" = none
  z_min : mg "min" = none
  z_isinstance : mg "isinstance" = none
  z_enumerate : mg "enumerate" = none
end K13

end

section
set_option maxHeartbeats 4000000
namespace K13
open PySem L2
local macro_rules | `(tactic| walk_at "rd") => `(tactic| simp only [tChain, tMake, tAndV, tOrV, tNotV, tIf, tAnd, tDrop, tAug, tBM, tBM0, tSl, tPart, tNoPart, tMeth, tFld, sFld, sFldAug, tTest, tUn, rU, iStr, iList, iRng1, iRng2, tRetN, tBreak, tCont, ex_int, ex_ref, gTup, gCons, gNil, gSub, rSame, tSeq, tIfS, tTest_i, tOp_i, tVar_0, tVar_1, tVar_2, tVar_3, tVar_4, tVar_5, tVar_6, tVar_7, tVar_8, tVar_9, tVar_10, tVar_11, tVar_12, tVar_13, tVar_14, gLst, tC_i, tRet, tNext, tAsg, gName, rI0_i, rI_i, rEq_i, rNe_i, ex_bl, ite_dec, ite_ndec, int_eq, str_eq, List.set, tCall_i, tCons_i, tNil_i, tVals_i, tDGet_i, tDNewK_i, sDPut_i, tCB_i, tB_i, tNot_i, tTup_i, tLst_i, tOr, List.append_nil, List.nil_append, List.cons_append, scal_ii, scal_ss, true_and, and_true, List.length_cons, List.length_nil, le_line, CDiv_i, cxOf_K, cmpCx_K, Int.reduceLT, Int.reduceLE, Nat.reduceLeDiff, Nat.reduceAdd, and_self])

section
variable {P : Program} {w : World} {K : PySem.W.Frag} {mg : Str → Option Value} {base : Heap} {t : Ad}
theorem ok_next (T : Tx K mg t) : FnOk P w K mg base CX0 1 t.f__law_next t.fd__law_next ["deck"] (spNext K) := by
  refine T.D__law_next.F.okS sc__law_next (fun vs H Q E h => ?_) (fun cdv A outer s H vs Q E hr h => ?_)
  · obtain ⟨_, _, _, _, rfl, _⟩ := h
    rfl
  obtain ⟨D, S, sc, p, rfl, dk, hp, q⟩ := h
  have nd := sc__law_next.nd
  refine ⟨_, [some (V.ref D), none, none, none, none, none], (pss_cons (ps_set (i := 1) nd rfl (Or.inl rfl) (pe_ix ix_list (pv 0) pe_int pl_const))
 (pss_cons (ps_asg (pe_op op_add (pv 1) pe_int) (pg_sub (pv 0) pe_int set_list))
 (pss_cons (ps_set (i := 2) nd rfl (Or.inl rfl) (pe_callB (call_max2 rfl) rfl T.z_max PyProof.Rows.Boot.«max» (pa_cons pe_int (pa_cons (pe_callB call_len_seq rfl T.z_len PyProof.Rows.Boot.«len» (pa_cons (pe_ix ix_list (pv 0) pe_int pl_const) pa_nil st_sub)) pa_nil st_call) st_const)))
 (pss_cons (ps_set (i := 3) nd rfl (Or.inl rfl) pe_int)
 (pss_cons (ps_if (pt_cmpR (op_ne_nil (hu_of hr)) (pe_ix ix_list (pv 0) pe_int pl_const) (pe_lst pa_nil) (nomark _))
 (pss_one (ps_set (i := 3) nd rfl (Or.inl rfl) (pe_ix ix_list (pe_ix ix_list (pv 0) pe_int pl_const) (pe_op op_mod (pv 1) (pv 2)) pl_bin)))
 pss_nil)
 (pss_cons (ps_if (pt_cmpR op_ge (pv 3) (pe_op op_pow pe_int pe_int) (nomark _))
 (pss_cons (ps_for PassesOwn.never rfl (pi_range1 rfl T.z_range (pa_cons (pe_callB (call_min2 rfl) rfl T.z_min PyProof.Rows.Boot.«min» (pa_cons pe_int (pa_cons (pe_op op_fdiv (pv 1) (pv 2)) pa_nil st_bin) st_const)) pa_nil st_call)) (pg_name (i := 4) nd rfl (Or.inl rfl))
 (pss_one (ps_set (i := 3) nd rfl (Or.inl rfl) (pe_op op_fdiv (pv 3) pe_int))))
 (pss_one (ps_ret (pe_op op_mod (pv 3) pe_int))))
 pss_nil)
 (pss_cons (ps_set (i := 5) nd rfl (Or.inl rfl) (pe_op op_mod (pe_op op_add (pe_op op_add (pe_op op_mod (pv 3) pe_int) (pe_op op_mul (pe_op op_mul pe_int (pe_op op_add (pv 1) pe_int)) (pe_op op_add (pv 1) pe_int))) pe_int) pe_int))
 (pss_cons (ps_set (i := 5) nd rfl (Or.inl rfl) (pe_op op_mod (pe_op op_mul (pv 5) (pv 5)) pe_int))
 (pss_cons (ps_set (i := 5) nd rfl (Or.inl rfl) (pe_op op_mod (pe_op op_add (pe_op op_add (pe_op op_mul (pv 5) pe_int) (pe_op op_mul pe_int (pv 1))) pe_int) pe_int))
 (pss_one (ps_ret (pe_op op_fdiv (pe_op op_mod (pe_op op_mul (pv 5) (pv 5)) pe_int) pe_int)))))))))))), rfl, ?_⟩
  have line : sizeLine = 2 ^ 24 := rfl
  refine seq_gen fun U1 hU1 => ?_
  walk_at "rd"
  refine rIxL_i (.of dk.deck) (atI_nat (j := 1) rfl) ((hU1 _ _).mpr (seq_gen fun U2 hU2 => ?_))
  clear hU1
  walk_at "rd"
  refine ⟨D, _, 1, 1, rfl, rfl, dk.deck, rfl, ?_⟩
  have u1 : Upto D H (upd H D (.lst [.ref S, .int (p + 1)])) := (Upto.refl D H).put _
  have d1 : (upd H D (.lst [.ref S, .int (p + 1)])) D = some (.lst [.ref S, .int (p + 1)]) := upd_same
  show U2 _ (upd H D (.lst [.ref S, .int (p + 1)]))
  generalize upd H D (.lst [.ref S, .int (p + 1)]) = H1 at *
  have sc1 := u1 _ _ dk.ne dk.script
  refine (hU2 _ _).mpr (seq_gen fun U3 hU3 => ?_)
  clear hU2
  walk_at "rd"
  refine rIxL_i (.of d1) (atI_nat (j := 0) rfl) ⟨S, _, rfl, .inl (.of sc1), 1, _, rfl, ?_⟩
  rw [List.length_map]
  have em : (if (sc.length : Int) > 1 then (sc.length : Int) else 1) = ((max 1 sc.length : Nat) : Int) := by split <;> omega
  rw [em]
  have m1 : 1 ≤ max 1 sc.length := by omega
  refine (hU3 _ _).mpr (seq_gen fun U4 hU4 => ?_)
  clear hU3
  walk_at "rd"
  refine (hU4 _ _).mpr (seq_gen fun U5 hU5 => ?_)
  clear hU4
  have rest : ∀ H2, Same H1 H2 → U5 [some (V.ref D), some (V.int p), some (V.int ((max 1 sc.length : Nat) : Int)), some (V.int (if sc = [] then 0 else sc.getD (p % max 1 sc.length) 0)), none, none] H2 := by
    intro H2 s2
    have fin : Q (V.int (PG.next sc p)) H2 := q H2 (u1.trans (.of s2)) ⟨s2 _ _ d1, s2 _ _ sc1, dk.ne, dk.len⟩
    unfold PG.next at fin
    simp only at fin
    have mle : max 1 sc.length ≤ 63 := by have := dk.len; omega
    generalize (if sc = [] then 0 else sc.getD (p % max 1 sc.length) 0) = cell at *
    generalize max 1 sc.length = m at *
    refine (hU5 _ _).mpr (seq_gen fun U6 hU6 => ?_)
    walk_at "rd"
    have e18 : (10 : Int) ^ Int.toNat 18 = 10 ^ 18 := rfl
    have p18 : CPow 10 18 := ⟨by decide, by decide, by decide⟩
    rw [e18]
    refine ⟨p18, ite2 (fun hc => ?_) (fun hc => ?_)⟩
    · rw [if_pos hc] at fin
      refine for_gen1 fun U hU => ?_
      walk_at "rd"
      have ed : (p : Int) / (m : Int) = ((p / m : Nat) : Int) := (Int.natCast_ediv p m).symm
      have e60 : (if (p : Int) / (m : Int) < 60 then (p : Int) / (m : Int) else 60) = ((min 60 (p / m) : Nat) : Int) := by
        rw [ed]
        split <;> omega
      have b60 : min 60 (p / m) ≤ 60 := Nat.min_le_left _ _
      refine ⟨⟨by omega, by omega⟩, _, _, rfl, _, rfl, ?_⟩
      rw [e60]
      generalize min 60 (p / m) = N at *
      refine ⟨by omega, by omega, hU _ _ ?_⟩
      rw [Int.toNat_natCast]
      refine for_range (lo := 0) (n := N) (fun i σ H3 => H3 = H2 ∧ ∃ (c : Int) (a : Option V), σ = [some (V.ref D), some (V.int p), some (V.int m), some (V.int c), a, none] ∧ PG.divs (N - i) c = PG.divs N cell) ⟨rfl, cell, none, rfl, rfl⟩ ?_ ?_
      · rintro i σ H3 hi ⟨rfl, c, a, rfl, e⟩
        rw [Int.zero_add]
        walk_at "rd"
        refine ⟨_, _, rfl, ?_⟩
        rw [← e, show N - i = (N - (i + 1)) + 1 by omega, PG.divs]
      · rintro σ H3 ⟨rfl, c, a, rfl, e⟩
        rw [Nat.sub_self, PG.divs] at e
        walk_at "rd"
        rw [e]
        exact fin
    · rw [if_neg hc] at fin
      refine (hU6 _ _).mpr ?_
      clear hU5 hU6
      walk_at "rd"
      have b1 := Int.emod_nonneg (cell % 2147483629 + 51437 * ((p : Int) + 1) * ((p : Int) + 3) + 1409) (show (2147483629 : Int) ≠ 0 by decide)
      have b2 := Int.emod_lt_of_pos (cell % 2147483629 + 51437 * ((p : Int) + 1) * ((p : Int) + 3) + 1409) (show (0 : Int) < 2147483629 by decide)
      refine ⟨mulL (by decide) (by decide), mulR (by omega) (by omega), ?_⟩
      generalize (cell % 2147483629 + 51437 * ((p : Int) + 1) * ((p : Int) + 3) + 1409) % 2147483629 = x at *
      refine ⟨mulL (by omega) (by omega), mulR (by decide) (by decide), mulL (by decide) (by decide), ?_⟩
      have c1 := Int.emod_nonneg (x * x % 2147483587 * 69621 + 401 * (p : Int) + 7) (show (2147483579 : Int) ≠ 0 by decide)
      have c2 := Int.emod_lt_of_pos (x * x % 2147483587 * 69621 + 401 * (p : Int) + 7) (show (0 : Int) < 2147483579 by decide)
      generalize (x * x % 2147483587 * 69621 + 401 * (p : Int) + 7) % 2147483579 = y at *
      exact ⟨mulL (by omega) (by omega), fin⟩
  walk_at "rd"
  refine rIxL_i (.of d1) (atI_nat (j := 0) rfl) fun p1 hp1 => ?_
  have s2 := Same.new hp1 (.lst [])
  have d2 := s2 _ _ d1
  refine ⟨S, p1, _, rfl, rfl, .of (s2 _ _ sc1), .of upd_same, ?_⟩
  have sc2 := s2 _ _ sc1
  generalize upd H1 p1 (.lst []) = H2 at *
  have rs := rest H2 s2
  cases sc with
  | nil => exact rs
  | cons c r =>
    rw [if_neg (by simp)] at rs
    refine (if_pos rfl).mpr (rIxL_i (.of d2) (atI_nat (j := 0) rfl) ⟨by omega, ?_⟩)
    have lt : p % max 1 (c :: r).length < (c :: r).length := by
      have : max 1 (c :: r).length = (c :: r).length := by simp
      rw [this]
      exact Nat.mod_lt _ (by simp)
    refine rIxL_i (.of sc2) (atI_map (f := V.int) (xs := c :: r) 0 (by omega) (by omega)) ?_
    have e : ((p : Int) % ((max 1 (c :: r).length : Nat) : Int)).toNat = p % max 1 (c :: r).length := by omega
    rw [e]
    exact rs
theorem ok_e (T : Tx K mg t) {n : Nat} (G__law_e : FnOk P w K mg base CX0 (n + 1) t.f__law_e t.fd__law_e ["deck", "boxes", "deep"] (spGenE K n)) :
    FnOk P w K mg base CX0 (n + 2) t.f__law_e t.fd__law_e ["deck", "boxes", "deep"] (spGenE K (n + 1)) := by
  have G__law_next : FnOk P w K mg base CX0 1 t.f__law_next t.fd__law_next ["deck"] (spNext K) := ok_next T
  refine T.D__law_e.F.okS sc__law_e (fun vs H Q E h => ?_) (fun cdv A outer s H vs Q E hr h => ?_)
  · obtain ⟨_, _, _, _, _, _, _, rfl, _⟩ := h
    rfl
  obtain ⟨D, S, B, sc, p, d, bs, rfl, hd, dk, hp, hb, q⟩ := h
  have nd := sc__law_e.nd
  refine ⟨_, [some (V.ref D), some (V.ref B), some (V.int d), none, none], (pss_cons (ps_set (i := 3) nd rfl (Or.inl rfl) (pe_op op_mod (pe_call G__law_next (hr.mono (by omega)) rfl T.D__law_next.m T.D__law_next.F.kp T.D__law_next.b .nil pass0 (pa_cons (pv 0) pa_nil st_name)) pe_int))
 (pss_cons (ps_if (PW.pt (pw_and (pt_cmpR op_gt (pv 2) pe_int (nomark _)) (pw_and1 (pt_cmpR op_lt (pv 3) pe_int (nomark _)))))
 (pss_cons (ps_set (i := 4) nd rfl (Or.inl rfl) (pe_call G__law_e (hr.mono (by omega)) rfl T.D__law_e.m T.D__law_e.F.kp T.D__law_e.b .nil pass0 (pa_cons (pv 0) (pa_cons (pv 1) (pa_cons (pe_op op_sub (pv 2) pe_int) pa_nil st_bin) st_name) st_name)))
 (pss_one (ps_ret (pe_tup (pa_cons (pe_ix ix_str pe_str (pv 3) pl_name) (pa_cons (pv 4) (pa_cons (pe_call G__law_e (hr.mono (by omega)) rfl T.D__law_e.m T.D__law_e.F.kp T.D__law_e.b .nil pass0 (pa_cons (pv 0) (pa_cons (pv 1) (pa_cons (pe_op op_sub (pv 2) pe_int) pa_nil st_bin) st_name) st_name)) pa_nil st_call) st_name) st_sub)))))
 pss_nil)
 (pss_cons (ps_if (PW.pt (pw_and (pt_cmpR (op_ne_nil (hu_of hr)) (pv 1) (pe_lst pa_nil) (nomark _)) (pw_and1 (pt_cmpR op_lt (pv 3) pe_int (nomark _)))))
 (pss_one (ps_ret (pe_tup (pa_cons pe_str (pa_cons (pe_ix ix_tup (pe_ix ix_list (pv 1) (pe_op op_mod (pe_call G__law_next (hr.mono (by omega)) rfl T.D__law_next.m T.D__law_next.F.kp T.D__law_next.b .nil pass0 (pa_cons (pv 0) pa_nil st_name)) (pe_callB call_len_seq rfl T.z_len PyProof.Rows.Boot.«len» (pa_cons (pv 1) pa_nil st_name))) pl_bin) pe_int pl_const) pa_nil st_sub) st_const))))
 pss_nil)
 (pss_one (ps_ret (pe_tup (pa_cons pe_str (pa_cons (pe_op op_mod (pe_call G__law_next (hr.mono (by omega)) rfl T.D__law_next.m T.D__law_next.F.kp T.D__law_next.b .nil pass0 (pa_cons (pv 0) pa_nil st_name)) (pe_ix ix_list (pe_lst (pa_consts (vs := [.int 3, .int 12, .int 1000]) (by kernel_rfl))) (pe_op op_mod (pe_call G__law_next (hr.mono (by omega)) rfl T.D__law_next.m T.D__law_next.F.kp T.D__law_next.b .nil pass0 (pa_cons (pv 0) pa_nil st_name)) pe_int) pl_bin)) pa_nil st_bin) st_const))))))), rfl, ?_⟩
  have line : sizeLine = 2 ^ 24 := rfl
  have pw : 1 ≤ 2 ^ d := Nat.one_le_two_pow
  refine seq_gen fun U1 hU1 => ?_
  walk_at "rd"
  refine ⟨D, S, sc, p, rfl, dk, by omega, fun H1 u1 dk1 => ?_⟩
  walk_at "rd"
  refine (hU1 _ _).mpr (seq_gen fun U2 hU2 => ?_)
  clear hU1
  have hDn : H D ≠ none := by rw [dk.deck]; simp
  have hD1 : H1 D ≠ none := by rw [dk1.deck]; simp
  have hb1 := hb.up u1
  obtain ⟨n0, n1⟩ := PG.next_b sc p
  have dom1 := u1.dom hD1
  walk_at "rd"
  have leaf : (d = 0 ∨ ¬ PG.next sc p % 7 < 3) → U2 [some (V.ref D), some (V.ref B), some (V.int d), some (V.int (PG.next sc p % 7)), none] H1 := by
    intro hl
    have eg : PG.genE sc bs d p = if bs ≠ [] ∧ PG.next sc p % 7 < 5 then (.box (PG.pick ⟨[], 0, 0⟩ bs (PG.next sc (p + 1) % bs.length)).name, p + 2) else (.num (PG.next sc (p + 1) % PG.pick 1 [3, 12, 1000] (PG.next sc (p + 2) % 3)), p + 3) := by
      cases d with
      | zero => rfl
      | succ d =>
        unfold PG.genE
        simp only
        rw [if_neg (hl.resolve_left (by omega))]
    refine (hU2 _ _).mpr (seq_gen fun U3 hU3 => ?_)
    have num : ¬ (bs ≠ [] ∧ PG.next sc p % 7 < 5) → ∀ H2, Same H1 H2 → U3 [some (V.ref D), some (V.ref B), some (V.int d), some (V.int (PG.next sc p % 7)), none] H2 := by
      intro hn H2 s2
      rw [if_neg hn] at eg
      rw [eg] at q
      refine (hU3 _ _).mpr ?_
      walk_at "rd"
      refine ⟨D, S, sc, p + 1, rfl, dk1.same s2, by omega, fun H3 u3 dk3 p4 hp4 => ?_⟩
      have dk4 := dk3.same (Same.new hp4 (.lst [.int 3, .int 12, .int 1000]))
      have h4 : (upd H3 p4 (.lst [.int 3, .int 12, .int 1000])) p4 = some (.lst [.int 3, .int 12, .int 1000]) := upd_same
      have u4 := u3.new hp4 (.lst [.int 3, .int 12, .int 1000])
      have n4 : p4 ≠ D := (ne_of_none dk3.deck hp4).symm
      generalize upd H3 p4 (.lst [.int 3, .int 12, .int 1000]) = H4 at *
      refine ⟨D, S, sc, p + 2, rfl, dk4, by omega, fun H5 u5 dk5 => ?_⟩
      obtain ⟨m0, m1⟩ := PG.next_b sc (p + 2)
      have h5 := u5 _ _ n4 h4
      have pk : ∀ i : Int, 0 ≤ i → i < 3 → atI [V.int 3, V.int 12, V.int 1000] i = some (V.int (PG.pick 1 [3, 12, 1000] i)) ∧ (0 : Int) < PG.pick 1 [3, 12, 1000] i := fun i h0 h3 => by
        have z3 : i = 0 ∨ i = 1 ∨ i = 2 := by omega
        rcases z3 with rfl | rfl | rfl
        · exact ⟨atI_nat (j := 0) rfl, by decide⟩
        · exact ⟨atI_nat (j := 1) rfl, by decide⟩
        · exact ⟨atI_nat (j := 2) rfl, by decide⟩
      obtain ⟨k1, k2⟩ := pk (PG.next sc (p + 2) % 3) (by omega) (by omega)
      walk_at "rd"
      refine rIxL_i (.of h5) k1 ?_
      walk_at "rd"
      refine ⟨k2, fun p6 hp6 => ?_⟩
      have u2 : Upto D H1 H2 := .of s2
      refine q _ _ (((u1.trans (u2.trans u4)).trans u5).new hp6 _) (dk5.same (Same.new hp6 _)) ?_
      refine own_tup hp6 ?_ (.cons .str (.cons .int .nil))
      exact fun b hbn => (u5.dom (by rw [dk5.deck]; simp)) b ((u4.dom (by rw [dk4.deck]; simp)) b ((u2.dom (by rw [s2 _ _ dk1.deck]; simp)) b (dom1 b hbn)))
    walk_at "rd"
    intro p2 hp2
    have s2 := Same.new hp2 (.lst [])
    have hb2 := hb1.same s2
    have h2 : (upd H1 p2 (.lst [])) p2 = some (.lst []) := upd_same
    have dk2 := dk1.same s2
    generalize upd H1 p2 (.lst []) = H2 at *
    obtain ⟨xs, hx, lx, _⟩ := hb2.list
    refine ⟨B, p2, xs, rfl, rfl, hx, .of h2, ?_⟩
    have em : xs.isEmpty = true ↔ bs = [] := by
      rw [List.isEmpty_iff, ← List.length_eq_zero_iff, lx, List.length_eq_zero_iff]
    by_cases hbs : bs = []
    · have e1 := em.mpr hbs
      rw [e1, if_neg (by decide), if_neg Bool.false_ne_true]
      exact num (fun z => z.1 hbs) H2 s2
    · have e1 : xs.isEmpty = false := Bool.eq_false_iff.mpr fun z => hbs (em.mp z)
      rw [e1, if_pos (by decide)]
      refine ite2 (fun k5 => ?_) (fun k5 => num (fun z => k5 z.2) H2 s2)
      rw [if_pos ⟨hbs, k5⟩] at eg
      rw [eg] at q
      refine ⟨D, S, sc, p + 1, rfl, dk2, by omega, fun H3 u3 dk3 => ?_⟩
      have hb3 := hb2.up u3
      obtain ⟨ys, hy, ly, _⟩ := hb3.list
      refine ⟨B, ys, rfl, .inl hy, ?_⟩
      rw [ly]
      have pos : 0 < bs.length := List.length_pos_iff.mpr hbs
      walk_at "rd"
      refine ⟨by omega, hb3.pick (Int.emod_nonneg _ (by omega)) (Int.emod_lt_of_pos _ (by omega)) fun p4 hp4 => ?_⟩
      have u2 : Upto D H1 H2 := .of s2
      refine q _ _ (((u1.trans u2).trans u3).new hp4 _) (dk3.same (Same.new hp4 _)) (own_tup hp4 ?_ (.cons .str (.cons .str .nil)))
      exact fun b hbn => (u3.dom (by rw [dk3.deck]; simp)) b ((u2.dom (by rw [dk2.deck]; simp)) b (dom1 b hbn))
  refine ite2 (fun d0 => ite2 (fun k3 => ?_) (fun k3 => leaf (.inr k3))) (fun d0 => (if_neg Bool.false_ne_true).mpr (leaf (.inl (by omega))))
  obtain ⟨d, rfl⟩ : ∃ e, d = e + 1 := ⟨d - 1, by omega⟩
  have e1 : ((d + 1 : Nat) : Int) - 1 = (d : Int) := by omega
  rw [e1]
  have e2 : (2 : Nat) ^ (d + 1) = 2 * 2 ^ d := by rw [Nat.pow_succ]; omega
  have one : 1 ≤ 2 ^ d := Nat.one_le_two_pow
  rw [e2] at hp
  have eg : PG.genE sc bs (d + 1) p = (.bin (PG.pick [] [[43], [45], [42]] (PG.next sc p % 7)) (PG.genE sc bs d (p + 1)).1 (PG.genE sc bs d (PG.genE sc bs d (p + 1)).2).1, (PG.genE sc bs d (PG.genE sc bs d (p + 1)).2).2) := by
    conv => lhs; unfold PG.genE
    simp only
    rw [if_pos k3]
  rw [eg] at q
  obtain ⟨g1, g2⟩ := PG.genE_p sc bs d (p + 1)
  refine ⟨D, S, B, sc, p + 1, d, bs, rfl, by omega, dk1, by omega, hb1, fun v2 H2 u2 dk2 o2 => ?_⟩
  have hb2 := hb1.up u2
  have sg : ∀ i : Int, 0 ≤ i → i < 3 → ∃ c, atI (Str.ofString "+-*").cps.toList i = some c ∧ V.str ⟨#[c]⟩ = V.str (L2.S (PG.pick [] [[43], [45], [42]] i)) := fun i h0 h3 => by
    have z3 : i = 0 ∨ i = 1 ∨ i = 2 := by omega
    rcases z3 with rfl | rfl | rfl
    · exact ⟨43, atI_nat (j := 0) (by decide +kernel), rfl⟩
    · exact ⟨45, atI_nat (j := 1) (by decide +kernel), rfl⟩
    · exact ⟨42, atI_nat (j := 2) (by decide +kernel), rfl⟩
  obtain ⟨c, hc, ec⟩ := sg (PG.next sc p % 7) (by omega) k3
  refine ⟨_, _, c, rfl, rfl, by decide, hc, ?_⟩
  rw [ec]
  refine ⟨D, S, B, sc, _, d, bs, rfl, by omega, dk2, by omega, hb2, fun v3 H3 u3 dk3 o3 p4 hp4 => ?_⟩
  have hD2 : H2 D ≠ none := by rw [dk2.deck]; simp
  have hD3 : H3 D ≠ none := by rw [dk3.deck]; simp
  refine q _ _ (((u1.trans u2).trans u3).new hp4 _) (dk3.same (Same.new hp4 _)) (own_tup hp4 ?_ (.cons .str (.cons ((o2.back dom1).up u3 hDn) (.cons (o3.back fun b z => (u2.dom hD2) b (dom1 b z)) .nil))))
  exact fun b z => (u3.dom hD3) b ((u2.dom hD2) b (dom1 b z))
theorem all_e (T : Tx K mg t) : ∀ n, FnOk P w K mg base CX0 (n + 1) t.f__law_e t.fd__law_e ["deck", "boxes", "deep"] (spGenE K n)
  | 0 => by
    have no : ∀ vs H Q E, ¬ spGenE K 0 vs H Q E := fun vs H Q E ⟨_, _, _, _, _, _, _, _, h, _⟩ => by omega
    exact ⟨fun vs H Q E h => absurd h (no vs H Q E), fun A outer s H args us vs Q E _ _ _ _ h => absurd h (no vs H Q E)⟩
  | n + 1 => ok_e T (all_e T n)
theorem ok_boxes (T : Tx K mg t) : FnOk P w K mg base CX0 2 t.f__law_boxes t.fd__law_boxes ["deck"] (spGenBoxes K) := by
  have G__law_next : FnOk P w K mg base CX0 1 t.f__law_next t.fd__law_next ["deck"] (spNext K) := ok_next T
  refine T.D__law_boxes.F.okS sc__law_boxes (fun vs H Q E h => ?_) (fun cdv A outer s H vs Q E hr h => ?_)
  · obtain ⟨_, _, _, _, rfl, _⟩ := h
    rfl
  obtain ⟨D, S, sc, p, rfl, dk, hp, q⟩ := h
  have nd := sc__law_boxes.nd
  refine ⟨_, [some (V.ref D), none, none, none, none], (pss_cons (ps_set (i := 1) nd rfl (Or.inl rfl) (pe_lst pa_nil))
 (pss_cons (ps_set (i := 2) nd rfl (Or.inl rfl) (pe_op op_mod (pe_call G__law_next (hr.mono (by omega)) rfl T.D__law_next.m T.D__law_next.F.kp T.D__law_next.b .nil pass0 (pa_cons (pv 0) pa_nil st_name)) pe_int))
 (pss_cons (ps_for PassesOwn.never rfl (pi_range1 rfl T.z_range (pa_cons (pe_op op_mod (pe_call G__law_next (hr.mono (by omega)) rfl T.D__law_next.m T.D__law_next.F.kp T.D__law_next.b .nil pass0 (pa_cons (pv 0) pa_nil st_name)) pe_int) pa_nil st_bin)) (pg_name (i := 3) nd rfl (Or.inl rfl))
 (pss_cons (ps_set (i := 4) nd rfl (Or.inl rfl) (pe_op op_add pe_int (pe_op op_mod (pe_call G__law_next (hr.mono (by omega)) rfl T.D__law_next.m T.D__law_next.F.kp T.D__law_next.b .nil pass0 (pa_cons (pv 0) pa_nil st_name)) (pe_ix ix_list (pe_lst (pa_consts (vs := [.int 3, .int 9]) (by kernel_rfl))) (pe_op op_mod (pe_call G__law_next (hr.mono (by omega)) rfl T.D__law_next.m T.D__law_next.F.kp T.D__law_next.b .nil pass0 (pa_cons (pv 0) pa_nil st_name)) pe_int) pl_bin))))
 (pss_one (ps_expr (pe_bm PySem.F.plainAttrs_list PySem.F.slot_list_append PySem.F.type_list_append mt_append (pv 1) (pa_cons (pe_tup (pa_cons (pe_ix ix_list (pe_lst (pa_consts (vs := [.str "c", .str "bb", .str "aaa", .str "boxes"]) (by kernel_rfl))) (pe_op op_sub (pv 3) (pv 2)) pl_bin) (pa_cons (pv 4) (pa_cons (pe_op op_mod (pe_call G__law_next (hr.mono (by omega)) rfl T.D__law_next.m T.D__law_next.F.kp T.D__law_next.b .nil pass0 (pa_cons (pv 0) pa_nil st_name)) (pv 4)) pa_nil st_bin) st_name) st_sub)) pa_nil st_tup))))))
 (pss_one (ps_ret (pv 1)))))), rfl, ?_⟩
  have line : sizeLine = 2 ^ 24 := rfl
  refine seq_gen fun U1 hU1 => ?_
  walk_at "rd"
  intro B hB
  have s1 := Same.new hB (.lst [])
  have h1 : (upd H B (.lst [])) B = some (.lst []) := upd_same
  have dk1 := dk.same s1
  have nB : B ≠ D := (ne_of_none dk.deck hB).symm
  have hDn : H D ≠ none := by rw [dk.deck]; simp
  generalize upd H B (.lst []) = H1 at *
  refine (hU1 _ _).mpr (seq_gen fun U2 hU2 => ?_)
  clear hU1
  walk_at "rd"
  refine ⟨D, S, sc, p, rfl, dk1, by omega, fun H2 u2 dk2 => ?_⟩
  walk_at "rd"
  refine (hU2 _ _).mpr (seq_gen fun U3 hU3 => ?_)
  clear hU2
  have h2 := u2 _ _ nB h1
  refine for_gen1 fun U hU => ?_
  walk_at "rd"
  refine ⟨D, S, sc, p + 1, rfl, dk2, by omega, fun H3 u3 dk3 => ?_⟩
  walk_at "rd"
  obtain ⟨c0, c1⟩ := PG.next_b sc (p + 1)
  refine ⟨_, rfl, by omega, by omega, hU _ _ ?_⟩
  have h3 := u3 _ _ nB h2
  have u13 : Upto D H H3 := ((Upto.of s1).trans u2).trans u3
  have dom3 : ∀ b, H b ≠ none → H3 b ≠ none := u13.dom (by rw [dk3.deck]; simp)
  generalize hN : (PG.next sc (p + 1) % 5).toNat = N at *
  have N5 : N ≤ 4 := by omega
  clear hU
  refine for_range (lo := 0) (n := N) (fun i σ H4 => ∃ (a b : Option V) (pi : Nat) (pre : List PG.Box) (xs : List V), σ = [some (V.ref D), some (V.ref B), some (V.int (PG.next sc p % 4)), a, b] ∧ pi ≤ p + 2 + 3 * i ∧ Deck K H4 D S sc pi ∧ H4 B = some (.lst xs) ∧ xs.length = i ∧ pre.length = i ∧
      (PG.genBoxes sc (PG.next sc p % 4) N 0 (p + 2)).1 = pre ++ (PG.genBoxes sc (PG.next sc p % 4) (N - i) i pi).1 ∧ (PG.genBoxes sc (PG.next sc p % 4) N 0 (p + 2)).2 = (PG.genBoxes sc (PG.next sc p % 4) (N - i) i pi).2 ∧
      Owns K (fun b => if b = B then some (.lst []) else H b) H4 (pre.map dpBox) xs ∧ (∀ b o, b ≠ D → b ≠ B → H b = some o → H4 b = some o)) ?_ ?_ ?_
  · exact ⟨none, none, p + 2, [], [], rfl, by omega, dk3, h3, rfl, rfl, rfl, rfl, Owns.nil, fun b o n1 n2 e => u13 b o n1 e⟩
  · rintro i σ H4 hi ⟨a, b, pi, pre, xs, rfl, lp, dk4, h4, lx, lpre, e1, e2, ow, kp⟩
    rw [Int.zero_add]
    refine seq_gen fun U4 hU4 => ?_
    walk_at "rd"
    refine ⟨D, S, sc, pi, rfl, dk4, by omega, fun H5 u5 dk5 p6 hp6 => ?_⟩
    have h5 := u5 _ _ nB h4
    have s6 := Same.new hp6 (.lst [.int 3, .int 9])
    have l6 : (upd H5 p6 (.lst [.int 3, .int 9])) p6 = some (.lst [.int 3, .int 9]) := upd_same
    have dk6 := dk5.same s6
    have h6 := s6 _ _ h5
    have n6 : p6 ≠ D := (ne_of_none dk5.deck hp6).symm
    generalize upd H5 p6 (.lst [.int 3, .int 9]) = H6 at *
    refine ⟨D, S, sc, pi + 1, rfl, dk6, by omega, fun H7 u7 dk7 => ?_⟩
    have h7 := u7 _ _ nB h6
    have l7 := u7 _ _ n6 l6
    obtain ⟨x0, x1⟩ := PG.next_b sc (pi + 1)
    have pk : ∀ i : Int, 0 ≤ i → i < 2 → atI [V.int 3, V.int 9] i = some (V.int (PG.pick 1 [3, 9] i)) ∧ (0 : Int) < PG.pick 1 [3, 9] i := fun i h0 h3 => by
      have z3 : i = 0 ∨ i = 1 := by omega
      rcases z3 with rfl | rfl
      · exact ⟨atI_nat (j := 0) rfl, by decide⟩
      · exact ⟨atI_nat (j := 1) rfl, by decide⟩
    obtain ⟨k1, k2⟩ := pk (PG.next sc (pi + 1) % 2) (by omega) (by omega)
    walk_at "rd"
    refine rIxL_i (.of l7) k1 ?_
    walk_at "rd"
    refine ⟨k2, (hU4 _ _).mpr ?_⟩
    clear hU4
    have z0 : 0 < 2 + PG.next sc pi % PG.pick 1 [3, 9] (PG.next sc (pi + 1) % 2) := by
      have := Int.emod_nonneg (PG.next sc pi) (show PG.pick (1 : Int) [3, 9] (PG.next sc (pi + 1) % 2) ≠ 0 by omega)
      omega
    have eN : N - i = (N - (i + 1)) + 1 := by omega
    rw [eN, PG.genBoxes] at e1 e2
    simp only at e1 e2
    generalize 2 + PG.next sc pi % PG.pick 1 [3, 9] (PG.next sc (pi + 1) % 2) = size at *
    walk_at "rd"
    refine ⟨.inl ⟨rfl, _, .of h7⟩, fun p8 hp8 => ?_⟩
    have s8 := Same.new hp8 (.lst [V.str (Str.ofString "c"), V.str (Str.ofString "bb"), V.str (Str.ofString "aaa"), V.str (Str.ofString "boxes")])
    have dk8 := dk7.same s8
    have h8 := s8 _ _ h7
    have sp0 : 0 ≤ PG.next sc p % 4 ∧ PG.next sc p % 4 < 4 := by omega
    have nm : ∀ (a : Nat) (b : Int), a < 4 → 0 ≤ b → b < 4 → atI [V.str (Str.ofString "c"), V.str (Str.ofString "bb"), V.str (Str.ofString "aaa"), V.str (Str.ofString "boxes")] ((a : Int) - b) = some (V.str (L2.S (PG.pick [] PG.boxNames (((a : Int) - b) % 4)))) := by
      intro a b ha hb0 hb1
      obtain ⟨c, rfl⟩ : ∃ c : Nat, b = c := ⟨b.toNat, by omega⟩
      have key : ∀ a < 4, ∀ c < 4, atI [V.str (Str.ofString "c"), V.str (Str.ofString "bb"), V.str (Str.ofString "aaa"), V.str (Str.ofString "boxes")] (((a : Nat) : Int) - ((c : Nat) : Int)) = some (V.str (L2.S (PG.pick [] PG.boxNames ((((a : Nat) : Int) - ((c : Nat) : Int)) % 4)))) := by decide +kernel
      exact key a ha c (by omega)
    refine rIxL_new (nm i _ (by omega) sp0.1 sp0.2) ?_
    generalize upd H7 p8 (.lst [V.str (Str.ofString "c"), V.str (Str.ofString "bb"), V.str (Str.ofString "aaa"), V.str (Str.ofString "boxes")]) = H8 at *
    refine ⟨D, S, sc, pi + 2, rfl, dk8, by omega, fun H9 u9 dk9 => ?_⟩
    walk_at "rd"
    refine ⟨z0, fun pa hpa => ?_⟩
    have h9 := u9 _ _ nB h8
    have uD : Upto D H4 H9 := ((u5.trans (.of s6)).trans u7).trans ((Upto.of s8).trans u9)
    have dk10 := dk9.same (Same.new hpa (.tup [V.str (L2.S (PG.pick [] PG.boxNames (((i : Int) - PG.next sc p % 4) % 4))), V.int size, V.int (PG.next sc (pi + 2) % size)]))
    have h10 := Same.new hpa (.tup [V.str (L2.S (PG.pick [] PG.boxNames (((i : Int) - PG.next sc p % 4) % 4))), V.int size, V.int (PG.next sc (pi + 2) % size)]) _ _ h9
    have dom9 : ∀ b, (fun b => if b = B then some (HO.lst []) else H b) b ≠ none → H9 b ≠ none := fun b hb => by
      by_cases eb : b = B
      · rw [eb, h9]; simp
      · have hb' : H b ≠ none := by simpa [eb] using hb
        by_cases ed : b = D
        · rw [ed, dk9.deck]; simp
        · cases z : H b with
          | none => exact absurd z hb'
          | some o => rw [uD b o ed (kp b o ed eb z)]; simp
    have hD0 : (fun b => if b = B then some (HO.lst []) else H b) D ≠ none := by simp [nB.symm]; exact hDn
    have nt := own_tup (K := K) hpa dom9 (.cons (.str (x := L2.S (PG.pick [] PG.boxNames (((i : Int) - PG.next sc p % 4) % 4)))) (.cons (.int (i := size)) (.cons (.int (i := PG.next sc (pi + 2) % size)) .nil)))
    have ow9 : Owns K (fun b => if b = B then some (HO.lst []) else H b) H9 (pre.map dpBox) xs := ow.up uD hD0
    have ow10 := ow9.same (Same.new hpa (.tup [V.str (L2.S (PG.pick [] PG.boxNames (((i : Int) - PG.next sc p % 4) % 4))), V.int size, V.int (PG.next sc (pi + 2) % size)]))
    have kp10 : ∀ b o, b ≠ D → b ≠ B → H b = some o → (upd H9 pa (.tup [V.str (L2.S (PG.pick [] PG.boxNames (((i : Int) - PG.next sc p % 4) % 4))), V.int size, V.int (PG.next sc (pi + 2) % size)])) b = some o := fun b o n1 n2 e => Same.new hpa _ _ _ (uD b o n1 (kp b o n1 n2 e))
    generalize upd H9 pa (.tup [V.str (L2.S (PG.pick [] PG.boxNames (((i : Int) - PG.next sc p % 4) % 4))), V.int size, V.int (PG.next sc (pi + 2) % size)]) = H10 at *
    refine ⟨B, xs, _, rfl, rfl, h10, by omega, ?_⟩
    refine ⟨_, _, pi + 3, pre ++ [⟨PG.pick [] PG.boxNames (((i : Int) - PG.next sc p % 4) % 4), size, PG.next sc (pi + 2) % size⟩], xs ++ [V.ref pa], rfl, by omega, ?_, upd_same, by simp [lx], by simp [lpre], ?_, e2, ?_, ?_⟩
    · have nS : S ≠ B := ne_of_none dk.script hB
      exact ⟨by rw [upd_ne nB.symm]; exact dk10.deck, by rw [upd_ne nS]; exact dk10.script, dk10.ne, dk10.len⟩
    · rw [e1]; simp
    · rw [List.map_append]
      exact ow_put h10 (ow10.snoc nt) (by simp)
    · intro b o n1 n2 e
      rw [upd_ne n2]
      exact kp10 b o n1 n2 e
  · rintro σ H4 ⟨a, b, pi, pre, xs, rfl, lp, dk4, h4, lx, lpre, e1, e2, ow, kp⟩
    refine (hU3 _ _).mpr ?_
    walk_at "rd"
    rw [Nat.sub_self, PG.genBoxes] at e1 e2
    simp only [List.append_nil] at e1 e2
    refine q B H4 (fun b o n1 e => ?_) (by rw [e2]; exact dk4) hB (fun O hO => ?_)
    · by_cases eb : b = B
      · rw [eb, hB] at e; cases e
      · exact kp b o n1 eb e
    · rw [e1]
      refine Fix.lst h4 (fun z => hO B z hB) (ow O fun b hb => ?_)
      by_cases eb : b = B
      · simp [eb]
      · simp [eb]; exact hO b hb
theorem ok_plain (T : Tx K mg t) : FnOk P w K mg base CX0 5 t.f__law_plain t.fd__law_plain ["deck", "boxes", "k"] (spGenPlain K) := by
  have G__law_next : FnOk P w K mg base CX0 1 t.f__law_next t.fd__law_next ["deck"] (spNext K) := ok_next T
  have G__law_e := all_e (P := P) (w := w) (base := base) T 3
  refine T.D__law_plain.F.okS sc__law_plain (fun vs H Q E h => ?_) (fun cdv A outer s H vs Q E hr h => ?_)
  · obtain ⟨_, _, _, _, _, _, _, rfl, _⟩ := h
    rfl
  obtain ⟨D, S, B, sc, p, k, bs, rfl, dk, hp, hb, q⟩ := h
  have nd := sc__law_plain.nd
  refine ⟨_, [some (V.ref D), some (V.ref B), some (V.int k), none, none], (pss_cons (ps_set (i := 3) nd rfl (Or.inl rfl) (pe_op op_mod (pe_call G__law_next (hr.mono (by omega)) rfl T.D__law_next.m T.D__law_next.F.kp T.D__law_next.b .nil pass0 (pa_cons (pv 0) pa_nil st_name)) pe_int))
 (pss_cons (ps_if (PW.pt (pw_and (pt_cmpR (op_ne_nil (hu_of hr)) (pv 1) (pe_lst pa_nil) (nomark _)) (pw_and1 (pt_cmpR op_lt (pv 3) pe_int (nomark _)))))
 (pss_one (ps_ret (pe_tup (pa_cons pe_str (pa_cons (pv 2) (pa_cons (pe_ix ix_tup (pe_ix ix_list (pv 1) (pe_op op_mod (pe_call G__law_next (hr.mono (by omega)) rfl T.D__law_next.m T.D__law_next.F.kp T.D__law_next.b .nil pass0 (pa_cons (pv 0) pa_nil st_name)) (pe_callB call_len_seq rfl T.z_len PyProof.Rows.Boot.«len» (pa_cons (pv 1) pa_nil st_name))) pl_bin) pe_int pl_const) pa_nil st_sub) st_name) st_const))))
 pss_nil)
 (pss_cons (ps_if (PW.pt (pw_and (pt_cmpR (op_ne_nil (hu_of hr)) (pv 1) (pe_lst pa_nil) (nomark _)) (pw_and1 (pt_cmpR op_lt (pv 3) pe_int (nomark _)))))
 (pss_one (ps_ret (pe_tup (pa_cons pe_str (pa_cons (pv 2) (pa_cons (pe_ix ix_tup (pe_ix ix_list (pv 1) (pe_op op_mod (pe_call G__law_next (hr.mono (by omega)) rfl T.D__law_next.m T.D__law_next.F.kp T.D__law_next.b .nil pass0 (pa_cons (pv 0) pa_nil st_name)) (pe_callB call_len_seq rfl T.z_len PyProof.Rows.Boot.«len» (pa_cons (pv 1) pa_nil st_name))) pl_bin) pe_int pl_const) (pa_cons (pe_call G__law_e (hr.mono (by omega)) rfl T.D__law_e.m T.D__law_e.F.kp T.D__law_e.b .nil pass0 (pa_cons (pv 0) (pa_cons (pv 1) (pa_cons pe_int pa_nil st_const) st_name) st_name)) pa_nil st_call) st_sub) st_name) st_const))))
 pss_nil)
 (pss_cons (ps_if (pt_cmpR op_eq (pv 3) pe_int (nomark _))
 (pss_cons (ps_set (i := 4) nd rfl (Or.inl rfl) (pe_ix ix_str pe_str (pe_op op_mod (pe_call G__law_next (hr.mono (by omega)) rfl T.D__law_next.m T.D__law_next.F.kp T.D__law_next.b .nil pass0 (pa_cons (pv 0) pa_nil st_name)) pe_int) pl_bin))
 (pss_one (ps_ret (pe_tup (pa_cons pe_str (pa_cons (pv 2) (pa_cons (pv 4) (pa_cons (pe_call G__law_e (hr.mono (by omega)) rfl T.D__law_e.m T.D__law_e.F.kp T.D__law_e.b .nil pass0 (pa_cons (pv 0) (pa_cons (pv 1) (pa_cons pe_int pa_nil st_const) st_name) st_name)) (pa_cons (pe_call G__law_e (hr.mono (by omega)) rfl T.D__law_e.m T.D__law_e.F.kp T.D__law_e.b .nil pass0 (pa_cons (pv 0) (pa_cons (pv 1) (pa_cons pe_int pa_nil st_const) st_name) st_name)) pa_nil st_call) st_call) st_name) st_name) st_const)))))
 pss_nil)
 (pss_cons (ps_if (PW.pt (pw_and (pt_cmpR op_eq (pv 3) pe_int (nomark _)) (pw_and1 (pt_cmpR op_eq (pe_op op_mod (pe_call G__law_next (hr.mono (by omega)) rfl T.D__law_next.m T.D__law_next.F.kp T.D__law_next.b .nil pass0 (pa_cons (pv 0) pa_nil st_name)) pe_int) pe_int (nomark _)))))
 (pss_one (ps_ret (pe_tup (pa_cons pe_str (pa_cons (pv 2) pa_nil st_name) st_const))))
 pss_nil)
 (pss_one (ps_ret (pe_tup (pa_cons pe_str (pa_cons (pv 2) (pa_cons (pe_call G__law_e (hr.mono (by omega)) rfl T.D__law_e.m T.D__law_e.F.kp T.D__law_e.b .nil pass0 (pa_cons (pv 0) (pa_cons (pv 1) (pa_cons pe_int pa_nil st_const) st_name) st_name)) pa_nil st_call) st_name) st_const))))))))), rfl, ?_⟩
  have line : sizeLine = 2 ^ 24 := rfl
  refine seq_gen fun U1 hU1 => ?_
  walk_at "rd"
  refine ⟨D, S, sc, p, rfl, dk, by omega, fun H1 u1 dk1 => ?_⟩
  walk_at "rd"
  refine (hU1 _ _).mpr (seq_gen fun U2 hU2 => ?_)
  clear hU1
  have hDn : H D ≠ none := by rw [dk.deck]; simp
  obtain ⟨n0, n1⟩ := PG.next_b sc p
  have dom1 := u1.dom (by rw [dk1.deck]; simp)
  have hb1 := hb.up u1
  have eg := PG.genPlain_eq sc bs k p
  generalize hkd : PG.next sc p % 10 = kd at *
  -- a number said, the last of all
  have say : ∀ (H2 : Hp) (p2 : Nat), PG.genPlain sc bs k p = (.say k (PG.genE sc bs 2 p2).1, (PG.genE sc bs 2 p2).2) → p2 ≤ p + 2 → Upto D H H2 → Deck K H2 D S sc p2 → Boxes K (· = D) H2 B bs →
      spGenE K 3 [V.ref D, V.ref B, V.int 2] H2 (fun x H3 => ∀ p4, H3 p4 = none → Q (V.ref p4) (upd H3 p4 (.tup [V.str (Str.ofString "say"), V.int k, x]))) E0 := by
    intro H2 p2 e hp2 u2 dk2 hb2
    rw [e] at q
    obtain ⟨g1, g2⟩ := PG.genE_p sc bs 2 p2
    refine ⟨D, S, B, sc, p2, 2, bs, rfl, by omega, dk2, by omega, hb2, fun v H3 u3 dk3 o3 p4 hp4 => ?_⟩
    have hD2 : H2 D ≠ none := by rw [dk2.deck]; simp
    have hD3 : H3 D ≠ none := by rw [dk3.deck]; simp
    refine q _ _ ((u2.trans u3).new hp4 _) (dk3.same (Same.new hp4 _)) (own_tup hp4 (fun b z => (u3.dom hD3) b ((u2.dom hD2) b z)) (.cons .str (.cons .int (.cons (o3.back (u2.dom hD2)) .nil))))
  walk_at "rd"
  intro p2 hp2
  have s2 := Same.new hp2 (.lst [])
  have hb2 := hb1.same s2
  have h2 : (upd H1 p2 (.lst [])) p2 = some (.lst []) := upd_same
  have dk2 := dk1.same s2
  generalize upd H1 p2 (.lst []) = H2 at *
  obtain ⟨xs, hx, lx, _⟩ := hb2.list
  refine ⟨B, p2, xs, rfl, rfl, hx, .of h2, ?_⟩
  have em : xs.isEmpty = decide (bs = []) := by
    rw [Bool.eq_iff_iff, List.isEmpty_iff, decide_eq_true_eq, ← List.length_eq_zero_iff, lx, List.length_eq_zero_iff]
  rw [em]
  have u2 : Upto D H1 H2 := .of s2
  have dom2 := u2.dom (by rw [dk2.deck]; simp)
  have box : ∀ (H3 : Hp) (p3 : Nat) (R : VK), Deck K H3 D S sc p3 → p3 ≤ 99000 → Boxes K (· = D) H3 B bs → bs ≠ [] → (∀ H4, Upto D H3 H4 → Deck K H4 D S sc (p3 + 1) → Boxes K (· = D) H4 B bs → R (V.str (L2.S (PG.pick ⟨[], 0, 0⟩ bs (PG.next sc p3 % bs.length)).name)) H4) →
      spNext K [V.ref D] H3 (fun x H1 => ∃ p ys, [V.ref B] = [V.ref p] ∧ (SqL K H1 p ys ∨ SqT K H1 p ys) ∧ rI (fun x j => 0 < j) (fun i j => V.int (i % j)) x (V.int (ys.length : Nat)) H1 fun y H2 => rIxL K (V.ref B) y H2 fun x H1 => rIxT K x (V.int 0) H1 R) E0 := by
    intro H3 p3 R dk3 l3 hb3 hbs hR
    refine ⟨D, S, sc, p3, rfl, dk3, by omega, fun H4 u4 dk4 => ?_⟩
    have hb4 := hb3.up u4
    obtain ⟨ys, hy, ly, _⟩ := hb4.list
    refine ⟨B, ys, rfl, .inl hy, ?_⟩
    rw [ly]
    have pos : 0 < bs.length := List.length_pos_iff.mpr hbs
    walk_at "rd"
    exact ⟨by omega, hb4.pick (Int.emod_nonneg _ (by omega)) (Int.emod_lt_of_pos _ (by omega)) (hR H4 u4 dk4 hb4)⟩
  have u12 := u1.trans u2
  have rest2 : ¬ (bs ≠ [] ∧ kd < 3) → U2 [some (V.ref D), some (V.ref B), some (V.int k), some (V.int kd), none] H2 := by
    intro hn
    rw [if_neg hn] at eg
    refine (hU2 _ _).mpr (seq_gen fun U3 hU3 => ?_)
    have rest3 : ¬ (bs ≠ [] ∧ kd < 6) → ∀ H3, Same H2 H3 → U3 [some (V.ref D), some (V.ref B), some (V.int k), some (V.int kd), none] H3 := by
      intro hn2 H3 s3
      rw [if_neg hn2] at eg
      have u3 : Upto D H H3 := u12.trans (.of s3)
      have dk3 := dk2.same s3
      have hb3 := hb2.same s3
      have dom3 := u3.dom (by rw [dk3.deck]; simp)
      refine (hU3 _ _).mpr (seq_gen fun U4 hU4 => ?_)
      walk_at "rd"
      refine ite2 (fun k6 => ?_) (fun k6 => (hU4 _ _).mpr (seq_gen fun U5 hU5 => ?_))
      · rw [if_pos k6] at eg
        rw [eg] at q
        refine ⟨D, S, sc, p + 1, rfl, dk3, by omega, fun H4 u4 dk4 => ?_⟩
        walk_at "rd"
        obtain ⟨m0, m1⟩ := PG.next_b sc (p + 1)
        have sg : ∀ i : Int, 0 ≤ i → i < 2 → ∃ c, atI (Str.ofString "<=").cps.toList i = some c ∧ V.str ⟨#[c]⟩ = V.str (L2.S (PG.pick [] PG.sgs i)) := fun i h0 h3 => by
          have z3 : i = 0 ∨ i = 1 := by omega
          rcases z3 with rfl | rfl
          · exact ⟨60, atI_nat (j := 0) (by decide +kernel), rfl⟩
          · exact ⟨61, atI_nat (j := 1) (by decide +kernel), rfl⟩
        obtain ⟨c, hc, ec⟩ := sg (PG.next sc (p + 1) % 2) (by omega) (by omega)
        refine ⟨_, _, c, rfl, rfl, by decide, hc, ?_⟩
        rw [ec]
        have hb4 := hb3.up u4
        have dom4 := u4.dom (by rw [dk4.deck]; simp)
        obtain ⟨g1, g2⟩ := PG.genE_p sc bs 1 (p + 2)
        refine ⟨D, S, B, sc, p + 2, 1, bs, rfl, by omega, dk4, by omega, hb4, fun v5 H5 u5 dk5 o5 => ?_⟩
        have hb5 := hb4.up u5
        have dom5 := u5.dom (by rw [dk5.deck]; simp)
        obtain ⟨g3, g4⟩ := PG.genE_p sc bs 1 (PG.genE sc bs 1 (p + 2)).2
        refine ⟨D, S, B, sc, _, 1, bs, rfl, by omega, dk5, by omega, hb5, fun v6 H6 u6 dk6 o6 p7 hp7 => ?_⟩
        have dom6 := u6.dom (by rw [dk6.deck]; simp)
        have dA : ∀ b, H b ≠ none → H4 b ≠ none := fun b z => dom4 b (dom3 b z)
        have dB : ∀ b, H b ≠ none → H5 b ≠ none := fun b z => dom5 b (dA b z)
        exact q _ _ ((((u3.trans u4).trans u5).trans u6).new hp7 _) (dk6.same (Same.new hp7 _)) (own_tup hp7 (fun b z => dom6 b (dB b z)) (.cons .str (.cons .int (.cons .str (.cons ((o5.back dA).up u6 hDn) (.cons (o6.back dB) .nil))))))
      · rw [if_neg k6] at eg
        walk_at "rd"
        refine ite2 (fun k7 => ?_) (fun k7 => (if_neg Bool.false_ne_true).mpr ((hU5 _ _).mpr ?_))
        · rw [if_pos k7] at eg
          refine ⟨D, S, sc, p + 1, rfl, dk3, by omega, fun H4 u4 dk4 => ?_⟩
          walk_at "rd"
          have dom4 := u4.dom (by rw [dk4.deck]; simp)
          refine ite2 (fun z3 => ?_) (fun z3 => (hU5 _ _).mpr ?_)
          · rw [if_pos z3] at eg
            rw [eg] at q
            intro p5 hp5
            exact q _ _ ((u3.trans u4).new hp5 _) (dk4.same (Same.new hp5 _)) (own_tup hp5 (fun b z => dom4 b (dom3 b z)) (.cons .str (.cons .int .nil)))
          · rw [if_neg z3] at eg
            walk_at "rd"
            exact say H4 (p + 2) eg (by omega) (u3.trans u4) dk4 (hb3.up u4)
        · rw [if_neg k7] at eg
          walk_at "rd"
          exact say H3 (p + 1) eg (by omega) u3 dk3 hb3
    walk_at "rd"
    intro p3 hp3
    have s3 := Same.new hp3 (.lst [])
    have hb3 := hb2.same s3
    have h3 : (upd H2 p3 (.lst [])) p3 = some (.lst []) := upd_same
    have dk3 := dk2.same s3
    generalize upd H2 p3 (.lst []) = H3 at *
    obtain ⟨ys, hy, ly, _⟩ := hb3.list
    refine ⟨B, p3, ys, rfl, rfl, hy, .of h3, ?_⟩
    have em3 : ys.isEmpty = decide (bs = []) := by
      rw [Bool.eq_iff_iff, List.isEmpty_iff, decide_eq_true_eq, ← List.length_eq_zero_iff, ly, List.length_eq_zero_iff]
    rw [em3]
    by_cases hbs : bs = []
    · rw [decide_eq_true hbs, if_neg (by decide), if_neg Bool.false_ne_true]
      exact rest3 (fun z => z.1 hbs) H3 s3
    · rw [decide_eq_false hbs, if_pos (by decide)]
      refine ite2 (fun k6 => ?_) (fun k6 => rest3 (fun z => k6 z.2) H3 s3)
      rw [if_pos ⟨hbs, k6⟩] at eg
      rw [eg] at q
      refine box H3 (p + 1) _ dk3 (by omega) hb3 hbs fun H4 u4 dk4 hb4 => ?_
      have u3 : Upto D H H3 := u12.trans (.of s3)
      have dom3 := u3.dom (by rw [dk3.deck]; simp)
      have dom4 := u4.dom (by rw [dk4.deck]; simp)
      obtain ⟨g1, g2⟩ := PG.genE_p sc bs 2 (p + 2)
      refine ⟨D, S, B, sc, p + 2, 2, bs, rfl, by omega, dk4, by omega, hb4, fun v5 H5 u5 dk5 o5 p6 hp6 => ?_⟩
      have dom5 := u5.dom (by rw [dk5.deck]; simp)
      exact q _ _ (((u3.trans u4).trans u5).new hp6 _) (dk5.same (Same.new hp6 _)) (own_tup hp6 (fun b z => dom5 b (dom4 b (dom3 b z))) (.cons .str (.cons .int (.cons .str (.cons (o5.back fun b z => dom4 b (dom3 b z)) .nil)))))
  by_cases hbs : bs = []
  · rw [decide_eq_true hbs, if_neg (by decide), if_neg Bool.false_ne_true]
    exact rest2 fun z => z.1 hbs
  · rw [decide_eq_false hbs, if_pos (by decide)]
    refine ite2 (fun k3 => ?_) (fun k3 => rest2 fun z => k3 z.2)
    rw [if_pos ⟨hbs, k3⟩] at eg
    rw [eg] at q
    refine box H2 (p + 1) _ dk2 (by omega) hb2 hbs fun H4 u4 dk4 hb4 p5 hp5 => ?_
    have dom4 := u4.dom (by rw [dk4.deck]; simp)
    exact q _ _ ((u12.trans u4).new hp5 _) (dk4.same (Same.new hp5 _)) (own_tup hp5 (fun b z => dom4 b (dom2 b (dom1 b z))) (.cons .str (.cons .int (.cons .str .nil))))
theorem wd_plain : ∀ w : PG.Wd, (!inV (V.str (wdS w)) [V.str (Str.ofString "else"), V.str (Str.ofString "end")]) = decide (w ≠ .els ∧ w ≠ .fin) := by
  intro w
  cases w <;> decide +kernel
theorem ok_number (T : Tx K mg t) : FnOk P w K mg base CX0 1 t.f__law_number t.fd__law_number ["boxes", "rows", "mode"] (spNumber K) := by
  refine T.D__law_number.F.okS sc__law_number (fun vs H Q E h => ?_) (fun cdv A outer s H vs Q E hr h => ?_)
  · obtain ⟨_, _, _, _, _, rfl, _⟩ := h
    rfl
  obtain ⟨B, R, bs, rows, mode, rfl, rb, rr, lb, lr, q⟩ := h
  have nd := sc__law_number.nd
  refine ⟨_, [some (V.ref B), some (V.ref R), some (V.int mode)], (pss_cons (ps_if (pt_cmpR op_eq (pv 2) pe_int (nomark _))
 (pss_one (ps_ret (pe_op op_add (pe_op op_add (pe_callB call_len_seq rfl T.z_len PyProof.Rows.Boot.«len» (pa_cons (pv 0) pa_nil st_name)) pe_int) (pe_op op_mul pe_int (pe_callB call_len_seq rfl T.z_len PyProof.Rows.Boot.«len» (pa_cons (pv 1) pa_nil st_name))))))
 pss_nil)
 (pss_cons (ps_if (pt_cmpR op_eq (pv 2) pe_int (nomark _))
 (pss_one (ps_ret (pe_op op_add (pe_op op_add (pe_callB call_len_seq rfl T.z_len PyProof.Rows.Boot.«len» (pa_cons (pv 0) pa_nil st_name)) pe_int) (pe_callB call_len_seq rfl T.z_len PyProof.Rows.Boot.«len» (pa_cons (pe_comp (own := ["row"]) (ix := []) rfl (by rfl) (by rfl) (pi_list (pv 1)) (fun _ _ _ _ => (pg_name (i := 0) (by show List.Nodup (["row"] : List Str); decide +kernel) rfl (Or.inl rfl))) (fun _ _ _ _ => (pts_one (pt_cmpR (op_notInK (K := K) rfl) (pe_ix (ix_listK (K := K) rfl) (pv 0) pe_int pl_const) (pe_tup (pa_consts (vs := [.str "else", .str "end"]) (by kernel_rfl))) rfl))) (fun _ _ _ _ => (pv 0))) pa_nil st_comp)))))
 pss_nil)
 (pss_one (ps_ret (pe_op op_add (pe_op op_add (pe_callB call_len_seq rfl T.z_len PyProof.Rows.Boot.«len» (pa_cons (pv 0) pa_nil st_name)) pe_int) (pe_callB call_len_seq rfl T.z_len PyProof.Rows.Boot.«len» (pa_cons (pv 1) pa_nil st_name))))))), rfl, ?_⟩
  have line : sizeLine = 2 ^ 24 := rfl
  rw [Rep.lst_iff] at rb rr
  obtain ⟨_, bv, e, hB, rb⟩ := rb
  cases e
  obtain ⟨_, rv, e, hR, rr⟩ := rr
  cases e
  have lbv : bv.length = bs.length := by rw [rb.length, List.length_map]
  have lrv : rv.length = rows.length := by rw [rr.length, List.length_map]
  unfold PG.number at q
  walk_at "rd"
  refine ite2 (fun m2 => ?_) (fun m2 => ?_)
  · rw [if_pos m2] at q
    refine ⟨B, bv, rfl, .inl hB, R, rv, rfl, .inl hR, ?_⟩
    rw [lbv, lrv]
    exact ⟨mulL (by decide) (by decide), q _ (Same.refl _)⟩
  rw [if_neg m2] at q
  refine ite2 (fun m3 => ?_) (fun m3 => ?_)
  · rw [if_pos m3] at q
    refine ⟨B, bv, rfl, .inl hB, ?_⟩
    simp only [tComp]
    walk_at "rd"
    refine ⟨⟨rv, hR⟩, fun D hD => ?_⟩
    refine comp_list3 (K := K) (r := []) (fun i => PG.plainRow (rows.getD i (0, .ask))) (fun i => rv.getD i .non) hR (by omega) hD (fun i x hx H2 s2 R2 hR2 => ?_) (fun i x hx _ H2 s2 R2 hR2 => ?_) (fun H2 s2 h2 => ?_)
    · have li : i < rows.length := by
        have := (List.getElem?_eq_some_iff.mp hx).1
        omega
      obtain ⟨v, hv, rw_⟩ := rr.get (i := i) (d := dpRow (rows.getD i (0, .ask))) (by rw [List.getElem?_map, List.getElem?_eq_getElem li, List.getD_eq_getElem?_getD, List.getElem?_eq_getElem li]; rfl)
      rw [hx] at hv
      cases hv
      generalize rows.getD i (0, .ask) = row at *
      unfold dpRow at rw_
      rw [Rep.lst_iff] at rw_
      obtain ⟨a, ys, rfl, hy, ry⟩ := rw_
      rw [Reps.cons_iff] at ry
      obtain ⟨v1, t1, rfl, e1, ry⟩ := ry
      rw [Reps.cons_iff] at ry
      obtain ⟨v2, t2, rfl, e2, ry⟩ := ry
      rw [Reps.nil_iff] at ry
      subst ry
      rw [Rep.str_iff] at e2
      subst e2
      walk_at "rd"
      refine rIxL_i (v := V.str (wdS row.2)) (s2.seq hy) (atI_nat (j := 1) rfl) fun p3 hp3 => ?_
      refine ⟨p3, _, rfl, .inr (.of upd_same), rfl, rfl, ?_⟩
      have ew : (!inV (V.str (wdS row.2)) [V.str (Str.ofString "else"), V.str (Str.ofString "end")]) = PG.plainRow row := by
        exact wd_plain row.2
      have := hR2 _ (Same.new hp3 (.tup [V.str (Str.ofString "else"), V.str (Str.ofString "end")]))
      rw [← ew] at this
      exact ⟨_, rfl, this⟩
    · walk_at "rd"
      have := hR2 H2 (Same.refl _)
      rw [List.getD_eq_getElem?_getD, hx] at this
      exact this
    · refine ⟨D, _, rfl, .inl (.of h2), ?_⟩
      rw [List.length_map, lrv, range_count, lbv]
      exact q _ s2
  · rw [if_neg m3] at q
    refine ⟨B, bv, rfl, .inl hB, R, rv, rfl, .inl hR, ?_⟩
    rw [lbv, lrv]
    exact q _ (Same.refl _)
theorem atI_last {α : Type} {xs : List α} {x : α} : atI (xs ++ [x]) (-1) = some x := by
  have e : ixN (xs ++ [x]).length (-1) = some xs.length := by
    unfold ixN
    simp
    try omega
  unfold atI
  rw [e]
  simp
theorem fixs_app {K : PySem.W.Frag} {Oo : Addr → Prop} {H : Hp} {ds es : List Dp} {vs us : List V} (a : Fixs K Oo H ds vs) (b : Fixs K Oo H es us) : Fixs K Oo H (ds ++ es) (vs ++ us) := fun H2 u => (a H2 u).append (b H2 u)
theorem catT_i {K : PySem.W.Frag} {H : Hp} {a b : Addr} {xs ys : List V} {Q : VK} (h1 : H a = some (.tup xs)) (h2 : H b = some (.tup ys)) (n1 : 1 ≤ xs.length ∧ xs.length ≤ 10) (n2 : 1 ≤ ys.length ∧ ys.length ≤ 10) (q : ∀ p, H p = none → Q (.ref p) (upd H p (.tup (xs ++ ys)))) : rCatT K (.ref a) (.ref b) H Q := by
  have line : sizeLine = 2 ^ 24 := rfl
  refine ⟨a, b, xs, ys, rfl, rfl, .of h1, .of h2, by intro z; rw [z] at n1; simp at n1, by omega, fun z => by rw [z] at n2; simp at n2, fun _ => q⟩
theorem ok_close (T : Tx K mg t) : FnOk P w K mg base CX0 1 t.f__law_close t.fd__law_close ["pile"] (spClose K) := by
  refine T.D__law_close.F.okS sc__law_close (fun vs H Q E h => ?_) (fun cdv A outer s H vs Q E hr h => ?_)
  · obtain ⟨_, _, _, _, _, _, _, _, _, _, _, _, _, _, _, _, rfl, _⟩ := h
    rfl
  obtain ⟨D, S, sc, p, B, bs, P', R, f, g, a, b, a', b', r, rows, rfl, st, hk, hg, hr10, q⟩ := h
  have nd := sc__law_close.nd
  refine ⟨_, [some (V.ref P'), none, none, none, none, none], (pss_cons (ps_asg (pe_bm0 PySem.F.plainAttrs_list PySem.F.slot_list_pop PySem.F.type_list_pop mt_pop (pv 0)) (pg_lst rfl (pgs_cons (pg_name (i := 1) nd rfl (Or.inl rfl)) (pgs_cons (pg_name (i := 2) nd rfl (Or.inl rfl)) (pgs_cons (pg_name (i := 3) nd rfl (Or.inl rfl)) (pgs_cons (pg_name (i := 4) nd rfl (Or.inl rfl)) pgs_nil))))))
 (pss_cons (ps_set (i := 5) nd rfl (Or.inl rfl) (pe_op op_catT (pv 3) (pe_tup (pa_cons (pv 2) pa_nil st_name))))
 (pss_cons (ps_if (pt_cmpR op_eq (pv 1) pe_str (nomark _))
 (pss_one (ps_set (i := 5) nd rfl (Or.inl rfl) (pe_op op_catT (pv 3) (pe_tup (pa_cons (pv 2) (pa_cons (pe_lst pa_nil) pa_nil st_lst) st_name)))))
 pss_nil)
 (pss_cons (ps_if (pt_cmpR op_eq (pv 1) pe_str (nomark _))
 (pss_one (ps_set (i := 5) nd rfl (Or.inl rfl) (pe_op op_catT (pv 3) (pe_tup (pa_cons (pv 4) (pa_cons (pv 2) pa_nil st_name) st_name)))))
 pss_nil)
 (pss_one (ps_expr (pe_bm PySem.F.plainAttrs_list PySem.F.slot_list_append PySem.F.type_list_append mt_append (pe_ix ix_list (pe_ix ix_list (pv 0) (pe_un un_neg pe_int) pl_un) pe_int pl_const) (pa_cons (pv 5) pa_nil st_name)))))))), rfl, ?_⟩
  have line : sizeLine = 2 ^ 24 := rfl
  refine seq_gen fun U1 hU1 => ?_
  walk_at "rd"
  have ep : ((f, a, b) :: (g, a', b') :: r : List Fra).reverse.map (fun x => V.ref x.2.1) = ((g, a', b') :: r : List Fra).reverse.map (fun x => V.ref x.2.1) ++ [.ref a] := by rw [List.reverse_cons, List.map_append]; rfl
  obtain ⟨st1, ⟨hd, fi, xs, fa⟩, na, nb, nab⟩ := st.pop
  have kd : ∀ c, H c ≠ none → (upd H P' (.lst (((g, a', b') :: r : List Fra).reverse.map fun x => V.ref x.2.1))) c ≠ none := fun c hc => by
    by_cases e : c = P'
    · rw [e, upd_same]; simp
    · rw [upd_ne e]; exact hc
  have kp : ∀ c o, c ∉ opn D P' R ((f, a, b) :: (g, a', b') :: r) → H c = some o → (upd H P' (.lst (((g, a', b') :: r : List Fra).reverse.map fun x => V.ref x.2.1))) c = some o := fun c o hc e => by
    rw [upd_ne (fun z => hc (by rw [z]; simp [opn]))]; exact e
  refine ⟨.inl ⟨rfl, _, .of st.pile⟩, P', _, .ref a, rfl, rfl, st.pile, by rw [ep]; simp, ?_⟩
  rw [ep, List.dropLast_concat]
  generalize upd H P' (.lst (((g, a', b') :: r : List Fra).reverse.map fun x => V.ref x.2.1)) = H1 at *
  refine ⟨a, _, rfl, .of fa.fr, rfl, _, _, rfl, _, _, rfl, _, _, rfl, _, _, rfl, rfl, (hU1 _ _).mpr (seq_gen fun U2 hU2 => ?_)⟩
  clear hU1
  obtain ⟨c, ys, rfl, hc, nc, fys⟩ := fa.hdOk (by omega)
  have lys : ys.length = 5 := by have := fys.reps.length; simpa using this
  have sub0 : ∀ z, O D P' R ((g, a', b') :: r) [] z → O D P' R ((g, a', b') :: r) [a, b] z := fun z hz => hz.elim .inl fun w => absurd w (by simp)
  have st2 := st1.less (E' := []) (fun z hz => absurd hz (by simp))
  have fys2 := fys.sub sub0
  have nb2 : ¬ O D P' R ((g, a', b') :: r) [] b := fun z => z.elim nb (by simp)
  have okb : Fix K (O D P' R ((g, a', b') :: r) []) H1 (.lst (f.body.map dpS)) (.ref b) := Fix.lst fa.bd nb2 (fa.ok.sub sub0)
  walk_at "rd"
  intro p2 hp2
  have s2 := Same.new hp2 (.tup [.ref b])
  have t2 : (upd H1 p2 (.tup [.ref b])) p2 = some (.tup [.ref b]) := upd_same
  generalize upd H1 p2 (.tup [.ref b]) = H2 at *
  refine catT_i (s2 _ _ hc) t2 (by omega) (by simp) fun p3 hp3 => ?_
  have s3 := s2.trans (Same.new hp3 (.tup (ys ++ [.ref b])))
  have t3 : (upd H2 p3 (.tup (ys ++ [.ref b]))) p3 = some (.tup (ys ++ [.ref b])) := upd_same
  have n3 : p3 ∉ opn D P' R ((g, a', b') :: r) := (st2.same s2).fresh hp3
  generalize upd H2 p3 (.tup (ys ++ [.ref b])) = H3 at *
  refine (hU2 _ _).mpr (seq_gen fun U3 hU3 => ?_)
  clear hU2
  walk_at "rd"
  have k_if : (kdS f.kind = Str.ofString "if") ↔ f.kind = 1 := by
    rcases hk with h | h | h <;> rw [h] <;> simp [kdS] <;> decide +kernel
  have k_el : (kdS f.kind = Str.ofString "else") ↔ f.kind = 2 := by
    rcases hk with h | h | h <;> rw [h] <;> simp [kdS] <;> decide +kernel
  have third : ∀ (v : V) (H4 : Hp), Same H1 H4 → (f.kind ≠ 2 → Fix K (O D P' R ((g, a', b') :: r) []) H4 (dpS f.told) v) → U3 [some (V.ref P'), some (V.str (kdS f.kind)), some (V.ref b), some (V.ref c), some fi, some v] H4 := by
    intro v H4 s4 hv
    refine (hU3 _ _).mpr (seq_gen fun U4 hU4 => ?_)
    have last : ∀ (v : V) (H5 : Hp), Same H1 H5 → Fix K (O D P' R ((g, a', b') :: r) []) H5 (dpS f.told) v → U4 [some (V.ref P'), some (V.str (kdS f.kind)), some (V.ref b), some (V.ref c), some fi, some v] H5 := by
      intro v H5 s5 fv
      refine (hU4 _ _).mpr ?_
      have st5 := st2.same s5
      obtain ⟨hd', fi', xs', fg⟩ := st5.frames _ (List.mem_cons_self ..)
      have lg : xs'.length ≤ 1000 := by have := fg.len; simp only at this; omega
      walk_at "rd"
      have pl : H5 P' = some (.lst ((r.reverse.map fun x => V.ref x.2.1) ++ [.ref a'])) := by rw [st5.pile, List.reverse_cons, List.map_append]; rfl
      refine ⟨1, rfl, rIxL_i (v := .ref a') (.of pl) atI_last (rIxL_i (v := .ref b') (.of fg.fr) (atI_nat (j := 1) rfl) ⟨.inl ⟨rfl, _, .of fg.bd⟩, b', xs', v, rfl, rfl, fg.bd, by omega, ?_⟩)⟩
      refine q _ (fun z hz => ?_) (fun z o nz e => ?_) (st5.stm fg.bd fv)
      · by_cases e : z = b'
        · rw [e, upd_same]; simp
        · rw [upd_ne e]
          have h1 := kd z hz
          cases w : H1 z with
          | none => exact absurd w h1
          | some o => rw [s5 _ _ w]; simp
      · rw [upd_ne (fun w => nz (by rw [w]; simp [opn]))]
        exact s5 _ _ (kp z o nz e)
    walk_at "rd"
    refine ite2 (fun e2 => ?_) (fun e2 => last v H4 s4 (hv fun z => e2 (k_el.mpr z)))
    have k2 := k_el.mp e2
    intro p5 hp5
    have s5 := s4.trans (Same.new hp5 (.tup [fi, .ref b]))
    have t5 : (upd H4 p5 (.tup [fi, .ref b])) p5 = some (.tup [fi, .ref b]) := upd_same
    generalize upd H4 p5 (.tup [fi, .ref b]) = H5 at *
    refine catT_i (s5 _ _ hc) t5 (by omega) (by simp) fun p6 hp6 => ?_
    have s6 := s5.trans (Same.new hp6 (.tup (ys ++ [fi, .ref b])))
    have n6 : ¬ O D P' R ((g, a', b') :: r) [] p6 := fun z => z.elim ((st2.same s5).fresh hp6) (by simp)
    refine last _ _ s6 ?_
    have et : dpS f.told = .tup ([.str "if", .int f.k, .str (L2.S f.sg), dpT f.l, dpT f.r] ++ [.lst (f.first.map dpS), .lst (f.body.map dpS)]) := by
      unfold PG.Frame.told
      rw [if_neg (by omega), if_pos k2, dpS, dpSs_map, dpSs_map]
      rfl
    rw [et]
    have f5 := fys2
    rw [if_neg (by omega)] at f5
    refine Fix.tup upd_same n6 ?_
    exact fixs_app (f5.up (.of s6)) (.cons (((fa.fiOk k2).sub sub0).up (.of s6)) (.cons (okb.up (.of s6)) .nil))
  refine ite2 (fun e1 => ?_) (fun e1 => third _ H3 s3 fun hn2 => ?_)
  · have k1 := k_if.mp e1
    intro p4 hp4 p5 hp5
    have s4 := s3.trans (Same.new hp4 (.lst []))
    have t4 : (upd H3 p4 (.lst [])) p4 = some (.lst []) := upd_same
    have n4 : ¬ O D P' R ((g, a', b') :: r) [] p4 := fun z => z.elim ((st2.same s3).fresh hp4) (by simp)
    generalize upd H3 p4 (.lst []) = H4 at *
    have s5 := s4.trans (Same.new hp5 (.tup [.ref b, .ref p4]))
    have t45 := Same.new hp5 (.tup [.ref b, .ref p4]) _ _ t4
    have t5 : (upd H4 p5 (.tup [.ref b, .ref p4])) p5 = some (.tup [.ref b, .ref p4]) := upd_same
    generalize upd H4 p5 (.tup [.ref b, .ref p4]) = H5 at *
    refine catT_i (s5 _ _ hc) t5 (by omega) (by simp) fun p6 hp6 => ?_
    have s6 := s5.trans (Same.new hp6 (.tup (ys ++ [.ref b, .ref p4])))
    have t6 := Same.new hp6 (.tup (ys ++ [.ref b, .ref p4])) _ _ t45
    have n6 : ¬ O D P' R ((g, a', b') :: r) [] p6 := fun z => z.elim ((st2.same s5).fresh hp6) (by simp)
    refine third _ _ s6 fun _ => ?_
    have et : dpS f.told = .tup ([.str "if", .int f.k, .str (L2.S f.sg), dpT f.l, dpT f.r] ++ [.lst (f.body.map dpS), .lst []]) := by
      unfold PG.Frame.told
      rw [if_pos k1, dpS, dpSs_map]
      rfl
    rw [et]
    have f5 := fys2
    rw [if_neg (by omega)] at f5
    refine Fix.tup upd_same n6 ?_
    exact fixs_app (f5.up (.of s6)) (.cons (okb.up (.of s6)) (.cons (Fix.lst t6 n4 .nil) .nil))
  · have k3 : f.kind = 3 := by
      have : ¬ f.kind = 1 := fun z => e1 (k_if.mpr z)
      omega
    have et : dpS f.told = .tup ([.str "while", .int f.k, .str (L2.S f.sg), dpT f.l, dpT f.r] ++ [.lst (f.body.map dpS)]) := by
      unfold PG.Frame.told
      rw [if_neg (by omega), if_neg (by omega), dpS, dpSs_map]
      rfl
    rw [et]
    have f5 := fys2
    rw [if_pos k3] at f5
    exact Fix.tup t3 (fun z => z.elim n3 (by simp)) (fixs_app (f5.up (.of s3)) (.cons (okb.up (.of s3)) .nil))
theorem ok_program (T : Tx K mg t) : FnOk P w K mg base CX0 6 t.f__law_program t.fd__law_program ["deck", "many"] (spProgram K) := by
  have G__law_next : FnOk P w K mg base CX0 1 t.f__law_next t.fd__law_next ["deck"] (spNext K) := ok_next T
  have G__law_e := all_e (P := P) (w := w) (base := base) T 2
  have G__law_boxes := ok_boxes (P := P) (w := w) (base := base) T
  have G__law_plain := ok_plain (P := P) (w := w) (base := base) T
  have G__law_number := ok_number (P := P) (w := w) (base := base) T
  have G__law_close := ok_close (P := P) (w := w) (base := base) T
  refine T.D__law_program.F.okS sc__law_program (fun vs H Q E h => ?_) (fun cdv A outer s H vs Q E hr h => ?_)
  · obtain ⟨_, _, _, _, _, rfl, _⟩ := h
    rfl
  obtain ⟨D, S, sc, p, many, rfl, dk, hp, hm, q⟩ := h
  have nd := sc__law_program.nd
  refine ⟨_, [some (V.ref D), some (V.int many), none, none, none, none, none, none, none, none, none, none, none, none, none], (pss_cons (ps_set (i := 2) nd rfl (Or.inl rfl) (pe_call G__law_boxes (hr.mono (by omega)) rfl T.D__law_boxes.m T.D__law_boxes.F.kp T.D__law_boxes.b .nil pass0 (pa_cons (pv 0) pa_nil st_name)))
 (pss_cons (ps_set (i := 3) nd rfl (Or.inl rfl) (pe_lst (pa_cons (pe_lst (pa_cons pe_str (pa_cons (pe_lst pa_nil) (pa_cons pe_non (pa_cons pe_non pa_nil st_const) st_const) st_lst) st_const)) pa_nil st_lst)))
 (pss_cons (ps_set (i := 4) nd rfl (Or.inl rfl) (pe_lst pa_nil))
 (pss_cons (ps_set (i := 5) nd rfl (Or.inl rfl) (pe_op op_mod (pe_call G__law_next (hr.mono (by omega)) rfl T.D__law_next.m T.D__law_next.F.kp T.D__law_next.b .nil pass0 (pa_cons (pv 0) pa_nil st_name)) pe_int))
 (pss_cons (ps_for PassesOwn.never rfl (pi_range1 rfl T.z_range (pa_cons (pv 1) pa_nil st_name)) (pg_name (i := 6) nd rfl (Or.inl rfl))
 (pss_cons (ps_set (i := 7) nd rfl (Or.inl rfl) (pe_call G__law_number (hr.mono (by omega)) rfl T.D__law_number.m T.D__law_number.F.kp T.D__law_number.b .nil pass0 (pa_cons (pv 2) (pa_cons (pv 4) (pa_cons (pv 5) pa_nil st_name) st_name) st_name)))
 (pss_cons (ps_set (i := 8) nd rfl (Or.inl rfl) (pe_op op_mod (pe_call G__law_next (hr.mono (by omega)) rfl T.D__law_next.m T.D__law_next.F.kp T.D__law_next.b .nil pass0 (pa_cons (pv 0) pa_nil st_name)) pe_int))
 (pss_one (ps_if (PW.pt (pw_and (pt_cmpR op_lt (pv 8) pe_int (nomark _)) (pw_and1 (pt_cmpR op_gt (pe_callB call_len_seq rfl T.z_len PyProof.Rows.Boot.«len» (pa_cons (pv 3) pa_nil st_name)) pe_int (nomark _)))))
 (pss_cons (ps_expr (pe_call G__law_close (hr.mono (by omega)) rfl T.D__law_close.m T.D__law_close.F.kp T.D__law_close.b .nil pass0 (pa_cons (pv 3) pa_nil st_name)))
 (pss_one (ps_expr (pe_bm PySem.F.plainAttrs_list PySem.F.slot_list_append PySem.F.type_list_append mt_append (pv 4) (pa_cons (pe_lst (pa_cons (pv 7) (pa_cons pe_str pa_nil st_const) st_name)) pa_nil st_lst)))))
 (pss_one (ps_if (PW.pt (pw_and (pt_cmpR op_eq (pv 8) pe_int (nomark _)) (pw_and1 (pt_cmpR op_eq (pe_ix ix_list (pe_ix ix_list (pv 3) (pe_un un_neg pe_int) pl_un) pe_int pl_const) pe_str (nomark _)))))
 (pss_cons (ps_asg (pe_bm0 PySem.F.plainAttrs_list PySem.F.slot_list_pop PySem.F.type_list_pop mt_pop (pv 3)) (pg_lst rfl (pgs_cons (pg_name (i := 9) nd rfl (Or.inl rfl)) (pgs_cons (pg_name (i := 10) nd rfl (Or.inl rfl)) (pgs_cons (pg_name (i := 11) nd rfl (Or.inl rfl)) (pgs_cons (pg_name (i := 12) nd rfl (Or.inl rfl)) pgs_nil))))))
 (pss_cons (ps_expr (pe_bm PySem.F.plainAttrs_list PySem.F.slot_list_append PySem.F.type_list_append mt_append (pv 3) (pa_cons (pe_lst (pa_cons pe_str (pa_cons (pe_lst pa_nil) (pa_cons (pv 11) (pa_cons (pv 10) pa_nil st_name) st_name) st_lst) st_const)) pa_nil st_lst)))
 (pss_one (ps_expr (pe_bm PySem.F.plainAttrs_list PySem.F.slot_list_append PySem.F.type_list_append mt_append (pv 4) (pa_cons (pe_lst (pa_cons (pv 7) (pa_cons pe_str pa_nil st_const) st_name)) pa_nil st_lst))))))
 (pss_one (ps_if (PW.pt (pw_and (pt_cmpR op_lt (pv 8) pe_int (nomark _)) (pw_and1 (pt_cmpR op_lt (pe_callB call_len_seq rfl T.z_len PyProof.Rows.Boot.«len» (pa_cons (pv 3) pa_nil st_name)) pe_int (nomark _)))))
 (pss_cons (ps_set (i := 13) nd rfl (Or.inl rfl) (pe_ix ix_list (pe_lst (pa_consts (vs := [.str "if", .str "if", .str "while"]) (by kernel_rfl))) (pe_op op_mod (pv 8) pe_int) pl_bin))
 (pss_cons (ps_set (i := 14) nd rfl (Or.inl rfl) (pe_tup (pa_cons (pe_ix ix_str pe_str (pe_op op_mod (pe_call G__law_next (hr.mono (by omega)) rfl T.D__law_next.m T.D__law_next.F.kp T.D__law_next.b .nil pass0 (pa_cons (pv 0) pa_nil st_name)) pe_int) pl_bin) (pa_cons (pe_call G__law_e (hr.mono (by omega)) rfl T.D__law_e.m T.D__law_e.F.kp T.D__law_e.b .nil pass0 (pa_cons (pv 0) (pa_cons (pv 2) (pa_cons pe_int pa_nil st_const) st_name) st_name)) (pa_cons (pe_call G__law_e (hr.mono (by omega)) rfl T.D__law_e.m T.D__law_e.F.kp T.D__law_e.b .nil pass0 (pa_cons (pv 0) (pa_cons (pv 2) (pa_cons pe_int pa_nil st_const) st_name) st_name)) pa_nil st_call) st_call) st_sub)))
 (pss_cons (ps_expr (pe_bm PySem.F.plainAttrs_list PySem.F.slot_list_append PySem.F.type_list_append mt_append (pv 3) (pa_cons (pe_lst (pa_cons (pv 13) (pa_cons (pe_lst pa_nil) (pa_cons (pe_op op_catT (pe_tup (pa_cons (pv 13) (pa_cons (pv 7) pa_nil st_name) st_name)) (pv 14)) (pa_cons pe_non pa_nil st_const) st_bin) st_lst) st_name)) pa_nil st_lst)))
 (pss_one (ps_expr (pe_bm PySem.F.plainAttrs_list PySem.F.slot_list_append PySem.F.type_list_append mt_append (pv 4) (pa_cons (pe_lst (pa_cons (pv 7) (pa_cons (pv 13) pa_nil st_name) st_name)) pa_nil st_lst)))))))
 (pss_cons (ps_expr (pe_bm PySem.F.plainAttrs_list PySem.F.slot_list_append PySem.F.type_list_append mt_append (pe_ix ix_list (pe_ix ix_list (pv 3) (pe_un un_neg pe_int) pl_un) pe_int pl_const) (pa_cons (pe_call G__law_plain (hr.mono (by omega)) rfl T.D__law_plain.m T.D__law_plain.F.kp T.D__law_plain.b .nil pass0 (pa_cons (pv 0) (pa_cons (pv 2) (pa_cons (pv 7) pa_nil st_name) st_name) st_name)) pa_nil st_call)))
 (pss_one (ps_expr (pe_bm PySem.F.plainAttrs_list PySem.F.slot_list_append PySem.F.type_list_append mt_append (pv 4) (pa_cons (pe_lst (pa_cons (pv 7) (pa_cons (pe_ix ix_tup (pe_ix ix_list (pe_ix ix_list (pe_ix ix_list (pv 3) (pe_un un_neg pe_int) pl_un) pe_int pl_const) (pe_un un_neg pe_int) pl_un) pe_int pl_const) pa_nil st_sub) st_name)) pa_nil st_lst))))))))))))))
 (pss_cons (ps_while PassesOwn.never (pt_cmpR op_gt (pe_callB call_len_seq rfl T.z_len PyProof.Rows.Boot.«len» (pa_cons (pv 3) pa_nil st_name)) pe_int (nomark _))
 (pss_cons (ps_expr (pe_call G__law_close (hr.mono (by omega)) rfl T.D__law_close.m T.D__law_close.F.kp T.D__law_close.b .nil pass0 (pa_cons (pv 3) pa_nil st_name)))
 (pss_one (ps_expr (pe_bm PySem.F.plainAttrs_list PySem.F.slot_list_append PySem.F.type_list_append mt_append (pv 4) (pa_cons (pe_lst (pa_cons (pe_call G__law_number (hr.mono (by omega)) rfl T.D__law_number.m T.D__law_number.F.kp T.D__law_number.b .nil pass0 (pa_cons (pv 2) (pa_cons (pv 4) (pa_cons (pv 5) pa_nil st_name) st_name) st_name)) (pa_cons pe_str pa_nil st_const) st_call)) pa_nil st_lst))))))
 (pss_one (ps_ret (pe_lst (pa_cons (pe_tup (pa_cons (pv 2) (pa_cons (pe_ix ix_list (pe_ix ix_list (pv 3) pe_int pl_const) pe_int pl_const) pa_nil st_sub) st_name)) (pa_cons (pv 4) pa_nil st_name) st_tup)))))))))), rfl, ?_⟩
  have line : sizeLine = 2 ^ 24 := rfl
  have hDn : H D ≠ none := by rw [dk.deck]; simp
  refine seq_gen fun U1 hU1 => ?_
  walk_at "rd"
  refine ⟨D, S, sc, p, rfl, dk, by omega, fun B H1 u1 dk1 hB ow1 => (hU1 _ _).mpr (seq_gen fun U2 hU2 => ?_)⟩
  clear hU1
  unfold PG.genProg at q
  simp only at q
  generalize hbs : PG.genBoxes sc (PG.next sc p % 4) (PG.next sc (p + 1) % 5).toNat 0 (p + 2) = bs at *
  have k1 : Kept D H H1 := ⟨u1, u1.dom (by rw [dk1.deck]; simp)⟩
  have bx1 : Fix K (· = D) H1 (.lst (bs.1.map dpBox)) (.ref B) := ow1 _ fun b hb => by rw [show b = D from hb]; exact hDn
  walk_at "rd"
  intro b0 hb0
  have x1 := bx1.apart (o := .lst []) hb0
  have y1 : (upd H1 b0 (.lst [])) b0 = some (.lst []) := upd_same
  have s1 := Same.new hb0 (.lst [])
  have dk2 := dk1.same s1
  have k2 := k1.same s1
  have e1 : H b0 = none := by
    cases z : H b0 with
    | none => rfl
    | some o => exact absurd hb0 (k1.2 b0 (by rw [z]; simp))
  generalize upd H1 b0 (.lst []) = H2 at *
  intro a0 ha0
  have x2 := x1.apart (o := .lst [V.str (Str.ofString "all"), V.ref b0, V.non, V.non]) ha0
  have s2 := Same.new ha0 (.lst [V.str (Str.ofString "all"), V.ref b0, V.non, V.non])
  have y2 : (upd H2 a0 (.lst [V.str (Str.ofString "all"), V.ref b0, V.non, V.non])) a0 = some (.lst [V.str (Str.ofString "all"), V.ref b0, V.non, V.non]) := upd_same
  have y1 := s2 _ _ y1
  have nab : a0 ≠ b0 := fun z => by rw [z] at ha0; rw [‹H2 b0 = some (HO.lst [])›] at ha0; cases ha0
  have dk3 := dk2.same s2
  have k3 := k2.same s2
  have e2 : H a0 = none := by
    cases z : H a0 with
    | none => rfl
    | some o => exact absurd ha0 (k2.2 a0 (by rw [z]; simp))
  generalize upd H2 a0 (.lst [V.str (Str.ofString "all"), V.ref b0, V.non, V.non]) = H3 at *
  intro P' hP
  have x3 := x2.apart (o := .lst [V.ref a0]) hP
  have s3 := Same.new hP (.lst [V.ref a0])
  have y3 : (upd H3 P' (.lst [V.ref a0])) P' = some (.lst [V.ref a0]) := upd_same
  have nPa : a0 ≠ P' := ne_of_none y2 hP
  have nPb : b0 ≠ P' := ne_of_none y1 hP
  have nPD : D ≠ P' := ne_of_none dk3.deck hP
  have nPS : S ≠ P' := ne_of_none dk3.script hP
  have y2 := s3 _ _ y2
  have y1 := s3 _ _ y1
  have nDb : D ≠ b0 := ne_of_none dk1.deck hb0
  have nSb : S ≠ b0 := ne_of_none dk1.script hb0
  have nDa : D ≠ a0 := ne_of_none dk2.deck ha0
  have nSa : S ≠ a0 := ne_of_none dk2.script ha0
  have dk4 := dk3.same s3
  have k4 := k3.same s3
  have e3 : H P' = none := by
    cases z : H P' with
    | none => rfl
    | some o => exact absurd hP (k3.2 P' (by rw [z]; simp))
  generalize upd H3 P' (.lst [V.ref a0]) = H4 at *
  refine (hU2 _ _).mpr (seq_gen fun U3 hU3 => ?_)
  clear hU2
  walk_at "rd"
  intro R hR
  have x4 := x3.apart (o := .lst []) hR
  have s4 := Same.new hR (.lst [])
  have y4 : (upd H4 R (.lst [])) R = some (.lst []) := upd_same
  have nRa : a0 ≠ R := ne_of_none y2 hR
  have nRb : b0 ≠ R := ne_of_none y1 hR
  have nRP : P' ≠ R := ne_of_none y3 hR
  have nRD : D ≠ R := ne_of_none dk4.deck hR
  have nRS : S ≠ R := ne_of_none dk4.script hR
  have y1 := s4 _ _ y1
  have y2 := s4 _ _ y2
  have y3 := s4 _ _ y3
  have dk5 := dk4.same s4
  have k5 := k4.same s4
  have e4 : H R = none := by
    cases z : H R with
    | none => rfl
    | some o => exact absurd hR (k4.2 R (by rw [z]; simp))
  generalize upd H4 R (.lst []) = H5 at *
  obtain ⟨bl, bp⟩ : bs.1.length ≤ 10 ∧ bs.2 ≤ p + 20 := by
    obtain ⟨l1, l2⟩ := PG.genBoxes_len sc (PG.next sc p % 4) (PG.next sc (p + 1) % 5).toNat 0 (p + 2)
    rw [hbs] at l1 l2
    have := PG.next_b sc (p + 1)
    omega
  have st0 : PSt K H5 D S sc bs.2 B bs.1 P' R [({ kind := 0, body := [] }, a0, b0)] [] [] := by
    refine ⟨dk5, x4.sub fun z hz => ?_, bl, y3, fun x hx => ?_, ⟨[], y4, .nil, rfl⟩, ?_, ?_⟩
    · rcases hz with hz | hz
      · simp only [opn, List.flatMap_cons, List.flatMap_nil, List.append_nil, List.mem_cons, List.not_mem_nil, or_false] at hz
        rcases hz with rfl | rfl | rfl | rfl | rfl
        · exact .inl (.inl (.inl (.inl rfl)))
        · exact .inl (.inr rfl)
        · exact .inr rfl
        · exact .inl (.inl (.inr rfl))
        · exact .inl (.inl (.inl (.inr rfl)))
      · cases hz
    · rw [List.mem_singleton.mp hx]
      exact ⟨.non, .non, [], y2, y1, .nil, fun z => absurd rfl z, fun z => absurd z (show ¬ (0 = 2) by decide), rfl⟩
    · simp only [opn, List.flatMap_cons, List.flatMap_nil, List.append_nil, List.nodup_cons, List.mem_cons, List.not_mem_nil, or_false, not_or, not_false_eq_true, List.nodup_nil, and_true]
      exact ⟨⟨nPD, nRD, nDa, nDb⟩, ⟨nRP, nPa.symm, nPb.symm⟩, ⟨nRa.symm, nRb.symm⟩, nab⟩
    · simp only [opn, List.flatMap_cons, List.flatMap_nil, List.append_nil, List.mem_cons, List.not_mem_nil, or_false, not_or]
      exact ⟨dk5.ne, nPS, nRS, nSa, nSb⟩
  refine (hU3 _ _).mpr (seq_gen fun U4 hU4 => ?_)
  clear hU3 x1 x2 x3 x4
  walk_at "rd"
  refine ⟨D, S, sc, bs.2, rfl, dk5, by omega, fun H6 u6 dk6 => ?_⟩
  walk_at "rd"
  have k6 := k5.up u6 (by rw [dk6.deck]; simp)
  have st6 := st0.draw u6 dk6
  clear st0
  generalize PG.next sc bs.2 % 4 = mode at *
  refine (hU4 _ _).mpr (seq_gen fun U5 hU5 => ?_)
  clear hU4
  generalize hw0 : (⟨bs.2 + 1, [{ kind := 0, body := [] }], []⟩ : PG.Walk) = w0 at *
  have ok0 : PG.WalkOk w0 := by rw [← hw0]; exact ⟨rfl, rfl, by simp⟩
  have len0 : PG.LenOk 0 w0 := by rw [← hw0]; exact ⟨fun f hf => by rw [List.mem_singleton.mp hf]; exact Nat.le_refl _, Nat.le_refl _⟩
  refine for_gen1 fun U hU => ?_
  walk_at "rd"
  refine ⟨_, rfl, by omega, by omega, hU _ _ ?_⟩
  clear hU
  rw [Int.toNat_natCast]
  obtain ⟨Pv, hPv⟩ : ∃ Pv : Nat → St → Hp → Prop, ∀ i σ H7, Pv i σ H7 ↔ ∃ (z6 z7 z8 z9 z10 z11 z12 z13 z14 : Option V) (frs : List Fra), σ = [some (V.ref D), some (V.int many), some (V.ref B), some (V.ref P'), some (V.ref R), some (V.int mode), z6, z7, z8, z9, z10, z11, z12, z13, z14] ∧
      frs.map (·.1) = (PG.turns sc bs.1 mode i w0).pile ∧ PSt K H7 D S sc (PG.turns sc bs.1 mode i w0).p B bs.1 P' R frs (PG.turns sc bs.1 mode i w0).rows [] ∧ Kept D H H7 ∧ PG.WalkOk (PG.turns sc bs.1 mode i w0) ∧ PG.LenOk i (PG.turns sc bs.1 mode i w0) ∧ (PG.turns sc bs.1 mode i w0).p ≤ 200 + 20 * i ∧
      ∀ x ∈ frs, H x.2.1 = none ∧ H x.2.2 = none := ⟨_, fun _ _ _ => Iff.rfl⟩
  refine for_range (lo := 0) (n := many) Pv ?_ ?_ ?_
  · refine (hPv _ _ _).mpr ⟨none, none, none, none, none, none, none, none, none, [({ kind := 0, body := [] }, a0, b0)], rfl, ?_, ?_, k6, ok0, len0, ?_, fun x hx => by rw [List.mem_singleton.mp hx]; exact ⟨e2, e1⟩⟩
    · show _ = w0.pile
      rw [← hw0]; rfl
    · show PSt K H6 D S sc w0.p B bs.1 P' R _ w0.rows []
      rw [← hw0]; exact st6
    · show w0.p ≤ _
      rw [← hw0]
      simp only
      omega
  · intro i σ H7 hi hv
    obtain ⟨z6, z7, z8, z9, z10, z11, z12, z13, z14, frs, rfl, ef, st, kp, ok, ln, pb, fr0⟩ := (hPv _ _ _).mp hv
    clear hv
    rw [Int.zero_add]
    have done := fun σ H7 => (hPv (i + 1) σ H7).mpr
    rw [PG.turns_succ] at done
    have ok' := PG.turn_ok sc bs.1 mode ok
    have ln' := PG.turn_len sc bs.1 mode ln
    have pb' := (PG.turn_p sc bs.1 mode (PG.turns sc bs.1 mode i w0)).2
    generalize PG.turns sc bs.1 mode i w0 = wk at *
    obtain ⟨pp, pile, rows⟩ := wk
    simp only at ef st pb pb'
    have rl : rows.length ≤ i := ln.2
    cases pile with
    | nil => exact ok.pile.elim
    | cons f r =>
    cases frs with
    | nil => cases ef
    | cons x0 fr =>
    obtain ⟨f', a, b⟩ := x0
    simp only [List.map_cons, List.cons.injEq] at ef
    obtain ⟨rfl, ef⟩ := ef
    have lfr : fr.length = r.length := by rw [← ef, List.length_map]
    rw [PG.turn_eq] at done ok' ln' pb'
    simp only [gName, List.set]
    refine seq_gen fun U6 hU6 => ?_
    walk_at "rd"
    obtain ⟨rvs, hR7, fR, lR⟩ := st.rows
    refine ⟨B, R, bs.1, rows, mode, rfl, st.box.rep, Rep.lst_iff.mpr ⟨R, rvs, rfl, .of hR7, fR.reps⟩, bl, by omega, fun H8 s8 => (hU6 _ _).mpr (seq_gen fun U7 hU7 => ?_)⟩
    clear hU6
    have st8 := st.same s8
    have kp8 := kp.same s8
    generalize PG.number bs.1.length rows mode = k at *
    walk_at "rd"
    refine ⟨D, S, sc, pp, rfl, st8.deck, by omega, fun H9 u9 dk9 => ?_⟩
    walk_at "rd"
    refine (hU7 _ _).mpr ?_
    clear hU7
    have st9 := st8.draw u9 dk9
    have kp9 := kp8.up u9 (by rw [dk9.deck]; simp)
    obtain ⟨w0', w1'⟩ := PG.next_b sc pp
    generalize hway : PG.next sc pp % 12 = way at *
    have way0 : 0 ≤ way ∧ way < 12 := by omega
    clear st st8 s8 u9
    have notOpn : ∀ (frs : List Fra), (∀ x ∈ frs, H x.2.1 = none ∧ H x.2.2 = none) → ∀ z o, z ≠ D → H z = some o → z ∉ opn D P' R frs := by
      intro frs hf z o nz e hz
      simp only [opn, List.mem_cons, List.mem_flatMap] at hz
      rcases hz with hz | rfl | rfl | ⟨x, hx, hz⟩
      · exact nz hz
      · rw [e3] at e; cases e
      · rw [e4] at e; cases e
      · simp only [List.not_mem_nil, or_false] at hz
        rcases hz with rfl | rfl
        · rw [(hf x hx).1] at e; cases e
        · rw [(hf x hx).2] at e; cases e
    have addRow : ∀ (H10 : Hp) (w : PG.Wd) (frs : List Fra) (pq : Nat) (M : Hp → Prop), PSt K H10 D S sc pq B bs.1 P' R frs rows [] → Kept D H H10 → (∀ H11, PSt K H11 D S sc pq B bs.1 P' R frs (rows ++ [(k, w)]) [] → Kept D H H11 → M H11) →
        tyV K "list" (V.ref R) H10 ∧ ∀ q, H10 q = none → rAppend (V.ref R) [V.ref q] (upd H10 q (.lst [.int k, .str (wdS w)])) fun _ H1 => M H1 := by
      intro H10 w frs pq M s10 k10 hM
      obtain ⟨rv, hr, _, lr⟩ := s10.rows
      refine ⟨.inl ⟨rfl, _, .of hr⟩, fun q hq => ?_⟩
      have s11 := s10.same (Same.new hq (.lst [.int k, .str (wdS w)]))
      have k11 := k10.same (Same.new hq (.lst [.int k, .str (wdS w)]))
      have hr11 := Same.new hq (.lst [.int k, .str (wdS w)]) _ _ hr
      refine ⟨R, rv, _, rfl, rfl, hr11, by omega, hM _ (s11.row hr11 (k := k) (w := w) (q := q) upd_same fun z => z.elim (s10.fresh hq) (by simp)) (k11.put e4 _)⟩
    have lp : ((f', a, b) :: fr : List Fra).reverse.map (fun x => V.ref x.2.1) = (fr.reverse.map fun x => V.ref x.2.1) ++ [.ref a] := by rw [List.reverse_cons, List.map_append]; rfl
    have subO : ∀ (fs : List Fra) z, O D P' R fs [] z → z ∈ opn D P' R fs := fun fs z hz => hz.elim id (by simp)
    refine ifs_gen fun V1 hV1 => ?_
    have c1 : ¬ (way < 2 ∧ (f' :: r).length > 1) → V1 [some (V.ref D), some (V.int many), some (V.ref B), some (V.ref P'), some (V.ref R), some (V.int mode), some (V.int i), some (V.int k), some (V.int way), z9, z10, z11, z12, z13, z14] H9 := by
      intro h1
      rw [if_neg h1] at done ok' ln' pb'
      refine hV1 _ _ (ifs_gen fun V2 hV2 => ?_)
      have c2 : ¬ (way = 2 ∧ f'.kind = 1) → V2 [some (V.ref D), some (V.int many), some (V.ref B), some (V.ref P'), some (V.ref R), some (V.int mode), some (V.int i), some (V.int k), some (V.int way), z9, z10, z11, z12, z13, z14] H9 := by
        intro h2
        rw [if_neg h2] at done ok' ln' pb'
        refine hV2 _ _ (ifs_gen fun V3 hV3 => ?_)
        have c3 : ¬ (way < 6 ∧ (f' :: r).length < 4) → V3 [some (V.ref D), some (V.int many), some (V.ref B), some (V.ref P'), some (V.ref R), some (V.int mode), some (V.int i), some (V.int k), some (V.int way), z9, z10, z11, z12, z13, z14] H9 := by
          intro h3
          rw [if_neg h3] at done ok' ln' pb'
          refine hV3 _ _ ?_
          walk_at "rd"
          have pl9 := st9.pile
          rw [lp] at pl9
          obtain ⟨hd, fi, xs, fa⟩ := st9.frames _ (List.mem_cons_self ..)
          refine ⟨1, rfl, rIxL_i (v := .ref a) (.of pl9) atI_last (rIxL_i (v := .ref b) (.of fa.fr) (atI_nat (j := 1) rfl) ⟨.inl ⟨rfl, _, .of fa.bd⟩, ?_⟩)⟩
          refine ⟨D, S, B, sc, pp + 1, k, bs.1, rfl, st9.deck, by omega, st9.boxes, fun v H10 u10 dk10 ow10 => ?_⟩
          have st10 := st9.draw u10 dk10
          have k10 := kp9.up u10 (by rw [dk10.deck]; simp)
          obtain ⟨hd2, fi2, xs2, fa2⟩ := st10.frames _ (List.mem_cons_self ..)
          have fv : Fix K (O D P' R ((f', a, b) :: fr) []) H10 (dpS (PG.genPlain sc bs.1 k (pp + 1)).1) v := ow10 _ fun z hz => st9.dom z (subO _ z hz)
          have l2 : xs2.length ≤ 1000 := by have := fa2.len; have := ln.1 f' (by simp); simp only at *; omega
          refine ⟨b, xs2, v, rfl, rfl, fa2.bd, by omega, ?_⟩
          have st11 := st10.stm fa2.bd fv
          have k11 := k10.put (fr0 (f', a, b) (by simp)).2 (.lst (xs2 ++ [v]))
          have rv11 : Rep K (upd H10 b (.lst (xs2 ++ [v]))) (dpS (PG.genPlain sc bs.1 k (pp + 1)).1) v := (fv.up (UptoS.refl.put (.inl (by simp [opn])) _)).rep
          have bd11 : (upd H10 b (.lst (xs2 ++ [v]))) b = some (.lst (xs2 ++ [v])) := upd_same
          have pl11 := st11.pile
          obtain ⟨hd3, fi3, xs3, fa3⟩ := st11.frames _ (List.mem_cons_self ..)
          have fr11 := fa3.fr
          generalize upd H10 b (.lst (xs2 ++ [v])) = H11 at *
          have pe : ((({ f' with body := f'.body ++ [(PG.genPlain sc bs.1 k (pp + 1)).1] } : PG.Frame), a, b) :: fr : List Fra).reverse.map (fun x => V.ref x.2.1) = (fr.reverse.map fun x => V.ref x.2.1) ++ [.ref a] := by rw [List.reverse_cons, List.map_append]; rfl
          rw [pe] at pl11
          obtain ⟨ta, ys, rfl, hta⟩ := dpS_word _ rv11
          have ar := addRow H11 (PG.genPlain sc bs.1 k (pp + 1)).1.wd _ _ (fun H12 => Pv (i + 1) [some (V.ref D), some (V.int many), some (V.ref B), some (V.ref P'), some (V.ref R), some (V.int mode), some (V.int i), some (V.int k), some (V.int way), z9, z10, z11, z12, z13, z14] H12) st11 k11 fun H12 st12 k12 => done _ _ ⟨_, _, _, _, _, _, _, _, _, _, rfl, by simp only [List.map_cons, ef], st12, k12, ok', ln', by omega, fun x hx => by
            rcases List.mem_cons.mp hx with rfl | hx
            · exact fr0 (f', a, b) (by simp)
            · exact fr0 x (by simp [hx])⟩
          exact ⟨ar.1, 1, rfl, rIxL_i (v := .ref a) (.of pl11) atI_last (rIxL_i (v := .ref b) (.of fr11) (atI_nat (j := 1) rfl) ⟨1, rfl, rIxL_i (v := .ref ta) (.of bd11) atI_last (rIxT_i hta (atI_nat (j := 0) rfl) ar.2)⟩)⟩
        walk_at "rd"
        refine ite2 (fun w6 => ⟨P', _, rfl, .inl (.of st9.pile), ite2 (fun l4 => ?_) (fun l4 => c3 fun z => l4 ?_)⟩) (fun w6 => (if_neg Bool.false_ne_true).mpr (c3 fun z => w6 z.1))
        · rw [lp, List.length_append, List.length_map, List.length_reverse, lfr] at l4
          have cond : way < 6 ∧ (f' :: r).length < 4 := ⟨w6, by simp only [List.length_cons, List.length_nil] at l4 ⊢; omega⟩
          rw [if_pos cond] at done ok' ln' pb'
          intro p1 hp1
          have s10 := Same.new hp1 (.lst [V.str (Str.ofString "if"), V.str (Str.ofString "if"), V.str (Str.ofString "while")])
          have st10 := st9.same s10
          have k10 := kp9.same s10
          have wk : ∀ z : Int, 0 ≤ z → z < 3 → atI [V.str (Str.ofString "if"), V.str (Str.ofString "if"), V.str (Str.ofString "while")] z = some (V.str (kdS (PG.pick 1 [1, 1, 3] z))) ∧ (PG.pick 1 [1, 1, 3] z = 1 ∨ PG.pick 1 [1, 1, 3] z = 3) := fun z h0 h3 => by
            have z3 : z = 0 ∨ z = 1 ∨ z = 2 := by omega
            rcases z3 with rfl | rfl | rfl
            · exact ⟨atI_nat (j := 0) rfl, .inl rfl⟩
            · exact ⟨atI_nat (j := 1) rfl, .inl rfl⟩
            · exact ⟨atI_nat (j := 2) rfl, .inr rfl⟩
          obtain ⟨wk1, wk2⟩ := wk (way % 3) (by omega) (by omega)
          refine rIxL_new wk1 ?_
          generalize upd H9 p1 (.lst [V.str (Str.ofString "if"), V.str (Str.ofString "if"), V.str (Str.ofString "while")]) = H10 at *
          generalize PG.pick 1 [1, 1, 3] (way % 3) = kd at *
          have wd : (if kd = 3 then ("while" : Str) else "if") = kdS kd ∧ wdS (if kd = 3 then PG.Wd.whl else PG.Wd.ifs) = kdS kd := by
            rcases wk2 with rfl | rfl <;> exact ⟨rfl, rfl⟩
          refine ⟨D, S, sc, pp + 1, rfl, st10.deck, by omega, fun H11 u11 dk11 => ?_⟩
          have st11 := st10.draw u11 dk11
          have k11 := k10.up u11 (by rw [dk11.deck]; simp)
          obtain ⟨m0, m1⟩ := PG.next_b sc (pp + 1)
          walk_at "rd"
          have sg : ∀ z : Int, 0 ≤ z → z < 2 → ∃ c, atI (Str.ofString "<=").cps.toList z = some c ∧ V.str ⟨#[c]⟩ = V.str (L2.S (PG.pick [] PG.sgs z)) := fun z h0 h3 => by
            have z3 : z = 0 ∨ z = 1 := by omega
            rcases z3 with rfl | rfl
            · exact ⟨60, atI_nat (j := 0) (by decide +kernel), rfl⟩
            · exact ⟨61, atI_nat (j := 1) (by decide +kernel), rfl⟩
          obtain ⟨c, hc, ec⟩ := sg (PG.next sc (pp + 1) % 2) (by omega) (by omega)
          refine ⟨_, _, c, rfl, rfl, by decide, hc, ?_⟩
          rw [ec]
          obtain ⟨g1, g2⟩ := PG.genE_p sc bs.1 1 (pp + 2)
          refine ⟨D, S, B, sc, pp + 2, 1, bs.1, rfl, by omega, st11.deck, by omega, st11.boxes, fun v3 H12 u12 dk12 ow12 => ?_⟩
          have st12 := st11.draw u12 dk12
          have k12 := k11.up u12 (by rw [dk12.deck]; simp)
          have f3 : Fix K (O D P' R ((f', a, b) :: fr) []) H12 (dpT (PG.genE sc bs.1 1 (pp + 2)).1) v3 := ow12 _ fun z hz => st11.dom z (subO _ z hz)
          obtain ⟨g3, g4⟩ := PG.genE_p sc bs.1 1 (PG.genE sc bs.1 1 (pp + 2)).2
          refine ⟨D, S, B, sc, _, 1, bs.1, rfl, by omega, st12.deck, by omega, st12.boxes, fun v4 H13 u13 dk13 ow13 t0 ht0 => ?_⟩
          have st13 := st12.draw u13 dk13
          have k13 := k12.up u13 (by rw [dk13.deck]; simp)
          have f4 : Fix K (O D P' R ((f', a, b) :: fr) []) H13 (dpT (PG.genE sc bs.1 1 (PG.genE sc bs.1 1 (pp + 2)).2).1) v4 := ow13 _ fun z hz => st12.dom z (subO _ z hz)
          have f3 := f3.up (UptoS.one u13 (.inl (by simp [opn])))
          generalize PG.genE sc bs.1 1 (PG.genE sc bs.1 1 (pp + 2)).2 = ge2 at *
          generalize PG.genE sc bs.1 1 (pp + 2) = ge1 at *
          generalize PG.pick [] PG.sgs (PG.next sc (pp + 1) % 2) = sgn at *
          have s14 := Same.new ht0 (.tup [V.str (L2.S sgn), v3, v4])
          have y14 : (upd H13 t0 (.tup [V.str (L2.S sgn), v3, v4])) t0 = some (.tup [V.str (L2.S sgn), v3, v4]) := upd_same
          have st14 := st13.same s14
          have k14 := k13.same s14
          have f3 := f3.up (.of s14)
          have f4 := f4.up (.of s14)
          generalize upd H13 t0 (.tup [V.str (L2.S sgn), v3, v4]) = H14 at *
          refine ⟨.inl ⟨rfl, _, .of st14.pile⟩, fun b2 hb2 => ?_⟩
          have s15 := Same.new hb2 (.lst [])
          have st15 := st14.more hb2 (.lst [])
          have f3 := f3.apart (o := .lst []) hb2
          have f4 := f4.apart (o := .lst []) hb2
          have nb2 : b2 ∉ opn D P' R ((f', a, b) :: fr) := st14.fresh hb2
          have nSb2 : S ≠ b2 := ne_of_none st14.deck.script hb2
          have y15 : (upd H14 b2 (.lst [])) b2 = some (.lst []) := upd_same
          have k15 := k14.same s15
          have hb2H : H b2 = none := by
            cases z : H b2 with
            | none => rfl
            | some o => exact absurd hb2 (k14.2 b2 (by rw [z]; simp))
          have y14 := s15 _ _ y14
          generalize upd H14 b2 (.lst []) = H15 at *
          intro t1 ht1
          have s16 := Same.new ht1 (.tup [V.str (kdS kd), V.int k])
          have y16 : (upd H15 t1 (.tup [V.str (kdS kd), V.int k])) t1 = some (.tup [V.str (kdS kd), V.int k]) := upd_same
          have st16 := st15.same s16
          have k16 := k15.same s16
          have f3 := f3.up (.of s16)
          have f4 := f4.up (.of s16)
          have y15 := s16 _ _ y15
          have y14 := s16 _ _ y14
          generalize upd H15 t1 (.tup [V.str (kdS kd), V.int k]) = H16 at *
          refine catT_i y16 y14 (by simp) (by simp) fun t2 ht2 => ?_
          have s17 := Same.new ht2 (.tup ([V.str (kdS kd), V.int k] ++ [V.str (L2.S sgn), v3, v4]))
          have y17 : (upd H16 t2 (.tup ([V.str (kdS kd), V.int k] ++ [V.str (L2.S sgn), v3, v4]))) t2 = some (.tup ([V.str (kdS kd), V.int k] ++ [V.str (L2.S sgn), v3, v4])) := upd_same
          have st17 := st16.same s17
          have k17 := k16.same s17
          have f3 := f3.up (.of s17)
          have f4 := f4.up (.of s17)
          have nt2 : t2 ∉ opn D P' R ((f', a, b) :: fr) := st16.fresh ht2
          have nt2b : t2 ≠ b2 := fun z => by rw [z, y15] at ht2; cases ht2
          have y15 := s17 _ _ y15
          generalize upd H16 t2 (.tup ([V.str (kdS kd), V.int k] ++ [V.str (L2.S sgn), v3, v4])) = H17 at *
          intro a2 ha2
          have s18 := Same.new ha2 (.lst [V.str (kdS kd), V.ref b2, V.ref t2, V.non])
          have st18 := st17.more ha2 (.lst [V.str (kdS kd), V.ref b2, V.ref t2, V.non])
          have f3 := f3.apart (o := .lst [V.str (kdS kd), V.ref b2, V.ref t2, V.non]) ha2
          have f4 := f4.apart (o := .lst [V.str (kdS kd), V.ref b2, V.ref t2, V.non]) ha2
          have na2 : a2 ∉ opn D P' R ((f', a, b) :: fr) := st17.fresh ha2
          have nSa2 : S ≠ a2 := ne_of_none st17.deck.script ha2
          have nab2 : a2 ≠ b2 := fun z => by rw [z, y15] at ha2; cases ha2
          have nt2a : t2 ≠ a2 := ne_of_none y17 ha2
          have y18 : (upd H17 a2 (.lst [V.str (kdS kd), V.ref b2, V.ref t2, V.non])) a2 = some (.lst [V.str (kdS kd), V.ref b2, V.ref t2, V.non]) := upd_same
          have k18 := k17.same s18
          have ha2H : H a2 = none := by
            cases z : H a2 with
            | none => rfl
            | some o => exact absurd ha2 (k17.2 a2 (by rw [z]; simp))
          have y15 := s18 _ _ y15
          have y17 := s18 _ _ y17
          generalize upd H17 a2 (.lst [V.str (kdS kd), V.ref b2, V.ref t2, V.non]) = H18 at *
          have j : ∀ z, O D P' R ((f', a, b) :: fr) [a2, b2] z → ((O D P' R ((f', a, b) :: fr) [] z ∨ z = b2) ∨ z = a2) := fun z hz => by
            rcases hz with h | h
            · exact .inl (.inl (.inl h))
            · simp only [List.mem_cons, List.not_mem_nil, or_false] at h
              rcases h with h | h
              · exact .inr h
              · exact .inl (.inr h)
          have nf : FrameAt K (O D P' R ((f', a, b) :: fr) [a2, b2]) H18 ({ kind := kd, body := [], k := k, sg := sgn, l := ge1.1, r := ge2.1 } : PG.Frame) a2 b2 (.ref t2) .non [] := by
            refine ⟨y18, y15, .nil, fun _ => ⟨t2, _, rfl, y17, fun z => ?_, ?_⟩, fun z => ?_, rfl⟩
            · rcases z with z | z
              · exact nt2 z
              · simp only [List.mem_cons, List.not_mem_nil, or_false] at z
                exact z.elim nt2a nt2b
            · show Fixs K _ _ [.str (if kd = 3 then "while" else "if"), .int k, .str (L2.S sgn), dpT ge1.1, dpT ge2.1] _
              rw [wd.1]
              exact .cons .str (.cons .int (.cons .str (.cons (f3.sub j) (.cons (f4.sub j) .nil))))
            · have z : kd = 2 := z
              omega
          have st19 := (st18.push nf na2 nb2 nab2 nSa2 nSb2 (by simp) (by simp)).less (E' := []) (fun z hz => absurd hz (by simp))
          have k19 := k18.put e3 (.lst (((f', a, b) :: fr : List Fra).reverse.map (fun x => V.ref x.2.1) ++ [.ref a2]))
          refine ⟨P', _, _, rfl, rfl, st18.pile, by rw [List.length_map, List.length_reverse]; have := ok.most; simp only [List.length_cons] at this ⊢; omega, ?_⟩
          have ar := addRow _ (if kd = 3 then PG.Wd.whl else PG.Wd.ifs) _ _ (fun H20 => Pv (i + 1) [some (V.ref D), some (V.int many), some (V.ref B), some (V.ref P'), some (V.ref R), some (V.int mode), some (V.int i), some (V.int k), some (V.int way), z9, z10, z11, z12, some (V.str (kdS kd)), some (V.ref t0)] H20) st19 k19 fun H20 st20 k20 => done _ _ ⟨_, _, _, _, _, _, _, _, _, _, rfl, by simp only [List.map_cons, ef], st20, k20, ok', ln', by omega, fun x hx => by
            rcases List.mem_cons.mp hx with rfl | hx
            · exact ⟨ha2H, hb2H⟩
            · exact fr0 x hx⟩
          rw [wd.2] at ar
          exact ar
        · rw [lp, List.length_append, List.length_map, List.length_reverse, lfr]
          have := z.2
          simp only [List.length_cons, List.length_nil] at this ⊢
          omega
      walk_at "rd"
      have pl9 := st9.pile
      rw [lp] at pl9
      obtain ⟨hd0, fi0, xs0, fa0⟩ := st9.frames _ (List.mem_cons_self ..)
      have kk : (V.str (kdS f'.kind) = V.str (Str.ofString "if")) ↔ f'.kind = 1 := by
        have : f'.kind = 0 ∨ f'.kind = 1 ∨ f'.kind = 2 ∨ f'.kind = 3 := by
          have z := ok.pile
          cases r with
          | nil => exact .inl z
          | cons g r2 => exact .inr z.1
        rcases this with h | h | h | h <;> rw [h] <;> decide +kernel
      refine ite2 (fun w2 => ⟨1, rfl, rIxL_i (v := .ref a) (.of pl9) atI_last (rIxL_i (v := .str (kdS f'.kind)) (.of fa0.fr) (atI_nat (j := 0) rfl) ⟨rfl, ite2 (fun kf => ?_) (fun kf => c2 fun z => kf (kk.mpr z.2))⟩)⟩) (fun w2 => (if_neg Bool.false_ne_true).mpr (c2 fun z => w2 z.1))
      have kd1 := kk.mp kf
      rw [if_pos ⟨w2, kd1⟩] at done ok' ln' pb'
      obtain ⟨st10, ⟨hd, fi, xs, fa⟩, na, nb, nab⟩ := st9.pop
      have k10 := kp9.put e3 (.lst (fr.reverse.map fun x => V.ref x.2.1))
      refine ⟨.inl ⟨rfl, _, .of st9.pile⟩, P', _, .ref a, rfl, rfl, st9.pile, by rw [lp]; simp, ?_⟩
      rw [lp, List.dropLast_concat]
      generalize upd H9 P' (.lst (fr.reverse.map fun x => V.ref x.2.1)) = H10 at *
      obtain ⟨cc, ys, rfl, hcc, ncc, fys⟩ := fa.hdOk (by omega)
      have sub0 : ∀ z, O D P' R fr [] z → O D P' R fr [a, b] z := fun z hz => hz.elim .inl fun w => absurd w (by simp)
      have st10 := st10.less (E' := []) (fun z hz => absurd hz (by simp))
      have fys := fys.sub sub0
      have ncc : ¬ O D P' R fr [] cc := fun z => ncc (sub0 cc z)
      have okb : Fix K (O D P' R fr []) H10 (.lst (f'.body.map dpS)) (.ref b) := Fix.lst fa.bd (fun z => z.elim nb (by simp)) (fa.ok.sub sub0)
      refine ⟨a, _, rfl, .of fa.fr, rfl, _, _, rfl, _, _, rfl, _, _, rfl, _, _, rfl, rfl, .inl ⟨rfl, _, .of st10.pile⟩, fun b2 hb2 => ?_⟩
      have s15 := Same.new hb2 (.lst [])
      have st15 := st10.more hb2 (.lst [])
      have f3 := fys.apart (o := .lst []) hb2
      have f4 := okb.apart (o := .lst []) hb2
      have nb2 : b2 ∉ opn D P' R fr := st10.fresh hb2
      have nSb2 : S ≠ b2 := ne_of_none st10.deck.script hb2
      have y15 : (upd H10 b2 (.lst [])) b2 = some (.lst []) := upd_same
      have k15 := k10.same s15
      have hb2H : H b2 = none := by
        cases z : H b2 with
        | none => rfl
        | some o => exact absurd hb2 (k10.2 b2 (by rw [z]; simp))
      have ncb : cc ≠ b2 := ne_of_none hcc hb2
      have hcc := s15 _ _ hcc
      generalize upd H10 b2 (.lst []) = H15 at *
      intro a2 ha2
      have s18 := Same.new ha2 (.lst [V.str (Str.ofString "else"), V.ref b2, V.ref cc, V.ref b])
      have st18 := st15.more ha2 (.lst [V.str (Str.ofString "else"), V.ref b2, V.ref cc, V.ref b])
      have f3 := f3.apart (o := .lst [V.str (Str.ofString "else"), V.ref b2, V.ref cc, V.ref b]) ha2
      have f4 := f4.apart (o := .lst [V.str (Str.ofString "else"), V.ref b2, V.ref cc, V.ref b]) ha2
      have na2 : a2 ∉ opn D P' R fr := st15.fresh ha2
      have nSa2 : S ≠ a2 := ne_of_none st15.deck.script ha2
      have nab2 : a2 ≠ b2 := fun z => by rw [z, y15] at ha2; cases ha2
      have nca : cc ≠ a2 := ne_of_none hcc ha2
      have y18 : (upd H15 a2 (.lst [V.str (Str.ofString "else"), V.ref b2, V.ref cc, V.ref b])) a2 = some (.lst [V.str (Str.ofString "else"), V.ref b2, V.ref cc, V.ref b]) := upd_same
      have k18 := k15.same s18
      have ha2H : H a2 = none := by
        cases z : H a2 with
        | none => rfl
        | some o => exact absurd ha2 (k15.2 a2 (by rw [z]; simp))
      have y15 := s18 _ _ y15
      have hcc := s18 _ _ hcc
      generalize upd H15 a2 (.lst [V.str (Str.ofString "else"), V.ref b2, V.ref cc, V.ref b]) = H18 at *
      have j : ∀ z, O D P' R fr [a2, b2] z → ((O D P' R fr [] z ∨ z = b2) ∨ z = a2) := fun z hz => by
        rcases hz with h | h
        · exact .inl (.inl (.inl h))
        · simp only [List.mem_cons, List.not_mem_nil, or_false] at h
          rcases h with h | h
          · exact .inr h
          · exact .inl (.inr h)
      have nf : FrameAt K (O D P' R fr [a2, b2]) H18 ({ f' with kind := 2, body := [], first := f'.body } : PG.Frame) a2 b2 (.ref cc) (.ref b) [] := by
        refine ⟨y18, y15, .nil, fun _ => ⟨cc, ys, rfl, hcc, fun z => ?_, ?_⟩, fun _ => f4.sub j, rfl⟩
        · rcases j cc z with (z | z) | z
          · exact ncc z
          · exact ncb z
          · exact nca z
        · have f5 := f3.sub j
          rw [if_neg (by omega)] at f5
          exact f5
      have st19 := (st18.push nf na2 nb2 nab2 nSa2 nSb2 (by simp) (by simp)).less (E' := []) (fun z hz => absurd hz (by simp))
      have k19 := k18.put e3 (.lst ((fr.reverse.map fun x => V.ref x.2.1) ++ [.ref a2]))
      refine ⟨P', _, _, rfl, rfl, st18.pile, by rw [List.length_map, List.length_reverse]; have := ok.most; simp only [List.length_cons] at this ⊢; omega, ?_⟩
      exact addRow _ .els _ _ (fun H20 => Pv (i + 1) [some (V.ref D), some (V.int many), some (V.ref B), some (V.ref P'), some (V.ref R), some (V.int mode), some (V.int i), some (V.int k), some (V.int way), some (V.str (kdS f'.kind)), some (V.ref b), some (V.ref cc), some fi, z13, z14] H20) st19 k19 fun H20 st20 k20 => done _ _ ⟨_, _, _, _, _, _, _, _, _, _, rfl, by simp only [List.map_cons, ef], st20, k20, ok', ln', by omega, fun x hx => by
        rcases List.mem_cons.mp hx with rfl | hx
        · exact ⟨ha2H, hb2H⟩
        · exact fr0 x (by simp [hx])⟩
    walk_at "rd"
    refine ite2 (fun w2 => ⟨P', _, rfl, .inl (.of st9.pile), ite2 (fun l2 => ?_) (fun l2 => c1 fun z => l2 ?_)⟩) (fun w2 => (if_neg Bool.false_ne_true).mpr (c1 fun z => w2 z.1))
    · rw [lp, List.length_append, List.length_map, List.length_reverse] at l2
      cases fr with
      | nil => simp at l2
      | cons x1 fr2 =>
        obtain ⟨g, a', b'⟩ := x1
        cases r with
        | nil => cases ef
        | cons g' r2 =>
        simp only [List.map_cons, List.cons.injEq] at ef
        obtain ⟨rfl, ef⟩ := ef
        have cond : way < 2 ∧ (f' :: g :: r2).length > 1 := ⟨w2, by simp⟩
        rw [if_pos cond] at done ok' ln' pb'
        have m4 := ok.most
        simp only [List.length_cons] at m4 lfr
        refine ⟨D, S, sc, pp + 1, B, bs.1, P', R, f', g, a, b, a', b', fr2, rows, rfl, st9, ok.pile.1, by have := ln.1 g (by simp); omega, by omega, fun H10 d10 kp10 st10 => ?_⟩
        have k10 : Kept D H H10 := ⟨fun z o nz e => kp10 z o (notOpn _ fr0 z o nz e) (kp9.1 z o nz e), fun z hz => d10 z (kp9.2 z hz)⟩
        refine addRow H10 .fin _ _ _ st10 k10 fun H11 st11 k11 => done _ _ ⟨_, _, _, _, _, _, _, _, _, _, rfl, ?_, st11, k11, ok', ln', by omega, fun x hx => ?_⟩
        · simp only [List.map_cons, ef]
          rfl
        · rcases List.mem_cons.mp hx with rfl | hx
          · exact fr0 (g, a', b') (by simp)
          · exact fr0 x (by simp [hx])
    · rw [lp, List.length_append, List.length_map, List.length_reverse]
      have := z.2
      simp only [List.length_cons, List.length_nil] at this ⊢
      omega
  · intro σ H7 hv
    obtain ⟨z6, z7, z8, z9, z10, z11, z12, z13, z14, frs, rfl, ef, st, kp, ok, ln, pb, fr0⟩ := (hPv _ _ _).mp hv
    clear hv
    generalize PG.turns sc bs.1 mode many w0 = wk at *
    show U5 _ H7
    refine (hU5 _ _).mpr (seq_gen fun U6 hU6 => ?_)
    walk_at "rd"
    refine ⟨fun m σ H8 => ∃ (frs : List Fra) (wk' : PG.Walk), σ = [some (V.ref D), some (V.int many), some (V.ref B), some (V.ref P'), some (V.ref R), some (V.int mode), z6, z7, z8, z9, z10, z11, z12, z13, z14] ∧ frs.map (·.1) = wk'.pile ∧ PSt K H8 D S sc wk'.p B bs.1 P' R frs wk'.rows [] ∧ Kept D H H8 ∧ PG.WalkOk wk' ∧ PG.LenOk (many + 4 - m) wk' ∧
        PG.ends bs.1.length mode 4 wk = PG.ends bs.1.length mode m wk' ∧ wk'.pile.length ≤ m + 1 ∧ m ≤ 4 ∧ ∀ x ∈ frs, H x.2.1 = none ∧ H x.2.2 = none, ⟨4, frs, wk, rfl, ef, st, kp, ok, by rw [show many + 4 - 4 = many by omega]; exact ln, rfl, by have := ok.most; omega, Nat.le_refl _, fr0⟩, ?_⟩
    rintro m σ H8 ⟨frs, wk', rfl, ef, st, kp, ok, ln, ee, pl, m4, fr0⟩
    walk_at "rd"
    refine ⟨P', _, rfl, .inl (.of st.pile), ?_⟩
    rw [List.length_map, List.length_reverse]
    have lf : frs.length = wk'.pile.length := by rw [← ef, List.length_map]
    refine ite2 (fun l1 => ?_) (fun l1 => ?_)
    · obtain ⟨n, rfl⟩ : ∃ n, m = n + 1 := ⟨m - 1, by omega⟩
      refine ⟨fun σ H9 => ∃ (frs : List Fra), σ = [some (V.ref D), some (V.int many), some (V.ref B), some (V.ref P'), some (V.ref R), some (V.int mode), z6, z7, z8, z9, z10, z11, z12, z13, z14] ∧ frs.map (·.1) = PG.close wk'.pile ∧ PSt K H9 D S sc wk'.p B bs.1 P' R frs (wk'.rows ++ [(PG.number bs.1.length wk'.rows mode, .fin)]) [] ∧ Kept D H H9 ∧ ∀ x ∈ frs, H x.2.1 = none ∧ H x.2.2 = none, ?_, ?_⟩
      · rintro σ H9 ⟨frs9, rfl, ef9, st9, k9, fr9⟩
        obtain ⟨_, cl⟩ := PG.close_ok ok.pile
        refine ⟨n, by omega, frs9, ⟨wk'.p, PG.close wk'.pile, wk'.rows ++ [(PG.number bs.1.length wk'.rows mode, .fin)]⟩, rfl, ef9, st9, k9, PG.close_walk ok _, ?_, ?_, ?_, by omega, fr9⟩
        · have := PG.close_len ln (PG.number bs.1.length wk'.rows mode)
          rw [show many + 4 - n = many + 4 - (n + 1) + 1 by omega]
          exact this
        · rw [ee]
          conv => lhs; unfold PG.ends
          rw [if_pos (by omega)]
        · show (PG.close wk'.pile).length ≤ n + 1
          omega
      · obtain ⟨pp, pile, rows⟩ := wk'
        simp only at *
        have rl : rows.length ≤ 200 := by have := ln.2; simp only at this; omega
        match frs, pile, ef, lf with
        | (f', a, b) :: (g, a', b') :: fr2, pile, ef, lf =>
          simp only [List.map_cons] at ef
          subst ef
          have m4' := ok.most
          simp only [List.length_cons, List.length_map] at m4'
          refine ⟨D, S, sc, pp, B, bs.1, P', R, f', g, a, b, a', b', fr2, rows, rfl, st, ok.pile.1, by have := ln.1 g (by simp); omega, by omega, fun H10 d10 kp10 st10 => ?_⟩
          have notOpn : ∀ (frs : List Fra), (∀ x ∈ frs, H x.2.1 = none ∧ H x.2.2 = none) → ∀ z o, z ≠ D → H z = some o → z ∉ opn D P' R frs := by
            intro frs hf z o nz e hz
            simp only [opn, List.mem_cons, List.mem_flatMap] at hz
            rcases hz with hz | rfl | rfl | ⟨x, hx, hz⟩
            · exact nz hz
            · rw [e3] at e; cases e
            · rw [e4] at e; cases e
            · simp only [List.not_mem_nil, or_false] at hz
              rcases hz with rfl | rfl
              · rw [(hf x hx).1] at e; cases e
              · rw [(hf x hx).2] at e; cases e
          have k10 : Kept D H H10 := ⟨fun z o nz e => kp10 z o (notOpn _ fr0 z o nz e) (kp.1 z o nz e), fun z hz => d10 z (kp.2 z hz)⟩
          obtain ⟨rv, hr2, fR, lr⟩ := st10.rows
          refine ⟨.inl ⟨rfl, _, .of hr2⟩, B, R, bs.1, rows, mode, rfl, st10.box.rep, Rep.lst_iff.mpr ⟨R, rv, rfl, .of hr2, fR.reps⟩, bl, by omega, fun H11 s11 q2 hq2 => ?_⟩
          have s12 := s11.trans (Same.new hq2 (.lst [.int (PG.number bs.1.length rows mode), .str (wdS .fin)]))
          have st12 := st10.same s12
          have k12 := k10.same s12
          have hr12 := s12 _ _ hr2
          refine ⟨R, rv, _, rfl, rfl, hr12, by omega, ?_⟩
          have nq2 : ¬ O D P' R (({ g with body := g.body ++ [f'.told] }, a', b') :: fr2) [] q2 := fun z => z.elim ((st10.same s11).fresh hq2) (by simp)
          refine ⟨_, trivial, ?_, st12.row hr12 (k := PG.number bs.1.length rows mode) (w := .fin) (q := q2) upd_same nq2, k12.put e4 _, fun x hx => ?_⟩
          · simp only [List.map_cons]
            rfl
          · rcases List.mem_cons.mp hx with rfl | hx
            · exact fr0 (g, a', b') (by simp)
            · exact fr0 x (by simp [hx])
    · have en : PG.ends bs.1.length mode m wk' = wk' := by
        cases m with
        | zero => rfl
        | succ m => unfold PG.ends; rw [if_neg (by omega)]
      rw [en] at ee
      rw [ee] at q
      refine (hU6 _ _).mpr ?_
      walk_at "rd"
      obtain ⟨pp, pile, rows⟩ := wk'
      simp only at *
      match frs, pile, ef, lf, ok, q with
      | [], pile, ef, lf, ok, q => cases ef; exact ok.pile.elim
      | [(f', a, b)], pile, ef, lf, ok, q =>
        cases ef
        obtain ⟨hd, fi, xs, fa⟩ := st.frames _ (List.mem_cons_self ..)
        obtain ⟨rv, hr2, fR, lr⟩ := st.rows
        refine rIxL_i (v := .ref a) (.of st.pile) (atI_nat (j := 0) rfl) (rIxL_i (v := .ref b) (.of fa.fr) (atI_nat (j := 1) rfl) fun t1 ht1 => ?_)
        have s9 := Same.new ht1 (.tup [V.ref B, V.ref b])
        have y9 : (upd H8 t1 (.tup [V.ref B, V.ref b])) t1 = some (.tup [V.ref B, V.ref b]) := upd_same
        have st9 := st.same s9
        have k9 := kp.same s9
        have rb := st.box.rep.mono s9
        have rbd : Rep K (upd H8 t1 (.tup [V.ref B, V.ref b])) (.lst (f'.body.map dpS)) (.ref b) := Rep.lst_iff.mpr ⟨b, xs, rfl, .of (s9 _ _ fa.bd), fa.ok.reps.mono s9⟩
        have rrw : Rep K (upd H8 t1 (.tup [V.ref B, V.ref b])) (.lst (rows.map dpRow)) (.ref R) := Rep.lst_iff.mpr ⟨R, rv, rfl, .of (s9 _ _ hr2), fR.reps.mono s9⟩
        generalize upd H8 t1 (.tup [V.ref B, V.ref b]) = H9 at *
        intro l2 hl2
        have s10 := Same.new hl2 (.lst [V.ref t1, V.ref R])
        have k10 := k9.same s10
        refine q _ _ k10.1 ⟨_, st9.deck.same s10⟩ ?_
        unfold dpPR
        refine Rep.lst_iff.mpr ⟨l2, _, rfl, .of upd_same, .cons ?_ (.cons (rrw.mono s10) .nil)⟩
        unfold dpProg
        exact Rep.tup_iff.mpr ⟨t1, _, rfl, .of (s10 _ _ y9), .cons (rb.mono s10) (.cons (rbd.mono s10) .nil)⟩
      | x :: y :: r, pile, ef, lf, ok, q => exact absurd (by simp only [List.length_cons]; omega) l1
theorem wd_whl : ∀ s : PG.Stm, (V.str (wdS s.wd) = V.str (Str.ofString "while")) ↔ s.wd = .whl := by
  intro s
  cases s <;> simp only [PG.Stm.wd] <;> decide +kernel
theorem wd_ifs : ∀ s : PG.Stm, (V.str (wdS s.wd) = V.str (Str.ofString "if")) ↔ s.wd = .ifs := by
  intro s
  cases s <;> simp only [PG.Stm.wd] <;> decide +kernel
theorem wd_stop : ∀ s : PG.Stm, (V.str (wdS s.wd) = V.str (Str.ofString "stop")) ↔ s.wd = .stop := by
  intro s
  cases s <;> simp only [PG.Stm.wd] <;> decide +kernel
theorem reps7 {K : PySem.W.Frag} {H : Hp} {d0 d1 d2 d3 d4 d5 : Dp} {xs : List V} {ds : List Dp} (h : Reps K H (d0 :: d1 :: d2 :: d3 :: d4 :: d5 :: ds) xs) : ∃ v0 v1 v2 v3 v4 v5 r, xs = v0 :: v1 :: v2 :: v3 :: v4 :: v5 :: r ∧ Rep K H d5 v5 ∧ Reps K H ds r := by
  rw [Reps.cons_iff] at h
  obtain ⟨v0, t0, rfl, _, h⟩ := h
  rw [Reps.cons_iff] at h
  obtain ⟨v1, t1, rfl, _, h⟩ := h
  rw [Reps.cons_iff] at h
  obtain ⟨v2, t2, rfl, _, h⟩ := h
  rw [Reps.cons_iff] at h
  obtain ⟨v3, t3, rfl, _, h⟩ := h
  rw [Reps.cons_iff] at h
  obtain ⟨v4, t4, rfl, _, h⟩ := h
  rw [Reps.cons_iff] at h
  obtain ⟨v5, t5, rfl, e5, h⟩ := h
  exact ⟨v0, v1, v2, v3, v4, v5, t5, rfl, e5, h⟩
theorem ok_first_row (T : Tx K mg t) : FnOk P w K mg base CX0 1 t.f_first_row t.fd_first_row ["body", "behind"] (spFirst K) := by
  refine T.D_first_row.F.okS sc_first_row (fun vs H Q E h => ?_) (fun cdv A outer s H vs Q E hr h => ?_)
  · obtain ⟨_, _, _, rfl, _⟩ := h
    rfl
  obtain ⟨b, body, x, rfl, rb, lb, q⟩ := h
  have nd := sc_first_row.nd
  refine ⟨_, [some (V.ref b), some (V.int x)], (pss_cons (ps_if (pt_truth (pv 0) (fun _ => rfl))
 (pss_one (ps_ret (pe_ix ix_tup (pe_ix ix_list (pv 0) pe_int pl_const) pe_int pl_const)))
 pss_nil)
 (pss_one (ps_ret (pv 1)))), rfl, ?_⟩
  walk_at "rd"
  rw [Rep.lst_iff] at rb
  obtain ⟨_, xs, e, hx, rs⟩ := rb
  cases e
  have line : sizeLine = 2 ^ 24 := rfl
  cases body with
  | nil =>
    rw [List.map_nil, Reps.nil_iff] at rs
    subst rs
    exact ⟨false, .inl ⟨_, hx, rfl⟩, q⟩
  | cons st r =>
    rw [List.map_cons, Reps.cons_iff] at rs
    obtain ⟨v, t, rfl, rv, rs⟩ := rs
    obtain ⟨a, ys, rfl, hs⟩ := stm_parts st rv
    refine ⟨true, .inl ⟨_, hx, rfl⟩, ?_⟩
    refine (if_pos rfl).mpr (rIxL_i (v := .ref a) hx (atI_nat (j := 0) rfl) ?_)
    exact rIxT_i hs (v := .int st.row) (atI_nat (j := 1) rfl) q
theorem ok_behind_body (T : Tx K mg t) : FnOk P w K mg base CX0 1 t.f_behind_body t.fd_behind_body ["statement", "after"] (spBehind K) := by
  refine T.D_behind_body.F.okS sc_behind_body (fun vs H Q E h => ?_) (fun cdv A outer s H vs Q E hr h => ?_)
  · obtain ⟨_, _, _, rfl, _⟩ := h
    rfl
  obtain ⟨v, st, x, rfl, rv, q⟩ := h
  have nd := sc_behind_body.nd
  refine ⟨_, [some v, some (V.int x)], (pss_cons (ps_if (pt_cmpR op_eq (pe_ix ix_tup (pv 0) pe_int pl_const) pe_str (nomark _))
 (pss_one (ps_ret (pe_ix ix_tup (pv 0) pe_int pl_const)))
 pss_nil)
 (pss_one (ps_ret (pv 1)))), rfl, ?_⟩
  obtain ⟨a, ys, rfl, hs⟩ := stm_parts st rv
  walk_at "rd"
  refine rIxT_i hs (atI_nat (j := 0) rfl) ⟨rfl, ite2 (fun e => ?_) (fun e => ?_)⟩
  · have ew := (wd_whl st).mp e
    refine rIxT_i hs (v := .int st.row) (atI_nat (j := 1) rfl) ?_
    cases st <;> first | exact q | cases ew
  · have ew : st.wd ≠ .whl := fun z => e ((wd_whl st).mpr z)
    cases st <;> first | exact q | exact absurd rfl ew
theorem ok_bodies_in (T : Tx K mg t) : FnOk P w K mg base CX0 1 t.f_bodies_in t.fd_bodies_in ["statement"] (spBodies K) := by
  refine T.D_bodies_in.F.okS sc_bodies_in (fun vs H Q E h => ?_) (fun cdv A outer s H vs Q E hr h => ?_)
  · obtain ⟨_, _, _, rfl, _⟩ := h
    rfl
  obtain ⟨v, st, H0, rfl, rv, s0, q⟩ := h
  have nd := sc_bodies_in.nd
  refine ⟨_, [some v], (pss_cons (ps_if (pt_cmpR op_eq (pe_ix ix_tup (pv 0) pe_int pl_const) pe_str (nomark _))
 (pss_one (ps_ret (pe_lst (pa_cons (pe_ix ix_tup (pv 0) pe_int pl_const) (pa_cons (pe_ix ix_tup (pv 0) pe_int pl_const) pa_nil st_sub) st_sub))))
 pss_nil)
 (pss_cons (ps_if (pt_cmpR op_eq (pe_ix ix_tup (pv 0) pe_int pl_const) pe_str (nomark _))
 (pss_one (ps_ret (pe_lst (pa_cons (pe_ix ix_tup (pv 0) pe_int pl_const) pa_nil st_sub))))
 pss_nil)
 (pss_one (ps_ret (pe_lst pa_nil))))), rfl, ?_⟩
  obtain ⟨a, ys, rfl, hs⟩ := stm_parts st rv
  have hs := s0.seqT hs
  walk_at "rd"
  refine rIxT_i hs (atI_nat (j := 0) rfl) ⟨rfl, ite2 (fun e => ?_) (fun e => rIxT_i hs (atI_nat (j := 0) rfl) ⟨rfl, ite2 (fun e2 => ?_) (fun e2 => ?_)⟩)⟩
  · have ew := (wd_ifs st).mp e
    cases st <;> first | (exfalso; cases ew; done) | skip
    rename_i k sg l r x y
    rw [dpS, Rep.tup_iff] at rv
    obtain ⟨_, xs, e0, hx, rs⟩ := rv
    cases e0
    obtain ⟨v0, v1, v2, v3, v4, v5, rr, rfl, r5, rs⟩ := reps7 rs
    rw [Reps.cons_iff] at rs
    obtain ⟨v6, t6, rfl, r6, _⟩ := rs
    refine rIxT_i (s0.seqT hx) (v := v5) (atI_nat (j := 5) rfl) (rIxT_i (s0.seqT hx) (v := v6) (atI_nat (j := 6) rfl) fun p hp => ?_)
    rw [dpSs_map] at r5 r6
    exact q p _ _ (Same.new hp _) hp upd_same (.cons r5 (.cons r6 .nil))
  · have ew := (wd_whl st).mp e2
    cases st <;> first | (exfalso; cases ew; done) | skip
    rename_i k sg l r x
    rw [dpS, Rep.tup_iff] at rv
    obtain ⟨_, xs, e0, hx, rs⟩ := rv
    cases e0
    obtain ⟨v0, v1, v2, v3, v4, v5, rr, rfl, r5, rs⟩ := reps7 rs
    refine rIxT_i (s0.seqT hx) (v := v5) (atI_nat (j := 5) rfl) fun p hp => ?_
    rw [dpSs_map] at r5
    exact q p _ _ (Same.new hp _) hp upd_same (.cons r5 .nil)
  · intro p hp
    have e1 : st.wd ≠ .ifs := fun z => e ((wd_ifs st).mpr z)
    have e2' : st.wd ≠ .whl := fun z => e2 ((wd_whl st).mpr z)
    refine q p [] _ (Same.new hp _) hp upd_same ?_
    cases st <;> first | exact .nil | exact absurd rfl e1 | exact absurd rfl e2'
theorem ok_ways_of (T : Tx K mg t) : FnOk P w K mg base CX0 2 t.f_ways_of t.fd_ways_of ["statement", "after"] (spWays K) := by
  have G_first_row : FnOk P w K mg base CX0 1 t.f_first_row t.fd_first_row ["body", "behind"] (spFirst K) := ok_first_row T
  refine T.D_ways_of.F.okS sc_ways_of (fun vs H Q E h => ?_) (fun cdv A outer s H vs Q E hr h => ?_)
  · obtain ⟨_, _, _, rfl, _⟩ := h
    rfl
  obtain ⟨v, st, x, rfl, rv, hl, q⟩ := h
  have nd := sc_ways_of.nd
  obtain ⟨u_END, m_END, r_END⟩ := T.mg_END
  refine ⟨_, [some v, some (V.int x), none], (pss_cons (ps_set (i := 2) nd rfl (Or.inl rfl) (pe_ix ix_tup (pv 0) pe_int pl_const))
 (pss_cons (ps_if (pt_cmpR op_eq (pv 2) pe_str (nomark _))
 (pss_one (ps_ret (pe_tup (pa_cons (pe_glob rfl m_END r_END) pa_nil st_name))))
 pss_nil)
 (pss_cons (ps_if (pt_cmpR op_eq (pv 2) pe_str (nomark _))
 (pss_one (ps_ret (pe_tup (pa_cons (pe_call G_first_row (hr.mono (by omega)) rfl T.D_first_row.m T.D_first_row.F.kp T.D_first_row.b .nil pass0 (pa_cons (pe_ix ix_tup (pv 0) pe_int pl_const) (pa_cons (pv 1) pa_nil st_name) st_sub)) (pa_cons (pe_call G_first_row (hr.mono (by omega)) rfl T.D_first_row.m T.D_first_row.F.kp T.D_first_row.b .nil pass0 (pa_cons (pe_ix ix_tup (pv 0) pe_int pl_const) (pa_cons (pv 1) pa_nil st_name) st_sub)) pa_nil st_call) st_call))))
 pss_nil)
 (pss_cons (ps_if (pt_cmpR op_eq (pv 2) pe_str (nomark _))
 (pss_one (ps_ret (pe_tup (pa_cons (pe_call G_first_row (hr.mono (by omega)) rfl T.D_first_row.m T.D_first_row.F.kp T.D_first_row.b .nil pass0 (pa_cons (pe_ix ix_tup (pv 0) pe_int pl_const) (pa_cons (pe_ix ix_tup (pv 0) pe_int pl_const) pa_nil st_sub) st_sub)) (pa_cons (pv 1) pa_nil st_name) st_call))))
 pss_nil)
 (pss_one (ps_ret (pe_tup (pa_cons (pv 1) pa_nil st_name)))))))), rfl, ?_⟩
  obtain ⟨a, ys, rfl, hs⟩ := stm_parts st rv
  refine seq_gen fun U1 hU1 => ?_
  walk_at "rd"
  refine rIxT_i hs (atI_nat (j := 0) rfl) ((hU1 _ _).mpr ?_)
  walk_at "rd"
  have bodyS : ∀ b ∈ bodiesOf st, b.length ≤ 100000 := hl
  refine ite2 (fun e => ?_) (fun e => ite2 (fun e1 => ?_) (fun e1 => ite2 (fun e2 => ?_) (fun e2 => ?_)))
  · have ew := (wd_stop st).mp (by rw [e])
    cases st <;> first | (exfalso; cases ew; done) | skip
    intro p hp
    exact q _ _ (Same.new hp _) (Rep.new hp (.cons (Rep.int_iff.mpr rfl) .nil))
  · have ew := (wd_ifs st).mp (by rw [e1])
    cases st <;> first | (exfalso; cases ew; done) | skip
    rename_i k sg l r y z
    rw [dpS, Rep.tup_iff] at rv
    obtain ⟨_, xs, e0, hx, rs⟩ := rv
    cases e0
    obtain ⟨v0, v1, v2, v3, v4, v5, rr, rfl, r5, rs⟩ := reps7 rs
    rw [Reps.cons_iff] at rs
    obtain ⟨v6, t6, rfl, r6, _⟩ := rs
    rw [dpSs_map] at r5 r6
    obtain ⟨a5, _, rfl, _⟩ := Rep.lst_iff.mp r5
    obtain ⟨a6, _, rfl, _⟩ := Rep.lst_iff.mp r6
    refine rIxT_i hx (v := .ref a5) (atI_nat (j := 5) rfl) ⟨a5, y, x, rfl, r5, bodyS y (by simp [bodiesOf]), rIxT_i hx (v := .ref a6) (atI_nat (j := 6) rfl) ⟨a6, z, x, rfl, r6, bodyS z (by simp [bodiesOf]), fun p hp => ?_⟩⟩
    exact q _ _ (Same.new hp _) (Rep.new hp (.cons (Rep.int_iff.mpr rfl) (.cons (Rep.int_iff.mpr rfl) .nil)))
  · have ew := (wd_whl st).mp (by rw [e2])
    cases st <;> first | (exfalso; cases ew; done) | skip
    rename_i k sg l r y
    rw [dpS, Rep.tup_iff] at rv
    obtain ⟨_, xs, e0, hx, rs⟩ := rv
    cases e0
    obtain ⟨v0, v1, v2, v3, v4, v5, rr, rfl, r5, rs⟩ := reps7 rs
    rw [dpSs_map] at r5
    obtain ⟨a5, _, rfl, _⟩ := Rep.lst_iff.mp r5
    refine rIxT_i hx (v := .ref a5) (atI_nat (j := 5) rfl) (rIxT_i hs (v := .int k) (atI_nat (j := 1) rfl) ⟨a5, y, k, rfl, r5, bodyS y (by simp [bodiesOf]), fun p hp => ?_⟩)
    exact q _ _ (Same.new hp _) (Rep.new hp (.cons (Rep.int_iff.mpr rfl) (.cons (Rep.int_iff.mpr rfl) .nil)))
  · intro p hp
    have n1 : st.wd ≠ .stop := fun z => e (V.str.inj ((wd_stop st).mpr z))
    have n2 : st.wd ≠ .ifs := fun z => e1 (V.str.inj ((wd_ifs st).mpr z))
    have n3 : st.wd ≠ .whl := fun z => e2 (V.str.inj ((wd_whl st).mpr z))
    have ew : waysOf st x = [x] := by
      cases st <;> first | rfl | exact absurd rfl n1 | exact absurd rfl n2 | exact absurd rfl n3
    rw [ew] at q
    exact q _ _ (Same.new hp _) (Rep.new hp (.cons (Rep.int_iff.mpr rfl) .nil))
theorem reps_drop {K : PySem.W.Frag} {H : Hp} : ∀ (n : Nat) {ds : List PG.Stm} {vs : List V}, Reps K H (ds.map dpS) vs → Reps K H ((ds.drop n).map dpS) (vs.drop n)
  | 0, _, _, h => h
  | n + 1, [], vs, h => by
    rw [List.map_nil, Reps.nil_iff] at h
    subst h
    exact .nil
  | n + 1, d :: ds, vs, h => by
    rw [List.map_cons, Reps.cons_iff] at h
    obtain ⟨v, t, rfl, _, h⟩ := h
    exact reps_drop n h
theorem ok_flowB (T : Tx K mg t) {n : Nat} (G_flow_of_body : FnOk P w K mg base CX0 (n + 2) t.f_flow_of_body t.fd_flow_of_body ["body", "behind"] (spFlowB K n)) :
    FnOk P w K mg base CX0 (n + 3) t.f_flow_of_body t.fd_flow_of_body ["body", "behind"] (spFlowB K (n + 1)) := by
  have G_first_row : FnOk P w K mg base CX0 1 t.f_first_row t.fd_first_row ["body", "behind"] (spFirst K) := ok_first_row T
  have G_ways_of : FnOk P w K mg base CX0 2 t.f_ways_of t.fd_ways_of ["statement", "after"] (spWays K) := ok_ways_of T
  have G_bodies_in : FnOk P w K mg base CX0 1 t.f_bodies_in t.fd_bodies_in ["statement"] (spBodies K) := ok_bodies_in T
  have G_behind_body : FnOk P w K mg base CX0 1 t.f_behind_body t.fd_behind_body ["statement", "after"] (spBehind K) := ok_behind_body T
  refine T.D_flow_of_body.F.okS sc_flow_of_body (fun vs H Q E h => ?_) (fun cdv A outer s H vs Q E hr h => ?_)
  · obtain ⟨_, _, _, rfl, _⟩ := h
    rfl
  obtain ⟨b, body, x, rfl, rb, hd, hf, q⟩ := h
  have nd := sc_flow_of_body.nd
  refine ⟨_, [some (V.ref b), some (V.int x), none, none, none, none, none], (pss_cons (ps_set (i := 2) nd rfl (Or.inl rfl) (pe_lst pa_nil))
 (pss_cons (ps_for PassesOwn.never rfl (pi_enum rfl T.z_enumerate (pa_cons (pv 0) pa_nil st_name)) (pg_tup rfl (pgs_cons (pg_name (i := 3) nd rfl (Or.inl rfl)) (pgs_cons (pg_name (i := 4) nd rfl (Or.inl rfl)) pgs_nil)))
 (pss_cons (ps_set (i := 5) nd rfl (Or.inl rfl) (pe_call G_first_row (hr.mono (by omega)) rfl T.D_first_row.m T.D_first_row.F.kp T.D_first_row.b .nil pass0 (pa_cons (pe_slice sl_list (pv 0) (po_some (pe_op op_add (pv 3) pe_int)) po_none) (pa_cons (pv 1) pa_nil st_name) st_sub)))
 (pss_cons (ps_expr (pe_bm PySem.F.plainAttrs_list PySem.F.slot_list_append PySem.F.type_list_append mt_append (pv 2) (pa_cons (pe_tup (pa_cons (pe_ix ix_tup (pv 4) pe_int pl_const) (pa_cons (pe_ix ix_tup (pv 4) pe_int pl_const) (pa_cons (pe_call G_ways_of (hr.mono (by omega)) rfl T.D_ways_of.m T.D_ways_of.F.kp T.D_ways_of.b .nil pass0 (pa_cons (pv 4) (pa_cons (pv 5) pa_nil st_name) st_name)) pa_nil st_call) st_sub) st_sub)) pa_nil st_tup)))
 (pss_one (ps_for PassesOwn.never rfl (pi_list (pe_call G_bodies_in (hr.mono (by omega)) rfl T.D_bodies_in.m T.D_bodies_in.F.kp T.D_bodies_in.b .nil pass0 (pa_cons (pv 4) pa_nil st_name))) (pg_name (i := 6) nd rfl (Or.inl rfl))
 (pss_one (ps_expr (pe_bm PySem.F.plainAttrs_list PySem.F.slot_list_extend PySem.F.type_list_extend mt_extend (pv 2) (pa_cons (pe_call G_flow_of_body (hr.mono (by omega)) rfl T.D_flow_of_body.m T.D_flow_of_body.F.kp T.D_flow_of_body.b .nil pass0 (pa_cons (pv 6) (pa_cons (pe_call G_behind_body (hr.mono (by omega)) rfl T.D_behind_body.m T.D_behind_body.F.kp T.D_behind_body.b .nil pass0 (pa_cons (pv 4) (pa_cons (pv 5) pa_nil st_name) st_name)) pa_nil st_call) st_name)) pa_nil st_call)))))))))
 (pss_one (ps_ret (pv 2))))), rfl, ?_⟩
  have line : sizeLine = 2 ^ 24 := rfl
  rw [Rep.lst_iff] at rb
  obtain ⟨_, xs, e, hx, rs⟩ := rb
  cases e
  have lx : xs.length = body.length := by rw [rs.length, List.length_map]
  have lb := len_flats body
  refine seq_gen fun U1 hU1 => ?_
  walk_at "rd"
  intro tl htl
  have s1 := Same.new htl (.lst [])
  have y1 : (upd H tl (.lst [])) tl = some (.lst []) := upd_same
  generalize upd H tl (.lst []) = H1 at *
  refine (hU1 _ _).mpr (seq_gen fun U2 hU2 => ?_)
  clear hU1
  walk_at "rd"
  obtain ⟨Pv, hPv⟩ : ∃ Pv : Nat → St → Hp → Prop, ∀ i σ H2, Pv i σ H2 ↔ ∃ (z3 z4 z5 z6 : Option V) (pre : List PG.FlowRow) (us : List V), σ = [some (V.ref b), some (V.int x), some (V.ref tl), z3, z4, z5, z6] ∧ Same H H2 ∧ H2 tl = some (.lst us) ∧ Fixs K (· = tl) H2 (pre.map dpFlow) us ∧ us.length = pre.length ∧ pre ++ PG.flowB (body.drop i) x = PG.flowB body x := ⟨_, fun _ _ _ => Iff.rfl⟩
  refine ⟨_, rfl, b, rfl, ⟨xs, s1.seq hx⟩, for_enum (K := K) (a := b) (xs := xs) Pv ((hPv _ _ _).mpr ⟨none, none, none, none, [], [], rfl, s1, y1, .nil, rfl, rfl⟩) (fun i σ H2 _ hv => ?_) ?_ ?_⟩
  · obtain ⟨_, _, _, _, _, _, _, s2, _⟩ := (hPv _ _ _).mp hv
    exact s2.seq hx
  · intro i y σ H2 tp hi hv htp
    obtain ⟨z3, z4, z5, z6, pre, us, rfl, s2, y2, f2, lu, ep⟩ := (hPv _ _ _).mp hv
    clear hv
    have done := fun σ H7 => (hPv (i + 1) σ H7).mpr
    have li : i < body.length := by have := (List.getElem?_eq_some_iff.mp hi).1; omega
    obtain ⟨v, hv, rv⟩ := rs.get (i := i) (d := dpS body[i]) (by rw [List.getElem?_map, List.getElem?_eq_getElem li]; rfl)
    rw [hi] at hv
    cases hv
    have ed : body.drop i = body[i] :: body.drop (i + 1) := List.drop_eq_getElem_cons li
    rw [ed, PG.flowB, flowS_eq] at ep
    have mem : body[i] ∈ body := List.getElem_mem li
    obtain ⟨fm, dm⟩ := flats_mem body _ mem
    generalize hst : body[i] = st at *
    have s3 := s2.trans (Same.new htp (.tup [V.int i, y]))
    have n3 : tl ≠ tp := ne_of_none y2 htp
    have y3 := Same.new htp (.tup [V.int i, y]) _ _ y2
    have f3 := f2.up (.of (Same.new htp (.tup [V.int i, y])))
    have t3 : (upd H2 tp (.tup [V.int i, y])) tp = some (.tup [V.int i, y]) := upd_same
    generalize upd H2 tp (.tup [V.int i, y]) = H3 at *
    obtain ⟨sa, ys, rfl, hs⟩ := stm_parts st rv
    refine ⟨tp, _, rfl, .of t3, rfl, _, _, rfl, _, _, rfl, rfl, ?_⟩
    refine seq_gen fun U3 hU3 => ?_
    walk_at "rd"
    refine ⟨_, rfl, b, _, rfl, s3.seq hx, fun p4 hp4 => ?_⟩
    have ec : cutV xs (some ((i : Int) + 1)) none = xs.drop (i + 1) := by
      unfold cutV
      rw [HT.sIx_none, show (i : Int) + 1 = ((i + 1 : Nat) : Int) by omega, HT.sIx_nat]
      rw [show min (i + 1) xs.length = i + 1 by omega]
      exact List.take_of_length_le (by rw [List.length_drop]; omega)
    rw [ec]
    have s4 := s3.trans (Same.new hp4 (.lst (xs.drop (i + 1))))
    have y4 := Same.new hp4 (.lst (xs.drop (i + 1))) _ _ y3
    have f4 := f3.up (.of (Same.new hp4 (.lst (xs.drop (i + 1)))))
    have l4 : (upd H3 p4 (.lst (xs.drop (i + 1)))) p4 = some (.lst (xs.drop (i + 1))) := upd_same
    generalize upd H3 p4 (.lst (xs.drop (i + 1))) = H4 at *
    have rd4 : Rep K H4 (.lst ((body.drop (i + 1)).map dpS)) (.ref p4) := Rep.lst_iff.mpr ⟨p4, _, rfl, .of l4, reps_drop (i + 1) (rs.mono s4)⟩
    refine ⟨p4, body.drop (i + 1), x, rfl, rd4, by rw [List.length_drop]; omega, (hU3 _ _).mpr (seq_gen fun U4 hU4 => ?_)⟩
    clear hU3
    generalize PG.firstRow (body.drop (i + 1)) x = af at *
    have hs4 := (show SqT K H4 sa _ from s4.seqT hs)
    walk_at "rd"
    refine ⟨.inl ⟨rfl, _, .of y4⟩, rIxT_i hs4 (v := .int st.row) (atI_nat (j := 1) rfl) (rIxT_i hs4 (v := .str (wdS st.wd)) (atI_nat (j := 0) rfl) ?_)⟩
    have sh : shortS st := fun bb hbb => by
      have := (flatS_bodies st bb hbb).1
      have := len_flats bb
      omega
    refine ⟨.ref sa, st, af, rfl, rv.mono s4, sh, fun u H5 s5 ru p6 hp6 => ?_⟩
    have y5 := s5 _ _ y4
    have f5 := f4.up (.of s5)
    have fu : Fix K (· = tl) H5 (.tup ((waysOf st af).map .int)) u := fix_of y5 (by rw [noL]; exact noLs_ints _) ru
    have n6 : p6 ≠ tl := (ne_of_none y5 hp6).symm
    have s6 := Same.new hp6 (.tup [V.int st.row, V.str (wdS st.wd), u])
    have ft : Fix K (· = tl) (upd H5 p6 (.tup [V.int st.row, V.str (wdS st.wd), u])) (dpFlow (st.row, st.wd, waysOf st af)) (.ref p6) := Fix.tup upd_same n6 (.cons .int (.cons .str (.cons (fu.up (.of s6)) .nil)))
    have f6 := f5.up (.of s6)
    have y6 := s6 _ _ y5
    have s46 := (s4.trans s5).trans s6
    generalize upd H5 p6 (.tup [V.int st.row, V.str (wdS st.wd), u]) = H6 at *
    have lpre : pre.length ≤ 1000 := by
      have h1 := congrArg List.length ep
      have h2 := congrArg List.length (PG.flowB_row body x)
      simp only [List.length_append, List.length_map, List.length_cons] at h1 h2
      omega
    refine ⟨tl, us, _, rfl, rfl, y6, by omega, ?_⟩
    have s7 : Same H (upd H6 tl (.lst (us ++ [V.ref p6]))) := fun z o e => by rw [upd_ne (ne_of_none e htl)]; exact s46 z o e
    have f7 := (f6.snoc ft).up (UptoS.refl.put (O := (· = tl)) rfl (.lst (us ++ [V.ref p6])))
    have y7 : (upd H6 tl (.lst (us ++ [V.ref p6]))) tl = some (.lst (us ++ [V.ref p6])) := upd_same
    generalize upd H6 tl (.lst (us ++ [V.ref p6])) = H7 at *
    refine (hU4 _ _).mpr ?_
    clear hU4
    refine for_genL fun U hU => ?_
    walk_at "rd"
    refine ⟨.ref sa, st, H, rfl, rv, s7, fun l8 bv H8 s8 hl8 y8 r8 => ⟨l8, rfl, ⟨bv, .of y8⟩, hU _ _ ?_⟩⟩
    have lbv : bv.length = (bodiesOf st).length := by rw [r8.length, List.length_map]
    have l8t : l8 ≠ tl := fun z => by rw [z, y7] at hl8; cases hl8
    obtain ⟨Pw, hPw⟩ : ∃ Pw : Nat → St → Hp → Prop, ∀ j σ H9, Pw j σ H9 ↔ ∃ (z6 : Option V) (us : List V) (pre2 : List PG.FlowRow), σ = [some (V.ref b), some (V.int x), some (V.ref tl), some (V.int i), some (V.ref sa), some (V.int af), z6] ∧ Same H H9 ∧ (∀ z o, z ≠ tl → H8 z = some o → H9 z = some o) ∧ H9 tl = some (.lst us) ∧ Fixs K (· = tl) H9 (pre2.map dpFlow) us ∧ us.length = pre2.length ∧
        pre2 ++ ((bodiesOf st).drop j).flatMap (fun bb => PG.flowB bb (behindOf st af)) = pre ++ (st.row, st.wd, waysOf st af) :: (bodiesOf st).flatMap (fun bb => PG.flowB bb (behindOf st af)) := ⟨_, fun _ _ _ => Iff.rfl⟩
    refine for_list (K := K) (a := l8) (xs := bv) Pw ((hPw _ _ _).mpr ⟨z6, _, pre ++ [(st.row, st.wd, waysOf st af)], rfl, s7.trans s8, fun z o _ e => e, s8 _ _ y7, by rw [List.map_append]; exact f7.up (.of s8), by simp [lu], by simp⟩) (fun j σ H9 _ hv => ?_) ?_ ?_
    · obtain ⟨_, _, _, _, _, k9, _⟩ := (hPw _ _ _).mp hv
      exact .of (k9 _ _ l8t y8)
    · intro j y σ H9 hj hv
      obtain ⟨z6', us', pre2, rfl, s9, k9, y9, f9, lu9, e9⟩ := (hPw _ _ _).mp hv
      clear hv
      have lj : j < (bodiesOf st).length := by have := (List.getElem?_eq_some_iff.mp hj).1; omega
      obtain ⟨v, hv, rb⟩ := r8.get (i := j) (d := .lst ((bodiesOf st)[j].map dpS)) (by rw [List.getElem?_map, List.getElem?_eq_getElem lj]; rfl)
      rw [hj] at hv
      cases hv
      have mj : (bodiesOf st)[j] ∈ bodiesOf st := List.getElem_mem lj
      obtain ⟨fb, db⟩ := flatS_bodies st _ mj
      have ej : (bodiesOf st).drop j = (bodiesOf st)[j] :: (bodiesOf st).drop (j + 1) := List.drop_eq_getElem_cons lj
      rw [ej, List.flatMap_cons] at e9
      generalize (bodiesOf st)[j] = bb at *
      obtain ⟨ab, _, rfl, _⟩ := Rep.lst_iff.mp rb
      walk_at "rd"
      refine ⟨.inl ⟨rfl, _, .of y9⟩, .ref sa, st, af, rfl, rv.mono s9, ?_⟩
      refine ⟨ab, bb, _, rfl, rb.mono s9, by omega, by omega, fun l10 us10 H10 s10 hl10 y10 r10 => ?_⟩
      have y10t := s10 _ _ y9
      have f10 := f9.up (.of s10)
      have g10 : Fixs K (· = tl) H10 ((PG.flowB bb (behindOf st af)).map dpFlow) us10 := fixs_of y10t (noLs_flow _) r10
      have l10 : us10.length = (PG.flowB bb (behindOf st af)).length := by rw [r10.length, List.length_map]
      have tot : pre2.length + (PG.flowB bb (behindOf st af)).length ≤ 2000 := by
        have h1 := congrArg List.length e9
        have h2 := congrArg List.length ep
        have h3 := congrArg List.length (PG.flowB_row body x)
        simp only [List.length_append, List.length_map, List.length_cons] at h1 h2 h3
        omega
      refine ⟨tl, _, us', us10, rfl, rfl, y10t, y10, by omega, ?_⟩
      refine (hPw _ _ _).mpr ⟨_, us' ++ us10, pre2 ++ PG.flowB bb (behindOf st af), rfl, fun z o e => ?_, fun z o nz e => ?_, upd_same, ?_, by simp [lu9, l10], by rw [← e9]; simp⟩
      · rw [upd_ne (ne_of_none e htl)]
        exact s10 _ _ (s9 _ _ e)
      · rw [upd_ne nz]
        exact s10 _ _ (k9 z o nz e)
      · rw [List.map_append]
        exact (fixs_app f10 g10).up (UptoS.refl.put (O := (· = tl)) rfl _)
    · intro σ H9 hv
      obtain ⟨z6', us', pre2, rfl, s9, k9, y9, f9, lu9, e9⟩ := (hPw _ _ _).mp hv
      rw [lbv, List.drop_length, List.flatMap_nil, List.append_nil] at e9
      refine done _ _ ⟨_, _, _, _, pre2, us', rfl, s9, y9, f9, lu9, ?_⟩
      rw [e9, ← ep]
      simp
  · intro σ H2 hv
    obtain ⟨z3, z4, z5, z6, pre, us, rfl, s2, y2, f2, lu, ep⟩ := (hPv _ _ _).mp hv
    rw [lx, List.drop_length, PG.flowB, List.append_nil] at ep
    refine (hU2 _ _).mpr ?_
    walk_at "rd"
    rw [ep] at f2
    exact q tl us H2 s2 htl y2 f2.reps
theorem all_flowB (T : Tx K mg t) : ∀ n, FnOk P w K mg base CX0 (n + 2) t.f_flow_of_body t.fd_flow_of_body ["body", "behind"] (spFlowB K n)
  | 0 => by
    have no : ∀ vs H Q E, ¬ spFlowB K 0 vs H Q E := fun vs H Q E ⟨_, _, _, _, _, h, _⟩ => by omega
    exact ⟨fun vs H Q E h => absurd h (no vs H Q E), fun A outer s H args us vs Q E _ _ _ _ h => absurd h (no vs H Q E)⟩
  | n + 1 => ok_flowB T (all_flowB T n)
theorem ok_flow (T : Tx K mg t) : FnOk P w K mg base CX0 7 t.f_flow t.fd_flow ["program"] (spFlow K) := by
  have G_flow_of_body := all_flowB (P := P) (w := w) (base := base) T 4
  refine T.D_flow.F.okS sc_flow (fun vs H Q E h => ?_) (fun cdv A outer s H vs Q E hr h => ?_)
  · obtain ⟨_, _, rfl, _⟩ := h
    rfl
  obtain ⟨v, pr, rfl, rp, hd, hf, q⟩ := h
  have nd := sc_flow.nd
  obtain ⟨u_END, m_END, r_END⟩ := T.mg_END
  refine ⟨_, [some v], (pss_one (ps_ret (pe_call G_flow_of_body (hr.mono (by omega)) rfl T.D_flow_of_body.m T.D_flow_of_body.F.kp T.D_flow_of_body.b .nil pass0 (pa_cons (pe_ix ix_tup (pv 0) pe_int pl_const) (pa_cons (pe_glob rfl m_END r_END) pa_nil st_name) st_sub)))), rfl, ?_⟩
  unfold dpProg at rp
  rw [Rep.tup_iff] at rp
  obtain ⟨a, xs, rfl, hx, rs⟩ := rp
  rw [Reps.cons_iff] at rs
  obtain ⟨v1, t1, rfl, r1, rs⟩ := rs
  rw [Reps.cons_iff] at rs
  obtain ⟨v2, t2, rfl, r2, rs⟩ := rs
  obtain ⟨b, _, rfl, _⟩ := Rep.lst_iff.mp r2
  walk_at "rd"
  refine rIxT_i hx (v := .ref b) (atI_nat (j := 1) rfl) ?_
  exact ⟨b, pr.body, 0, rfl, r2, by omega, hf, fun l us H' s' hl y r => q l us H' s' hl y r⟩
theorem wd_els : ∀ w : PG.Wd, (wdS w = Str.ofString "else") ↔ w = .els := by
  intro w
  cases w <;> decide +kernel
theorem wd_fin : ∀ w : PG.Wd, (wdS w = Str.ofString "end") ↔ w = .fin := by
  intro w
  cases w <;> decide +kernel
theorem ok_ends (T : Tx K mg t) : FnOk P w K mg base CX0 1 t.f__law_ends t.fd__law_ends ["rows"] (spEnds K) := by
  refine T.D__law_ends.F.okS sc__law_ends (fun vs H Q E h => ?_) (fun cdv A outer s H vs Q E hr h => ?_)
  · obtain ⟨_, _, _, rfl, _⟩ := h
    rfl
  obtain ⟨R, rows, b, rfl, rr, lr, tx, q⟩ := h
  have nd := sc__law_ends.nd
  have hu := hu_of hr
  refine ⟨_, [some (V.ref R), none, none, none, none], (pss_cons (ps_set (i := 1) nd rfl (Or.inl rfl) pe_dnewK)
 (pss_cons (ps_set (i := 2) nd rfl (Or.inl rfl) (pe_lst pa_nil))
 (pss_cons (ps_for PassesOwn.never rfl (pi_range1 rfl T.z_range (pa_cons (pe_callB call_len_seq rfl T.z_len PyProof.Rows.Boot.«len» (pa_cons (pv 0) pa_nil st_name)) pa_nil st_call)) (pg_name (i := 3) nd rfl (Or.inl rfl))
 (pss_cons (ps_set (i := 4) nd rfl (Or.inl rfl) (pe_ix ix_list (pe_ix ix_list (pv 0) (pv 3) pl_name) pe_int pl_const))
 (pss_one (ps_if (pt_cmpR op_in_seq (pv 4) (pe_tup (pa_consts (vs := [.str "if", .str "while"]) (by kernel_rfl))) rfl)
 (pss_cons (ps_expr (pe_bm PySem.F.plainAttrs_list PySem.F.slot_list_append PySem.F.type_list_append mt_append (pv 2) (pa_cons (pv 3) pa_nil st_name)))
 (pss_one (ps_dput hu (pv 1) (pv 3) (pe_lst (pa_consts (vs := [.non, .non]) (by kernel_rfl))) rfl)))
 (pss_one (ps_if (pt_cmpR op_eq (pv 4) pe_str (nomark _))
 (pss_cons (ps_asg (pv 3) (pg_sub (pe_dget hu (pv 1) (pe_ix ix_list (pv 2) (pe_un un_neg pe_int) pl_un) (fun _ _ => rfl)) pe_int set_list))
 (pss_one (ps_dput hu (pv 1) (pv 3) (pe_ix ix_list (pv 2) (pe_un un_neg pe_int) pl_un) rfl)))
 (pss_one (ps_if (pt_cmpR op_eq (pv 4) pe_str (nomark _))
 (pss_cons (ps_dput hu (pv 1) (pv 3) (pe_bm0 PySem.F.plainAttrs_list PySem.F.slot_list_pop PySem.F.type_list_pop mt_pop (pv 2)) rfl)
 (pss_one (ps_asg (pv 3) (pg_sub (pe_dget hu (pv 1) (pe_dget hu (pv 1) (pv 3) (fun _ _ => rfl)) (fun _ _ => rfl)) pe_int set_list))))
 pss_nil))))))))
 (pss_one (ps_ret (pv 1)))))), rfl, ?_⟩
  have line : sizeLine = 2 ^ 24 := rfl
  rw [Rep.lst_iff] at rr
  obtain ⟨_, rv, e, hR, rr⟩ := rr
  cases e
  have lrv : rv.length = rows.length := by rw [rr.length, List.length_map]
  have safe := PG.safeB b rows tx 0 (fun _ => none) [] (by simp)
  refine seq_gen fun U1 hU1 => ?_
  walk_at "rd"
  intro d hd
  refine (hU1 _ _).mpr (seq_gen fun U2 hU2 => ?_)
  clear hU1
  walk_at "rd"
  intro ol hol
  refine (hU2 _ _).mpr (seq_gen fun U3 hU3 => ?_)
  clear hU2
  have nod : ol ≠ d := (ne_of_none upd_same hol).symm
  have hol0 : H ol = none := by
    cases z : H ol with
    | none => rfl
    | some o => rw [Same.new hd (.dK []) _ _ z] at hol; cases hol
  have t1 : MtI H d (fun _ => none) (fun _ => d) (upd (upd H d (.dK [])) ol (.lst [])) [] := ⟨(Same.new hd _).trans (Same.new hol _), hd, by rw [upd_ne nod.symm]; exact upd_same, fun p => rfl, fun p e f z => (by cases z), fun p q e f e' f' z => (by cases z)⟩
  have y1 : (upd (upd H d (.dK [])) ol (.lst [])) ol = some (.lst []) := upd_same
  generalize upd (upd H d (.dK [])) ol (.lst []) = H1 at *
  refine for_gen1 fun U hU => ?_
  walk_at "rd"
  refine ⟨R, rv, rfl, .inl (t1.s.seq hR), _, rfl, by omega, by omega, hU _ _ ?_⟩
  clear hU
  rw [show ((rv.length : Int)).toNat = rv.length from Int.toNat_natCast _]
  have eF : ∀ i (hi : i < rows.length), PG.foldM 0 (rows.take (i + 1)) (fun _ => none, []) = PG.stepM (PG.foldM 0 (rows.take i) (fun _ => none, [])) i rows[i].2 := fun i hi => by
    rw [List.take_succ_eq_append_getElem hi, PG.foldM_app, List.length_take, Nat.min_eq_left (by omega), Nat.zero_add]
    rfl
  obtain ⟨Pv, hPv⟩ : ∃ Pv : Nat → St → Hp → Prop, ∀ i σ H3, Pv i σ H3 ↔ ∃ (z3 z4 : Option V) (m : PG.Mm) (op : List Nat) (Af : Nat → Addr) (kvs : List (Key × V)), σ = [some (V.ref R), some (V.ref d), some (V.ref ol), z3, z4] ∧ PG.foldM 0 (rows.take i) (fun _ => none, []) = (m, op) ∧ MtI H d m Af H3 kvs ∧ kvs.length ≤ i ∧
      H3 ol = some (.lst (op.reverse.map fun x : Nat => V.int (x : Int))) ∧ (∀ p e f, m p = some (.op e f) → Af p ≠ ol) ∧ op.length ≤ i ∧ (∀ x ∈ op, x < i) := ⟨_, fun _ _ _ => Iff.rfl⟩
  refine for_range (lo := 0) (n := rv.length) Pv ((hPv _ _ _).mpr ⟨none, none, _, [], _, [], rfl, rfl, t1, Nat.le_refl _, y1, fun p e f z => (by cases z), Nat.le_refl _, by simp⟩) (fun i σ H3 hi hv => ?_) (fun σ H3 hv => ?_)
  · obtain ⟨z3, z4, m, op, Af, kvs, rfl, ef, ti, lk, yo, no, lo, sl⟩ := (hPv _ _ _).mp hv
    clear hv
    have done := fun σ H7 => (hPv (i + 1) σ H7).mpr
    have li : i < rows.length := by omega
    rw [eF i li, ef] at done
    have sat := PG.SafeM_at rows 0 _ safe i rows[i] (List.getElem?_eq_getElem li)
    rw [ef] at sat
    obtain ⟨ra, era, hra⟩ := row_at (rr.mono ti.s) (i := i) (y := rv[i]) (List.getElem?_eq_getElem (by omega)) li
    generalize rows[i] = r at *
    obtain ⟨k, wd⟩ := r
    simp only [gName, List.set]
    rw [show (0 : Int) + (i : Int) = (i : Int) by omega]
    have hR3 := ti.s.seq hR
    refine seq_gen fun U4 hU4 => ?_
    walk_at "rd"
    refine rIxL_i (v := .ref ra) hR3 (atI_nat (by rw [← era]; exact List.getElem?_eq_getElem (by omega))) (rIxL_i (v := .str (wdS wd)) hra (atI_nat (j := 1) rfl) ((hU4 _ _).mpr ?_))
    clear hU4
    walk_at "rd"
    intro p4 hp4
    refine ⟨p4, _, rfl, .inr (.of upd_same), rfl, rfl, _, rfl, ?_⟩
    have s4 := Same.new hp4 (.tup [V.str (Str.ofString "if"), V.str (Str.ofString "while")])
    have ti4 := ti.same s4
    have yo4 := s4 _ _ yo
    generalize upd H3 p4 (.tup [V.str (Str.ofString "if"), V.str (Str.ofString "while")]) = H4 at *
    rw [wd_loop wd]
    by_cases hl : wd = .ifs ∨ wd = .whl
    · refine (if_pos (decide_eq_true hl)).mpr ⟨.inl ⟨rfl, _, .of yo4⟩, ol, _, _, rfl, rfl, yo4, by rw [List.length_map, List.length_reverse]; omega, fun p5 hp5 => ⟨d, _, rfl, .inl ⟨kvs, .inl (i : Int), ?_, rfl, by omega, rfl⟩, ?_⟩⟩
      · exact ((ti4.put hol0 nod no _).same (Same.new hp5 _)).dd
      · have ti6 := (ti4.put hol0 nod no (.lst (op.reverse.map (fun x : Nat => V.int (x : Int)) ++ [V.int i]))).open_ i hp5
        have n5 : ol ≠ p5 := ne_of_none upd_same hp5
        have es : PG.stepM (m, op) i wd = (m.set i (.op none none), i :: op) := by rcases hl with rfl | rfl <;> rfl
        refine done _ _ ⟨_, _, _, _, _, _, rfl, es, ti6, Nat.le_trans (len_putK _ _ _) (by omega), ?_, ?_, by simp only [List.length_cons]; omega, fun x hx => ?_⟩
        · rw [upd_ne nod, upd_ne n5, upd_same]
          simp
        · intro p e f hp
          by_cases z : p = i
          · rw [if_pos z]
            exact n5.symm
          · rw [if_neg z]
            rw [PG.Mm.set_ne _ _ z] at hp
            exact no p e f hp
        · rcases List.mem_cons.mp hx with rfl | hx
          · omega
          · have := sl x hx
            omega
    · refine (if_neg (by rw [decide_eq_false hl]; exact Bool.false_ne_true)).mpr (ite2 (fun e => ?_) (fun e => ite2 (fun e2 => ?_) (fun e2 => ?_)))
      · have ew : wd = .els := (wd_els wd).mp e
        subst ew
        obtain ⟨o, tt, x, y, eo, mo⟩ := sat (.inl rfl)
        simp only at eo mo
        subst eo
        have last : ∀ xs : List Nat, atI ((o :: xs).reverse.map fun x : Nat => V.int (x : Int)) (-1) = some (V.int o) := fun xs => by rw [List.reverse_cons, List.map_append]; exact L2.atI_last _ _
        refine ⟨1, rfl, rIxL_i (v := .int o) (.of yo4) (last tt) ⟨d, .ref (Af o), rfl, .inl ⟨kvs, .inl (o : Int), .inl ti4.dd, rfl, ?_⟩, Af o, _, 0, 0, rfl, rfl, (ti4.ls o x y mo).1, rfl, ?_⟩⟩
        · rw [ti4.at_ o, mo]; rfl
        · have ti5 := ti4.list mo (some i) y
          have yo5 : (upd H4 (Af o) (.lst [optV (some i), optV y])) ol = some (.lst ((o :: tt).reverse.map fun x : Nat => V.int (x : Int))) := by rw [upd_ne (no o x y mo).symm]; exact yo4
          show ∃ i_2, 1 = i_2 ∧ rIxL K (V.ref ol) (V.int (-i_2)) (upd H4 (Af o) (.lst [optV (some i), optV y])) _
          generalize upd H4 (Af o) (.lst [optV (some i), optV y]) = H5 at *
          refine ⟨1, rfl, rIxL_i (v := .int o) (.of yo5) (last tt) ⟨d, _, rfl, .inl ⟨kvs, .inl (i : Int), ti5.dd, rfl, by omega, rfl⟩, ?_⟩⟩
          have ti6 := ti5.back i o
          have es : PG.stepM (m, o :: tt) i .els = ((m.set o (.op (some i) y)).set i (.back o), o :: tt) := by simp only [PG.stepM, mo, PG.withEls]
          refine done _ _ ⟨_, _, _, _, _, _, rfl, es, ti6, Nat.le_trans (len_putK _ _ _) (by omega), ?_, ?_, by omega, fun x hx => Nat.lt_succ_of_lt (sl x hx)⟩
          · rw [upd_ne nod]; exact yo5
          · intro p e f hp
            by_cases z : p = i
            · subst z
              rw [PG.Mm.set_same] at hp
              cases hp
            · rw [PG.Mm.set_ne _ _ z] at hp
              by_cases z2 : p = o
              · subst z2
                exact no p x y mo
              · rw [PG.Mm.set_ne _ _ z2] at hp
                exact no p e f hp
      · have ew : wd = .fin := (wd_fin wd).mp e2
        subst ew
        obtain ⟨o, tt, x, y, eo, mo⟩ := sat (.inr rfl)
        simp only at eo mo
        subst eo
        have oi : o < i := sl o (List.mem_cons_self ..)
        have er : ((o :: tt).reverse.map fun x : Nat => V.int (x : Int)) = (tt.reverse.map fun x : Nat => V.int (x : Int)) ++ [V.int o] := by simp
        rw [er] at yo4
        have ti5 := ti4.put hol0 nod no (.lst (tt.reverse.map fun x : Nat => V.int (x : Int)))
        have yo5 : (upd H4 ol (.lst (tt.reverse.map fun x : Nat => V.int (x : Int)))) ol = some (.lst (tt.reverse.map fun x : Nat => V.int (x : Int))) := upd_same
        refine ⟨.inl ⟨rfl, _, .of yo4⟩, ol, _, .int o, rfl, rfl, yo4, by simp, ?_⟩
        rw [List.dropLast_concat]
        generalize upd H4 ol (.lst (tt.reverse.map fun x : Nat => V.int (x : Int))) = H5 at *
        have ti6 := ti5.back i o
        have yo6 : (upd H5 d (.dK (putK kvs (.inl (i : Int)) (.int o)))) ol = some (.lst (tt.reverse.map fun x : Nat => V.int (x : Int))) := by rw [upd_ne nod]; exact yo5
        have lk6 : (putK kvs (.inl (i : Int)) (V.int o)).length ≤ i + 1 := Nat.le_trans (len_putK _ _ _) (by omega)
        refine ⟨d, _, rfl, .inl ⟨kvs, .inl (i : Int), ti5.dd, rfl, by omega, rfl⟩, ?_⟩
        generalize putK kvs (.inl (i : Int)) (V.int o) = kvs6 at *
        generalize upd H5 d (.dK kvs6) = H6 at *
        have mo6 : (m.set i (.back o)) o = some (.op x y) := by rw [PG.Mm.set_ne _ _ (by omega)]; exact mo
        refine ⟨d, .int o, rfl, .inl ⟨kvs6, .inl (i : Int), .inl ti6.dd, rfl, by rw [ti6.at_ i, PG.Mm.set_same]; rfl⟩, d, .ref (Af o), rfl, .inl ⟨kvs6, .inl (o : Int), .inl ti6.dd, rfl, by rw [ti6.at_ o, mo6]; rfl⟩, Af o, _, 1, 1, rfl, rfl, (ti6.ls o x y mo6).1, rfl, ?_⟩
        have ti7 := ti6.list mo6 x (some i)
        have es : PG.stepM (m, o :: tt) i .fin = ((m.set i (.back o)).set o (.op x (some i)), tt) := by simp only [PG.stepM, mo, PG.withFin]
        refine done _ _ ⟨_, _, _, _, _, _, rfl, es, ti7, lk6, ?_, ?_, by simp only [List.length_cons] at lo; omega, fun z hz => Nat.lt_succ_of_lt (sl z (List.mem_cons_of_mem _ hz))⟩
        · rw [upd_ne (no o x y mo).symm]; exact yo6
        · intro p e f hp
          by_cases z2 : p = o
          · subst z2
            exact no p x y mo
          · rw [PG.Mm.set_ne _ _ z2] at hp
            by_cases z : p = i
            · subst z
              rw [PG.Mm.set_same] at hp
              cases hp
            · rw [PG.Mm.set_ne _ _ z] at hp
              exact no p e f hp
      · have es : PG.stepM (m, op) i wd = (m, op) := by
          cases wd <;> first | rfl | exact absurd (.inl rfl) hl | exact absurd (.inr rfl) hl | exact absurd ((wd_els _).mpr rfl) e | exact absurd ((wd_fin _).mpr rfl) e2
        exact done _ _ ⟨_, _, _, _, _, _, rfl, es, ti4, by omega, yo4, no, by omega, fun x hx => Nat.lt_succ_of_lt (sl x hx)⟩
  · obtain ⟨z3, z4, m, op, Af, kvs, rfl, ef, ti, lk, yo, no, lo, sl⟩ := (hPv _ _ _).mp hv
    rw [lrv, List.take_length] at ef
    refine (hU3 _ _).mpr ?_
    walk_at "rd"
    refine q d H3 ⟨Af, kvs, ?_⟩
    unfold PG.mtOf
    rw [ef]
    exact ti
theorem wd_whl' : ∀ w : PG.Wd, (V.str (wdS w) = V.str (Str.ofString "while")) ↔ w = .whl := by
  intro w
  cases w <;> decide +kernel
theorem ok_to (T : Tx K mg t) : FnOk P w K mg base CX0 1 t.f__law_to t.fd__law_to ["rows", "matches", "at"] (spTo K) := by
  refine T.D__law_to.F.okS sc__law_to (fun vs H Q E h => ?_) (fun cdv A outer s H vs Q E hr h => ?_)
  · obtain ⟨_, _, _, _, _, _, rfl, _⟩ := h
    rfl
  obtain ⟨R, d, rows, b, H0, p, rfl, rr, lr, tx, ⟨Af, kvs, ti⟩, q⟩ := h
  have nd := sc__law_to.nd
  have hu := hu_of hr
  refine ⟨_, [some (V.ref R), some (V.ref d), some (V.int p), none], (pss_cons (ps_while PassesOwn.never (pt_cmpR op_lt (pv 2) (pe_callB call_len_seq rfl T.z_len PyProof.Rows.Boot.«len» (pa_cons (pv 0) pa_nil st_name)) (nomark _))
 (pss_cons (ps_set (i := 3) nd rfl (Or.inl rfl) (pe_ix ix_list (pe_ix ix_list (pv 0) (pv 2) pl_name) pe_int pl_const))
 (pss_one (ps_if (pt_cmpR op_eq (pv 3) pe_str (nomark _))
 (pss_one (ps_set (i := 2) nd rfl (Or.inl rfl) (pe_op op_add (pe_ix ix_seq (pe_dget hu (pv 1) (pe_dget hu (pv 1) (pv 2) (fun _ _ => rfl)) (fun _ _ => rfl)) pe_int pl_const) pe_int)))
 (pss_one (ps_if (PW.pt (pw_and (pt_cmpR op_eq (pv 3) pe_str (nomark _)) (pw_and1 (pt_cmpR op_eq (pe_ix ix_list (pe_ix ix_list (pv 0) (pe_dget hu (pv 1) (pv 2) (fun _ _ => rfl)) pl_sub) pe_int pl_const) pe_str (nomark _)))))
 (pss_one (ps_ret (pe_ix ix_list (pe_ix ix_list (pv 0) (pe_dget hu (pv 1) (pv 2) (fun _ _ => rfl)) pl_sub) pe_int pl_const)))
 (pss_one (ps_if (pt_cmpR op_eq (pv 3) pe_str (nomark _))
 (pss_one (ps_set (i := 2) nd rfl (Or.inl rfl) (pe_op op_add (pv 2) pe_int)))
 (pss_one (ps_ret (pe_ix ix_list (pe_ix ix_list (pv 0) (pv 2) pl_name) pe_int pl_const)))))))))))
 (pss_one (ps_ret pe_int))), rfl, ?_⟩
  have line : sizeLine = 2 ^ 24 := rfl
  rw [Rep.lst_iff] at rr
  obtain ⟨_, rv, e, hR, rr⟩ := rr
  cases e
  have lrv : rv.length = rows.length := by rw [rr.length, List.length_map]
  have ok := PG.rowok_all tx
  generalize PG.mtOf rows = m at *
  refine seq_gen fun U1 hU1 => ?_
  walk_at "rd"
  refine ⟨fun n σ H' => H' = H ∧ ∃ (j : Nat) (z : Option V), σ = [some (V.ref R), some (V.ref d), some (V.int j), z] ∧ n = rows.length - j ∧ PG.to rows m j = PG.to rows m p, ⟨_, rfl, p, none, rfl, rfl, rfl⟩, ?_⟩
  rintro n σ H' ⟨rfl, j, z, rfl, rfl, et⟩
  walk_at "rd"
  refine ⟨R, rv, rfl, .inl hR, ite2 (fun lt => ?_) (fun lt => ?_)⟩
  · have lj : j < rows.length := by omega
    obtain ⟨ra, era, hra⟩ := row_at rr (i := j) (y := rv[j]) (List.getElem?_eq_getElem (by omega)) lj
    have hrow : rows[j]? = some rows[j] := List.getElem?_eq_getElem lj
    generalize rows[j] = r at *
    obtain ⟨k, wd⟩ := r
    obtain ⟨o1, o2, _⟩ := ok j lj k wd hrow
    refine ⟨fun σ' H2 => H2 = H' ∧ ∃ (j' : Nat) (z : Option V), σ' = [some (V.ref R), some (V.ref d), some (V.int j'), z] ∧ j < j' ∧ PG.to rows m j' = PG.to rows m p, fun σ' H2 ⟨e1, j', z', e2, e3, e4⟩ => ⟨_, by omega, e1, j', z', e2, rfl, e4⟩, ?_⟩
    refine rIxL_i (v := .ref ra) hR (atI_nat (by rw [← era]; exact List.getElem?_eq_getElem (by omega))) (rIxL_i (v := .str (wdS wd)) hra (atI_nat (j := 1) rfl) ?_)
    walk_at "rd"
    have key : ∀ jj : Nat, valV kvs (.inl (jj : Int)) = mtV Af jj (m jj) := ti.at_
    refine ite2 (fun e => ?_) (fun e => ite2 (fun e2 => ?_) (fun e2 => (if_neg (by decide)).mpr ((if_neg e2).mpr ?_)))
    · have ew : wd = .els := (wd_els wd).mp e
      subst ew
      obtain ⟨o, x, ee, m1, m2, h1, h2⟩ := o1 rfl
      refine ⟨d, .int o, rfl, .inl ⟨kvs, .inl (j : Int), .inl ti.dd, rfl, by rw [key j, m1]; rfl⟩, d, .ref (Af o), rfl, .inl ⟨kvs, .inl (o : Int), .inl ti.dd, rfl, by rw [key o, m2]; rfl⟩, .inl (rIxL_i (v := .int ee) (.of (ti.ls o x (some ee) m2).1) (atI_nat (j := 1) rfl) ⟨_, _, rfl, rfl, rfl, ee + 1, some (V.str (wdS .els)), rfl, by omega, ?_⟩)⟩
      · rw [← et, PG.to_els hrow m1 m2 h1]
    · have ew : wd = .fin := (wd_fin wd).mp e2
      subst ew
      obtain ⟨o, k', w', m1, ho, hw⟩ := o2 rfl
      obtain ⟨lo, eo⟩ := PG.get_lt ho
      obtain ⟨rb, erb, hrb⟩ := row_at rr (i := o) (y := rv[o]) (List.getElem?_eq_getElem (by omega)) lo
      rw [eo] at hrb
      have gR : atI rv (o : Int) = some (V.ref rb) := atI_nat (by rw [← erb]; exact List.getElem?_eq_getElem (by omega))
      have gd : DGet H' d (V.int j) (some (.int o)) := .inl ⟨kvs, .inl (j : Int), .inl ti.dd, rfl, by rw [key j, m1]; rfl⟩
      refine ⟨d, .int o, rfl, gd, rIxL_i (v := .ref rb) hR gR (rIxL_i (v := .str (wdS w')) hrb (atI_nat (j := 1) rfl) ⟨rfl, ite2 (fun e3 => ?_) (fun e3 => (if_pos e2).mpr ⟨rfl, j + 1, _, rfl, by omega, ?_⟩)⟩)⟩
      · have ew : w' = .whl := (wd_whl' w').mp e3
        subst ew
        refine ⟨d, .int o, rfl, gd, rIxL_i (v := .ref rb) hR gR (rIxL_i (v := .int k') hrb (atI_nat (j := 0) rfl) ?_)⟩
        rw [← et, PG.to_whl hrow m1 ho] at q
        exact q
      · have ew : w' = .ifs := hw.resolve_right fun z => e3 ((wd_whl' w').mpr z)
        subst ew
        rw [← et, PG.to_ifs hrow m1 ho]
    · refine rIxL_i (v := .ref ra) hR (atI_nat (by rw [← era]; exact List.getElem?_eq_getElem (by omega))) (rIxL_i (v := .int k) hra (atI_nat (j := 0) rfl) ?_)
      rw [← et, PG.to_plain hrow (fun z => e ((wd_els wd).mpr z)) (fun z => e2 ((wd_fin wd).mpr z))] at q
      exact q
  · refine (hU1 _ _).mpr ?_
    walk_at "rd"
    rw [← et, PG.to_out (by omega)] at q
    exact q
theorem wd_stop' : ∀ w : PG.Wd, (wdS w = Str.ofString "stop") ↔ w = .stop := by
  intro w
  cases w <;> decide +kernel
theorem ok_ways (T : Tx K mg t) : FnOk P w K mg base CX0 2 t.f__law_ways t.fd__law_ways ["rows"] (spLWays K) := by
  have G__law_ends := ok_ends (P := P) (w := w) (base := base) T
  have G__law_to := ok_to (P := P) (w := w) (base := base) T
  refine T.D__law_ways.F.okS sc__law_ways (fun vs H Q E h => ?_) (fun cdv A outer s H vs Q E hr h => ?_)
  · obtain ⟨_, _, _, rfl, _⟩ := h
    rfl
  obtain ⟨R, rows, b, rfl, rr, lr, tx, q⟩ := h
  have nd := sc__law_ways.nd
  have hu := hu_of hr
  refine ⟨_, [some (V.ref R), none, none, none, none, none, none, none], (pss_cons (ps_set (i := 1) nd rfl (Or.inl rfl) (pe_call G__law_ends (hr.mono (by omega)) rfl T.D__law_ends.m T.D__law_ends.F.kp T.D__law_ends.b .nil pass0 (pa_cons (pv 0) pa_nil st_name)))
 (pss_cons (ps_set (i := 2) nd rfl (Or.inl rfl) (pe_lst pa_nil))
 (pss_cons (ps_for PassesOwn.never rfl (pi_range1 rfl T.z_range (pa_cons (pe_callB call_len_seq rfl T.z_len PyProof.Rows.Boot.«len» (pa_cons (pv 0) pa_nil st_name)) pa_nil st_call)) (pg_name (i := 3) nd rfl (Or.inl rfl))
 (pss_cons (ps_asg (pe_ix ix_list (pv 0) (pv 3) pl_name) (pg_lst rfl (pgs_cons (pg_name (i := 4) nd rfl (Or.inl rfl)) (pgs_cons (pg_name (i := 5) nd rfl (Or.inl rfl)) pgs_nil))))
 (pss_cons (ps_set (i := 6) nd rfl (Or.inl rfl) (pe_call G__law_to (hr.mono (by omega)) rfl T.D__law_to.m T.D__law_to.F.kp T.D__law_to.b .nil pass0 (pa_cons (pv 0) (pa_cons (pv 1) (pa_cons (pe_op op_add (pv 3) pe_int) pa_nil st_bin) st_name) st_name)))
 (pss_one (ps_if (pt_cmpR op_eq (pv 5) pe_str (nomark _))
 (pss_one (ps_expr (pe_bm PySem.F.plainAttrs_list PySem.F.slot_list_append PySem.F.type_list_append mt_append (pv 2) (pa_cons (pe_tup (pa_cons (pv 4) (pa_cons (pv 5) (pa_cons (pe_tup (pa_cons pe_int pa_nil st_const)) pa_nil st_tup) st_name) st_name)) pa_nil st_tup))))
 (pss_one (ps_if (pt_cmpR op_in_seq (pv 5) (pe_tup (pa_consts (vs := [.str "if", .str "while"]) (by kernel_rfl))) rfl)
 (pss_cons (ps_set (i := 7) nd rfl (Or.inl rfl) (pe_ix ix_seq (pe_dget hu (pv 1) (pv 3) (fun _ _ => rfl)) pe_int pl_const))
 (pss_cons (ps_if (pt_cmpR op_notN (pe_ix ix_seq (pe_dget hu (pv 1) (pv 3) (fun _ _ => rfl)) pe_int pl_const) pe_non (nomark _))
 (pss_one (ps_set (i := 7) nd rfl (Or.inl rfl) (pe_ix ix_seq (pe_dget hu (pv 1) (pv 3) (fun _ _ => rfl)) pe_int pl_const)))
 pss_nil)
 (pss_one (ps_expr (pe_bm PySem.F.plainAttrs_list PySem.F.slot_list_append PySem.F.type_list_append mt_append (pv 2) (pa_cons (pe_tup (pa_cons (pv 4) (pa_cons (pv 5) (pa_cons (pe_tup (pa_cons (pv 6) (pa_cons (pe_call G__law_to (hr.mono (by omega)) rfl T.D__law_to.m T.D__law_to.F.kp T.D__law_to.b .nil pass0 (pa_cons (pv 0) (pa_cons (pv 1) (pa_cons (pe_op op_add (pv 7) pe_int) pa_nil st_bin) st_name) st_name)) pa_nil st_call) st_name)) pa_nil st_tup) st_name) st_name)) pa_nil st_tup))))))
 (pss_one (ps_if (pt_cmpR op_notIn_seq (pv 5) (pe_tup (pa_consts (vs := [.str "else", .str "end"]) (by kernel_rfl))) rfl)
 (pss_one (ps_expr (pe_bm PySem.F.plainAttrs_list PySem.F.slot_list_append PySem.F.type_list_append mt_append (pv 2) (pa_cons (pe_tup (pa_cons (pv 4) (pa_cons (pv 5) (pa_cons (pe_tup (pa_cons (pv 6) pa_nil st_name)) pa_nil st_tup) st_name) st_name)) pa_nil st_tup))))
 pss_nil)))))))))
 (pss_one (ps_ret (pv 2)))))), rfl, ?_⟩
  have line : sizeLine = 2 ^ 24 := rfl
  have ok := PG.rowok_all tx
  have wf := PG.ways_flow tx
  have rrH := rr
  rw [Rep.lst_iff] at rr
  obtain ⟨_, rv, e, hR, rr⟩ := rr
  cases e
  have lrv : rv.length = rows.length := by rw [rr.length, List.length_map]
  refine seq_gen fun U1 hU1 => ?_
  walk_at "rd"
  refine ⟨R, rows, b, rfl, rrH, lr, tx, fun d H1 mt1 => (hU1 _ _).mpr (seq_gen fun U2 hU2 => ?_)⟩
  clear hU1
  walk_at "rd"
  intro fl hfl
  refine (hU2 _ _).mpr (seq_gen fun U3 hU3 => ?_)
  clear hU2
  refine for_gen1 fun U hU => ?_
  walk_at "rd"
  obtain ⟨Af, kvs, mi⟩ := mt1
  have ac1 : AccL K H1 fl (upd H1 fl (.lst [])) [] [] := AccL.new hfl
  generalize upd H1 fl (.lst []) = H2 at *
  refine ⟨R, rv, rfl, .inl ((mi.s.trans ac1.s).seq hR), _, rfl, by omega, by omega, hU _ _ ?_⟩
  clear hU
  rw [show ((rv.length : Int)).toNat = rv.length from Int.toNat_natCast _]
  obtain ⟨Pv, hPv⟩ : ∃ Pv : Nat → St → Hp → Prop, ∀ i σ H3, Pv i σ H3 ↔ ∃ (z3 z4 z5 z6 z7 : Option V) (us : List V), σ = [some (V.ref R), some (V.ref d), some (V.ref fl), z3, z4, z5, z6, z7] ∧ AccL K H1 fl H3 us ((PG.waysIn rows (PG.mtOf rows) 0 i).map dpFlow) ∧ us.length ≤ i := ⟨_, fun _ _ _ => Iff.rfl⟩
  refine for_range (lo := 0) (n := rv.length) Pv ((hPv _ _ _).mpr ⟨none, none, none, none, none, [], rfl, ac1, Nat.le_refl _⟩) (fun i σ H3 hi hv => ?_) (fun σ H3 hv => ?_)
  · obtain ⟨z3, z4, z5, z6, z7, us, rfl, ac, lu⟩ := (hPv _ _ _).mp hv
    clear hv
    have done := fun σ H7 => (hPv (i + 1) σ H7).mpr
    have li : i < rows.length := by omega
    have ew : PG.waysIn rows (PG.mtOf rows) 0 (i + 1) = PG.waysIn rows (PG.mtOf rows) 0 i ++ PG.waysAt rows (PG.mtOf rows) i := by
      rw [PG.waysIn_add, Nat.zero_add, PG.waysIn, PG.waysIn, List.append_nil]
    have mi3 := mi.same ac.s
    have rr3 := rr.mono mi3.s
    obtain ⟨ra, era, hra⟩ := row_at rr3 (i := i) (y := rv[i]) (List.getElem?_eq_getElem (by omega)) li
    have hrow : rows[i]? = some rows[i] := List.getElem?_eq_getElem li
    generalize rows[i] = r at *
    obtain ⟨k, wd⟩ := r
    obtain ⟨_, _, o3⟩ := ok i li k wd hrow
    simp only [gName, List.set]
    rw [show (0 : Int) + (i : Int) = (i : Int) by omega]
    have hR3 := mi3.s.seq hR
    have rrH3 : Rep K H3 (.lst (rows.map dpRow)) (.ref R) := rrH.mono mi3.s
    refine seq_gen fun U4 hU4 => ?_
    walk_at "rd"
    refine rIxL_i (v := .ref ra) hR3 (atI_nat (by rw [← era]; exact List.getElem?_eq_getElem (by omega))) ⟨ra, _, rfl, hra, rfl, _, _, rfl, _, _, rfl, rfl, (hU4 _ _).mpr (seq_gen fun U5 hU5 => ?_)⟩
    clear hU4
    simp only [List.set]
    walk_at "rd"
    refine ⟨R, d, rows, b, H, i + 1, by simp, rrH3, lr, tx, ⟨Af, kvs, mi3⟩, (hU5 _ _).mpr ?_⟩
    clear hU5
    walk_at "rd"
    generalize hm : PG.mtOf rows = m at *
    have put : ∀ (H4 : Hp) (ws : List Int) (z : Option V), AccL K H1 fl H4 us ((PG.waysIn rows m 0 i).map dpFlow) → PG.waysAt rows m i = [(k, wd, ws)] → ∀ p, H4 p = none → ∀ p1, (upd H4 p (.tup (ws.map V.int))) p1 = none →
        rAppend (V.ref fl) [V.ref p1] (upd (upd H4 p (.tup (ws.map V.int))) p1 (.tup [V.int k, V.str (wdS wd), V.ref p])) fun x H' => Pv (i + 1) [some (V.ref R), some (V.ref d), some (V.ref fl), some (V.int i), some (V.int k), some (V.str (wdS wd)), some (V.int (PG.to rows m (i + 1))), z] H' := fun H4 ws z ac ea p hp p1 hp1 => by
      obtain ⟨y5, ac5⟩ := ac.row (k := k) (w := wd) hfl hp hp1
      refine ⟨fl, us, _, rfl, rfl, y5, by omega, done _ _ ⟨_, _, _, _, _, us ++ [V.ref p1], rfl, ?_, by simp only [List.length_append, List.length_singleton]; omega⟩⟩
      rw [ew, List.map_append, ea]
      exact ac5
    refine ite2 (fun e => ⟨.inl ⟨rfl, _, .of ac.y⟩, fun p hp p1 hp1 => ?_⟩) (fun e p4 hp4 => ?_)
    · have ewd := (wd_stop' wd).mp e
      subst ewd
      exact put H3 [0] _ ac (by unfold PG.waysAt; rw [hrow]) p hp p1 hp1
    · refine ⟨p4, _, rfl, .inr (.of upd_same), rfl, rfl, _, rfl, ?_⟩
      have s4 := Same.new hp4 (.tup [V.str (Str.ofString "if"), V.str (Str.ofString "while")])
      have ac4 := ac.same s4
      have mi4 := mi3.same s4
      have rrH4 := rrH3.mono s4
      generalize upd H3 p4 (.tup [V.str (Str.ofString "if"), V.str (Str.ofString "while")]) = H4 at *
      rw [wd_loop wd]
      by_cases hl : wd = .ifs ∨ wd = .whl
      · obtain ⟨x, ee, m1, h1, h2, h3⟩ := o3 hl
        have gd : DGet H4 d (V.int i) (some (.ref (Af i))) := .inl ⟨kvs, .inl (i : Int), .inl mi4.dd, rfl, by rw [mi4.at_ i, m1]; rfl⟩
        have gl := (mi4.ls i x (some ee) m1).1
        have ea : PG.waysAt rows m i = [(k, wd, [PG.to rows m (i + 1), PG.to rows m (x.getD ee + 1)])] := by
          unfold PG.waysAt
          rw [hrow]
          rcases hl with rfl | rfl <;> simp only [m1]
        refine (if_pos (decide_eq_true hl)).mpr ⟨d, _, rfl, gd, .inl (rIxL_i (v := .int ee) (.of gl) (atI_nat (j := 1) rfl) ⟨d, _, rfl, gd, .inl (rIxL_i (v := optV x) (.of gl) (atI_nat (j := 0) rfl) ?_)⟩)⟩
        cases x with
        | none =>
          refine (if_pos rfl).mpr ⟨.inl ⟨rfl, _, .of ac4.y⟩, ?_⟩
          rw [rI0_i]
          exact ⟨R, d, rows, b, H, ee + 1, by simp, rrH4, lr, tx, ⟨Af, kvs, by rw [hm]; exact mi4⟩, by rw [hm]; exact put H4 _ _ ac4 ea⟩
        | some y =>
          refine (if_neg (by intro z; cases z)).mpr ⟨d, _, rfl, gd, .inl (rIxL_i (v := .int y) (.of gl) (atI_nat (j := 0) rfl) ⟨.inl ⟨rfl, _, .of ac4.y⟩, ?_⟩)⟩
          rw [rI0_i]
          exact ⟨R, d, rows, b, H, y + 1, by simp, rrH4, lr, tx, ⟨Af, kvs, by rw [hm]; exact mi4⟩, by rw [hm]; exact put H4 _ _ ac4 ea⟩
      · refine (if_neg (by rw [decide_eq_false hl]; exact Bool.false_ne_true)).mpr fun p5 hp5 => ?_
        refine ⟨p5, _, rfl, .inr (.of upd_same), rfl, rfl, _, rfl, ?_⟩
        have s5 := Same.new hp5 (.tup [V.str (Str.ofString "else"), V.str (Str.ofString "end")])
        have ac5 := ac4.same s5
        generalize upd H4 p5 (.tup [V.str (Str.ofString "else"), V.str (Str.ofString "end")]) = H5 at *
        rw [wd_not wd]
        by_cases hn : wd = .els ∨ wd = .fin
        · refine (if_neg (by rw [decide_eq_true hn]; exact Bool.false_ne_true)).mpr (done _ _ ⟨_, _, _, _, _, us, rfl, ?_, by omega⟩)
          have ea : PG.waysAt rows m i = [] := by
            unfold PG.waysAt
            rw [hrow]
            rcases hn with rfl | rfl <;> rfl
          rw [ew, ea, List.append_nil]
          exact ac5
        · refine (if_pos (by rw [decide_eq_false hn]; rfl)).mpr ⟨.inl ⟨rfl, _, .of ac5.y⟩, put H5 [PG.to rows m (i + 1)] _ ac5 ?_⟩
          unfold PG.waysAt
          rw [hrow]
          cases wd <;> first | rfl | exact absurd (.inl rfl) hl | exact absurd (.inr rfl) hl | exact absurd (.inl rfl) hn | exact absurd (.inr rfl) hn | exact absurd ((wd_stop' _).mpr rfl) e
  · obtain ⟨z3, z4, z5, z6, z7, us, rfl, ac, lu⟩ := (hPv _ _ _).mp hv
    rw [lrv, wf] at ac
    refine (hU3 _ _).mpr ?_
    walk_at "rd"
    refine q fl us H3 (mi.s.trans ac.s) ?_ ac.y ac.f.reps
    cases z : H fl with
    | none => rfl
    | some o => rw [mi.s _ _ z] at hfl; cases hfl
theorem ok_stms (T : Tx K mg t) {n : Nat} (G__law_statements : FnOk P w K mg base CX0 (n + 1) t.f__law_statements t.fd__law_statements ["body"] (spStms K n)) :
    FnOk P w K mg base CX0 (n + 2) t.f__law_statements t.fd__law_statements ["body"] (spStms K (n + 1)) := by
  refine T.D__law_statements.F.okS sc__law_statements (fun vs H Q E h => ?_) (fun cdv A outer s H vs Q E hr h => ?_)
  · obtain ⟨_, _, _, rfl, _⟩ := h
    rfl
  obtain ⟨b, body, H0, rfl, s0, rb, hd, hf, pw, q⟩ := h
  have nd := sc__law_statements.nd
  have hu := hu_of hr
  refine ⟨_, [some (V.ref b), none, none, none], (pss_cons (ps_set (i := 1) nd rfl (Or.inl rfl) pe_dnewK)
 (pss_cons (ps_for PassesOwn.never rfl (pi_list (pv 0)) (pg_name (i := 2) nd rfl (Or.inl rfl))
 (pss_cons (ps_dput hu (pv 1) (pe_ix ix_tup (pv 2) pe_int pl_const) (pv 2) rfl)
 (pss_one (ps_for PassesOwn.never rfl (pi_tup (pe_slice sl_tup (pv 2) (po_some pe_int) po_none)) (pg_name (i := 3) nd rfl (Or.inl rfl))
 (pss_one (ps_expr (pe_bm PySem.F.plainAttrs_dict PySem.F.slot_dict_update PySem.F.type_dict_update mt_update (pv 1) (pa_cons (pe_call G__law_statements (hr.mono (by omega)) rfl T.D__law_statements.m T.D__law_statements.F.kp T.D__law_statements.b .nil pass0 (pa_cons (pv 3) pa_nil st_name)) pa_nil st_call))))))))
 (pss_one (ps_ret (pv 1))))), rfl, ?_⟩
  have line : sizeLine = 2 ^ 24 := rfl
  rw [Rep.lst_iff] at rb
  obtain ⟨_, xs, e, hx, rs⟩ := rb
  cases e
  have lx : xs.length = body.length := by rw [rs.length, List.length_map]
  have lb := len_flats body
  have sl := stmB_len body
  refine seq_gen fun U1 hU1 => ?_
  walk_at "rd"
  intro d hd0
  have s1 := Same.new hd0 (.dK [])
  have y1 : (upd H d (.dK [])) d = some (.dK []) := upd_same
  generalize upd H d (.dK []) = H1 at *
  refine (hU1 _ _).mpr (seq_gen fun U2 hU2 => ?_)
  clear hU1
  refine for_genL fun U hU => ?_
  walk_at "rd"
  refine ⟨⟨xs, (s0.trans s1).seq hx⟩, hU _ _ ?_⟩
  clear hU
  obtain ⟨Pv, hPv⟩ : ∃ Pv : Nat → St → Hp → Prop, ∀ i σ H3, Pv i σ H3 ↔ ∃ (z2 z3 : Option V) (us : List V), σ = [some (V.ref b), some (V.ref d), z2, z3] ∧ Same H H3 ∧ us.length = (PG.stmB (body.take i)).length ∧ H3 d = some (.dK (rowKv (PG.stmB (body.take i)) us)) ∧ Reps K H0 ((PG.stmB (body.take i)).map dpS) us := ⟨_, fun _ _ _ => Iff.rfl⟩
  refine for_list (K := K) (a := b) (xs := xs) Pv ((hPv _ _ _).mpr ⟨none, none, [], rfl, s1, rfl, y1, .nil⟩) (fun i σ H3 _ hv => ?_) ?_ ?_
  · obtain ⟨_, _, _, _, s3, _⟩ := (hPv _ _ _).mp hv
    exact (s0.trans s3).seq hx
  · intro i y σ H3 hi hv
    obtain ⟨z2, z3, us, rfl, s3, lu, y3, r3⟩ := (hPv _ _ _).mp hv
    clear hv
    have done := fun σ H7 => (hPv (i + 1) σ H7).mpr
    have li : i < body.length := by have := (List.getElem?_eq_some_iff.mp hi).1; omega
    obtain ⟨v, hv, rv⟩ := rs.get (i := i) (d := dpS body[i]) (by rw [List.getElem?_map, List.getElem?_eq_getElem li]; rfl)
    rw [hi] at hv
    cases hv
    have mem : body[i] ∈ body := List.getElem_mem li
    obtain ⟨fm, dm⟩ := flats_mem body _ mem
    have et : PG.stmB (body.take (i + 1)) = PG.stmB (body.take i) ++ body[i] :: (bodiesOf body[i]).flatMap PG.stmB := by
      rw [List.take_succ_eq_append_getElem li, stmB_app, stmB_one, stmS_eq]
    rw [et] at done
    have eb : PG.stmB body = (PG.stmB (body.take i) ++ body[i] :: (bodiesOf body[i]).flatMap PG.stmB) ++ PG.stmB (body.drop (i + 1)) := by
      rw [← et, ← stmB_app, List.take_append_drop]
    rw [eb] at pw sl
    have pw := (List.pairwise_append.mp pw).1
    have sl : (PG.stmB (body.take i) ++ body[i] :: (bodiesOf body[i]).flatMap PG.stmB).length ≤ 1000 := by
      rw [List.length_append] at sl
      omega
    generalize body[i] = st at *
    generalize PG.stmB (body.take i) = pre at *
    obtain ⟨sa, ys, rfl, hs, l2, l7, e1, rc⟩ := stm_cut st rv
    simp only [gName, List.set]
    refine seq_gen fun U3 hU3 => ?_
    walk_at "rd"
    have fresh : (Sum.inl st.row : Key) ∉ (rowKv pre us).map (·.1) := by
      rw [rowKv_keys _ _ lu]
      intro z
      obtain ⟨x, hx, e⟩ := List.mem_map.mp z
      have e := Sum.inl.inj e
      have := (List.pairwise_append.mp pw).2.2 x hx st (List.mem_cons_self ..)
      omega
    have lr : (rowKv pre us).length ≤ 1000 := by
      have := congrArg List.length (rowKv_keys _ _ lu)
      rw [List.length_map, List.length_map] at this
      rw [List.length_append] at sl
      omega
    refine rIxT_i ((s0.trans s3).seqT hs) (v := .int st.row) (atI_nat (j := 1) e1) ⟨d, _, rfl, .inl ⟨_, .inl st.row, y3, rfl, by omega, rfl⟩, (hU3 _ _).mpr ?_⟩
    clear hU3
    rw [putK_fresh fresh]
    have y4 : (upd H3 d (.dK (rowKv pre us ++ [(Sum.inl st.row, V.ref sa)]))) d = some (.dK (rowKv (pre ++ [st]) (us ++ [V.ref sa]))) := by rw [upd_same, rowKv_app _ _ _ _ lu]; rfl
    have s4 : Same H (upd H3 d (.dK (rowKv pre us ++ [(Sum.inl st.row, V.ref sa)]))) := fun z o e => by rw [upd_ne (ne_of_none e hd0)]; exact s3 z o e
    generalize upd H3 d (.dK (rowKv pre us ++ [(Sum.inl st.row, V.ref sa)])) = H4 at *
    refine for_genT fun U hU => ?_
    simp only [tSl]
    walk_at "rd"
    refine ⟨5, rfl, sa, ys, rfl, (s0.trans s4).seqT hs, ?_, fun p hp => ⟨p, rfl, ⟨_, .of upd_same⟩, hU _ _ ?_⟩⟩
    · intro z
      have z1 := z.1
      rw [show (5 : Int) = ((5 : Nat) : Int) from rfl, HT.sIx_nat] at z1
      omega
    clear hU
    have s5 := s4.trans (Same.new hp (.tup (cutV ys (some 5) none)))
    have y5 := Same.new hp (.tup (cutV ys (some 5) none)) _ _ y4
    have h5 : (upd H4 p (.tup (cutV ys (some 5) none))) p = some (.tup (cutV ys (some 5) none)) := upd_same
    have npd : p ≠ d := (ne_of_none y4 hp).symm
    generalize upd H4 p (.tup (cutV ys (some 5) none)) = H5 at *
    generalize cutV ys (some 5) none = bv at *
    have lbv : bv.length = (bodiesOf st).length := by rw [rc.length, List.length_map]
    obtain ⟨Pw, hPw⟩ : ∃ Pw : Nat → St → Hp → Prop, ∀ j σ H6, Pw j σ H6 ↔ ∃ (z3 : Option V) (us' : List V), σ = [some (V.ref b), some (V.ref d), some (V.ref sa), z3] ∧ Same H H6 ∧ H6 p = some (.tup bv) ∧ us'.length = (pre ++ st :: ((bodiesOf st).take j).flatMap PG.stmB).length ∧ H6 d = some (.dK (rowKv (pre ++ st :: ((bodiesOf st).take j).flatMap PG.stmB) us')) ∧ Reps K H0 ((pre ++ st :: ((bodiesOf st).take j).flatMap PG.stmB).map dpS) us' := ⟨_, fun _ _ _ => Iff.rfl⟩
    refine for_tup (K := K) (a := p) (xs := bv) Pw ((hPw _ _ _).mpr ⟨z3, us ++ [V.ref sa], rfl, s5, h5, by simp [lu], y5, ?_⟩) (fun j σ H6 _ hv => ?_) ?_ ?_
    · rw [List.take_zero, List.flatMap_nil, List.map_append]
      exact r3.append (.cons rv .nil)
    · obtain ⟨_, _, _, _, h6, _⟩ := (hPw _ _ _).mp hv
      exact .of h6
    · intro j y σ H6 hj hv
      obtain ⟨z3', us', rfl, s6, h6, lu6, y6, r6⟩ := (hPw _ _ _).mp hv
      clear hv
      have doneW := fun σ H7 => (hPw (j + 1) σ H7).mpr
      have lj : j < (bodiesOf st).length := by have := (List.getElem?_eq_some_iff.mp hj).1; omega
      obtain ⟨v, hv, rbj⟩ := rc.get (i := j) (d := .lst ((bodiesOf st)[j].map dpS)) (by rw [List.getElem?_map, List.getElem?_eq_getElem lj]; rfl)
      rw [hj] at hv
      cases hv
      have mj : (bodiesOf st)[j] ∈ bodiesOf st := List.getElem_mem lj
      obtain ⟨fb, db⟩ := flatS_bodies st _ mj
      have ej : ((bodiesOf st).take (j + 1)).flatMap PG.stmB = ((bodiesOf st).take j).flatMap PG.stmB ++ PG.stmB (bodiesOf st)[j] := by
        rw [List.take_succ_eq_append_getElem lj, List.flatMap_append]
        simp
      have ea : (bodiesOf st).flatMap PG.stmB = ((bodiesOf st).take j).flatMap PG.stmB ++ PG.stmB (bodiesOf st)[j] ++ ((bodiesOf st).drop (j + 1)).flatMap PG.stmB := by
        rw [← ej, ← List.flatMap_append, List.take_append_drop]
      rw [ej] at doneW
      rw [ea] at pw sl
      generalize (bodiesOf st)[j] = bb at *
      generalize ((bodiesOf st).take j).flatMap PG.stmB = mid at *
      generalize ((bodiesOf st).drop (j + 1)).flatMap PG.stmB = rest at *
      have pw2 : ((pre ++ st :: mid) ++ PG.stmB bb).Pairwise (fun a b => a.row < b.row) := by
        rw [show pre ++ st :: (mid ++ PG.stmB bb ++ rest) = ((pre ++ st :: mid) ++ PG.stmB bb) ++ rest by simp] at pw
        exact (List.pairwise_append.mp pw).1
      have sl2 : (pre ++ st :: mid).length + (PG.stmB bb).length ≤ 1000 := by
        simp only [List.length_append, List.length_cons] at sl ⊢
        omega
      obtain ⟨ab, _, rfl, _⟩ := Rep.lst_iff.mp rbj
      simp only [gName, List.set]
      walk_at "rd"
      refine ⟨.inr (.inr (.inl ⟨rfl, .inl ⟨_, y6⟩⟩)), ab, bb, H0, rfl, s0.trans s6, rbj, by omega, by omega, (List.pairwise_append.mp pw2).2.1, fun d2 us2 H7 s7 hd2 l2 y7 r7 => ?_⟩
      have nd2 : d ≠ d2 := ne_of_none y6 hd2
      have lk1 : (rowKv (pre ++ st :: mid) us').length = (pre ++ st :: mid).length := by
        have := congrArg List.length (rowKv_keys _ _ lu6)
        rwa [List.length_map, List.length_map] at this
      have lk2 : (rowKv (PG.stmB bb) us2).length = (PG.stmB bb).length := by
        have := congrArg List.length (rowKv_keys _ _ l2)
        rwa [List.length_map, List.length_map] at this
      refine ⟨d, d2, _, _, rfl, rfl, nd2, s7 _ _ y6, y7, by omega, ?_⟩
      rw [mergeK_new _ _ (by rw [← rowKv_app _ _ _ _ lu6, rowKv_keys _ _ (by simp only [List.length_append] at *; omega)]; exact rows_nodup pw2), ← rowKv_app _ _ _ _ lu6]
      refine doneW _ _ ⟨_, us' ++ us2, rfl, fun z o e => by rw [upd_ne (ne_of_none e hd0)]; exact s7 _ _ (s6 z o e), by rw [upd_ne npd]; exact s7 _ _ h6, by simp only [List.length_append, List.length_cons] at *; omega, ?_, ?_⟩
      · rw [upd_same]
        simp
      · rw [show pre ++ st :: (mid ++ PG.stmB bb) = (pre ++ st :: mid) ++ PG.stmB bb by simp, List.map_append]
        exact r6.append r7
    · intro σ H6 hv
      obtain ⟨z3', us', rfl, s6, h6, lu6, y6, r6⟩ := (hPw _ _ _).mp hv
      rw [lbv, List.take_length] at lu6 y6 r6
      exact done _ _ ⟨_, _, us', rfl, s6, lu6, y6, r6⟩
  · intro σ H3 hv
    obtain ⟨z2, z3, us, rfl, s3, lu, y3, r3⟩ := (hPv _ _ _).mp hv
    rw [lx, List.take_length] at lu y3 r3
    refine (hU2 _ _).mpr ?_
    walk_at "rd"
    exact q d us H3 s3 hd0 lu y3 r3
theorem all_stms (T : Tx K mg t) : ∀ n, FnOk P w K mg base CX0 (n + 1) t.f__law_statements t.fd__law_statements ["body"] (spStms K n)
  | 0 => by
    have no : ∀ vs H Q E, ¬ spStms K 0 vs H Q E := fun vs H Q E ⟨_, _, _, _, _, _, h, _⟩ => by omega
    exact ⟨fun vs H Q E h => absurd h (no vs H Q E), fun A outer s H args us vs Q E _ _ _ _ h => absurd h (no vs H Q E)⟩
  | n + 1 => ok_stms T (all_stms T n)
theorem ok_stmIn (T : Tx K mg t) {n : Nat} (G_statements_in : FnOk P w K mg base CX0 (n + 2) t.f_statements_in t.fd_statements_in ["body"] (spStmIn K n)) :
    FnOk P w K mg base CX0 (n + 3) t.f_statements_in t.fd_statements_in ["body"] (spStmIn K (n + 1)) := by
  have G_bodies_in : FnOk P w K mg base CX0 1 t.f_bodies_in t.fd_bodies_in ["statement"] (spBodies K) := ok_bodies_in T
  refine T.D_statements_in.F.okS sc_statements_in (fun vs H Q E h => ?_) (fun cdv A outer s H vs Q E hr h => ?_)
  · obtain ⟨_, _, _, rfl, _⟩ := h
    rfl
  obtain ⟨b, body, H0, rfl, s0, rb, hd, hf, q⟩ := h
  have nd := sc_statements_in.nd
  refine ⟨_, [some (V.ref b), none, none, none], (pss_cons (ps_set (i := 1) nd rfl (Or.inl rfl) (pe_lst pa_nil))
 (pss_cons (ps_for PassesOwn.never rfl (pi_list (pv 0)) (pg_name (i := 2) nd rfl (Or.inl rfl))
 (pss_cons (ps_expr (pe_bm PySem.F.plainAttrs_list PySem.F.slot_list_append PySem.F.type_list_append mt_append (pv 1) (pa_cons (pv 2) pa_nil st_name)))
 (pss_one (ps_for PassesOwn.never rfl (pi_list (pe_call G_bodies_in (hr.mono (by omega)) rfl T.D_bodies_in.m T.D_bodies_in.F.kp T.D_bodies_in.b .nil pass0 (pa_cons (pv 2) pa_nil st_name))) (pg_name (i := 3) nd rfl (Or.inl rfl))
 (pss_one (ps_expr (pe_bm PySem.F.plainAttrs_list PySem.F.slot_list_extend PySem.F.type_list_extend mt_extend (pv 1) (pa_cons (pe_call G_statements_in (hr.mono (by omega)) rfl T.D_statements_in.m T.D_statements_in.F.kp T.D_statements_in.b .nil pass0 (pa_cons (pv 3) pa_nil st_name)) pa_nil st_call))))))))
 (pss_one (ps_ret (pv 1))))), rfl, ?_⟩
  have line : sizeLine = 2 ^ 24 := rfl
  rw [Rep.lst_iff] at rb
  obtain ⟨_, xs, e, hx, rs⟩ := rb
  cases e
  have lx : xs.length = body.length := by rw [rs.length, List.length_map]
  have lb := len_flats body
  have sl := stmB_len body
  refine seq_gen fun U1 hU1 => ?_
  walk_at "rd"
  intro d hd0
  have s1 := Same.new hd0 (.lst [])
  have y1 : (upd H d (.lst [])) d = some (.lst []) := upd_same
  generalize upd H d (.lst []) = H1 at *
  refine (hU1 _ _).mpr (seq_gen fun U2 hU2 => ?_)
  clear hU1
  refine for_genL fun U hU => ?_
  walk_at "rd"
  refine ⟨⟨xs, (s0.trans s1).seq hx⟩, hU _ _ ?_⟩
  clear hU
  obtain ⟨Pv, hPv⟩ : ∃ Pv : Nat → St → Hp → Prop, ∀ i σ H3, Pv i σ H3 ↔ ∃ (z2 z3 : Option V) (us : List V), σ = [some (V.ref b), some (V.ref d), z2, z3] ∧ Same H H3 ∧ us.length = (PG.stmB (body.take i)).length ∧ H3 d = some (.lst us) ∧ Reps K H0 ((PG.stmB (body.take i)).map dpS) us := ⟨_, fun _ _ _ => Iff.rfl⟩
  refine for_list (K := K) (a := b) (xs := xs) Pv ((hPv _ _ _).mpr ⟨none, none, [], rfl, s1, rfl, y1, .nil⟩) (fun i σ H3 _ hv => ?_) ?_ ?_
  · obtain ⟨_, _, _, _, s3, _⟩ := (hPv _ _ _).mp hv
    exact (s0.trans s3).seq hx
  · intro i y σ H3 hi hv
    obtain ⟨z2, z3, us, rfl, s3, lu, y3, r3⟩ := (hPv _ _ _).mp hv
    clear hv
    have done := fun σ H7 => (hPv (i + 1) σ H7).mpr
    have li : i < body.length := by have := (List.getElem?_eq_some_iff.mp hi).1; omega
    obtain ⟨v, hv, rv⟩ := rs.get (i := i) (d := dpS body[i]) (by rw [List.getElem?_map, List.getElem?_eq_getElem li]; rfl)
    rw [hi] at hv
    cases hv
    have mem : body[i] ∈ body := List.getElem_mem li
    obtain ⟨fm, dm⟩ := flats_mem body _ mem
    have et : PG.stmB (body.take (i + 1)) = PG.stmB (body.take i) ++ body[i] :: (bodiesOf body[i]).flatMap PG.stmB := by
      rw [List.take_succ_eq_append_getElem li, stmB_app, stmB_one, stmS_eq]
    rw [et] at done
    have eb : PG.stmB body = (PG.stmB (body.take i) ++ body[i] :: (bodiesOf body[i]).flatMap PG.stmB) ++ PG.stmB (body.drop (i + 1)) := by
      rw [← et, ← stmB_app, List.take_append_drop]
    rw [eb] at sl
    have sl : (PG.stmB (body.take i) ++ body[i] :: (bodiesOf body[i]).flatMap PG.stmB).length ≤ 1000 := by
      rw [List.length_append] at sl
      omega
    generalize body[i] = st at *
    generalize PG.stmB (body.take i) = pre at *
    simp only [gName, List.set]
    refine seq_gen fun U3 hU3 => ?_
    walk_at "rd"
    refine ⟨.inl ⟨rfl, _, .of y3⟩, d, us, y, rfl, rfl, y3, by simp only [List.length_append, List.length_cons] at sl; omega, (hU3 _ _).mpr ?_⟩
    clear hU3
    have y4 : (upd H3 d (.lst (us ++ [y]))) d = some (.lst (us ++ [y])) := upd_same
    have s4 : Same H (upd H3 d (.lst (us ++ [y]))) := fun z o e => by rw [upd_ne (ne_of_none e hd0)]; exact s3 z o e
    generalize upd H3 d (.lst (us ++ [y])) = H4 at *
    refine for_genL fun U hU => ?_
    walk_at "rd"
    refine ⟨y, st, H0, rfl, rv, s0.trans s4, fun p bv H5 s5' hp h5 rc => ⟨p, rfl, ⟨_, .of h5⟩, hU _ _ ?_⟩⟩
    clear hU
    have s5 := s4.trans s5'
    have y5 := s5' _ _ y4
    have npd : p ≠ d := (ne_of_none y4 hp).symm
    have lbv : bv.length = (bodiesOf st).length := by rw [rc.length, List.length_map]
    obtain ⟨Pw, hPw⟩ : ∃ Pw : Nat → St → Hp → Prop, ∀ j σ H6, Pw j σ H6 ↔ ∃ (z3 : Option V) (us' : List V), σ = [some (V.ref b), some (V.ref d), some y, z3] ∧ Same H H6 ∧ H6 p = some (.lst bv) ∧ us'.length = (pre ++ st :: ((bodiesOf st).take j).flatMap PG.stmB).length ∧ H6 d = some (.lst us') ∧ Reps K H0 ((pre ++ st :: ((bodiesOf st).take j).flatMap PG.stmB).map dpS) us' := ⟨_, fun _ _ _ => Iff.rfl⟩
    refine for_list (K := K) (a := p) (xs := bv) Pw ((hPw _ _ _).mpr ⟨z3, us ++ [y], rfl, s5, h5, by simp [lu], y5, ?_⟩) (fun j σ H6 _ hv => ?_) ?_ ?_
    · rw [List.take_zero, List.flatMap_nil, List.map_append]
      exact r3.append (.cons rv .nil)
    · obtain ⟨_, _, _, _, h6, _⟩ := (hPw _ _ _).mp hv
      exact .of h6
    · intro j y' σ H6 hj hv
      obtain ⟨z3', us', rfl, s6, h6, lu6, y6, r6⟩ := (hPw _ _ _).mp hv
      clear hv
      have doneW := fun σ H7 => (hPw (j + 1) σ H7).mpr
      have lj : j < (bodiesOf st).length := by have := (List.getElem?_eq_some_iff.mp hj).1; omega
      obtain ⟨v, hv, rbj⟩ := rc.get (i := j) (d := .lst ((bodiesOf st)[j].map dpS)) (by rw [List.getElem?_map, List.getElem?_eq_getElem lj]; rfl)
      rw [hj] at hv
      cases hv
      have mj : (bodiesOf st)[j] ∈ bodiesOf st := List.getElem_mem lj
      obtain ⟨fb, db⟩ := flatS_bodies st _ mj
      have ej : ((bodiesOf st).take (j + 1)).flatMap PG.stmB = ((bodiesOf st).take j).flatMap PG.stmB ++ PG.stmB (bodiesOf st)[j] := by
        rw [List.take_succ_eq_append_getElem lj, List.flatMap_append]
        simp
      have ea : (bodiesOf st).flatMap PG.stmB = ((bodiesOf st).take j).flatMap PG.stmB ++ PG.stmB (bodiesOf st)[j] ++ ((bodiesOf st).drop (j + 1)).flatMap PG.stmB := by
        rw [← ej, ← List.flatMap_append, List.take_append_drop]
      rw [ej] at doneW
      rw [ea] at sl
      generalize (bodiesOf st)[j] = bb at *
      generalize ((bodiesOf st).take j).flatMap PG.stmB = mid at *
      generalize ((bodiesOf st).drop (j + 1)).flatMap PG.stmB = rest at *
      have sl2 : (pre ++ st :: mid).length + (PG.stmB bb).length ≤ 1000 := by
        simp only [List.length_append, List.length_cons] at sl ⊢
        omega
      obtain ⟨ab, _, rfl, _⟩ := Rep.lst_iff.mp rbj
      simp only [gName, List.set]
      walk_at "rd"
      refine ⟨.inl ⟨rfl, _, .of y6⟩, ab, bb, H0, rfl, s0.trans s6, rbj, by omega, by omega, fun d2 us2 H7 s7 hd2 y7 r7 => ?_⟩
      have l2 : us2.length = (PG.stmB bb).length := by rw [r7.length, List.length_map]
      refine ⟨d, d2, _, _, rfl, rfl, s7 _ _ y6, y7, by omega, ?_⟩
      refine doneW _ _ ⟨_, us' ++ us2, rfl, fun z o e => by rw [upd_ne (ne_of_none e hd0)]; exact s7 _ _ (s6 z o e), by rw [upd_ne npd]; exact s7 _ _ h6, by simp only [List.length_append, List.length_cons] at *; omega, upd_same, ?_⟩
      rw [show pre ++ st :: (mid ++ PG.stmB bb) = (pre ++ st :: mid) ++ PG.stmB bb by simp, List.map_append]
      exact r6.append r7
    · intro σ H6 hv
      obtain ⟨z3', us', rfl, s6, h6, lu6, y6, r6⟩ := (hPw _ _ _).mp hv
      rw [lbv, List.take_length] at lu6 r6
      exact done _ _ ⟨_, _, us', rfl, s6, lu6, y6, r6⟩
  · intro σ H3 hv
    obtain ⟨z2, z3, us, rfl, s3, lu, y3, r3⟩ := (hPv _ _ _).mp hv
    rw [lx, List.take_length] at lu r3
    refine (hU2 _ _).mpr ?_
    walk_at "rd"
    exact q d us H3 s3 hd0 y3 r3
theorem all_stmIn (T : Tx K mg t) : ∀ n, FnOk P w K mg base CX0 (n + 2) t.f_statements_in t.fd_statements_in ["body"] (spStmIn K n)
  | 0 => by
    have no : ∀ vs H Q E, ¬ spStmIn K 0 vs H Q E := fun vs H Q E ⟨_, _, _, _, _, _, h, _⟩ => by omega
    exact ⟨fun vs H Q E h => absurd h (no vs H Q E), fun A outer s H args us vs Q E _ _ _ _ h => absurd h (no vs H Q E)⟩
  | n + 1 => ok_stmIn T (all_stmIn T n)
theorem none_back {H H' : Hp} {b : Addr} (s : Same H H') (h : H' b = none) : H b = none := by
  cases z : H b with
  | none => rfl
  | some o => rw [s _ _ z] at h; cases h
theorem reps_split {K : PySem.W.Frag} {H : Hp} : ∀ {ds es : List Dp} {xs : List V}, Reps K H (ds ++ es) xs → ∃ hs ws, xs = hs ++ ws ∧ Reps K H ds hs ∧ Reps K H es ws
  | [], es, xs, h => ⟨[], xs, rfl, .nil, h⟩
  | d :: ds, es, xs, h => by
    rw [List.cons_append, Reps.cons_iff] at h
    obtain ⟨v, t, rfl, h1, h2⟩ := h
    obtain ⟨hs, ws, rfl, h3, h4⟩ := reps_split h2
    exact ⟨v :: hs, ws, rfl, .cons h1 h3, h4⟩
theorem ok_with (T : Tx K mg t) : FnOk P w K mg base CX0 1 t.f_with_bodies t.fd_with_bodies ["statement", "bodies"] (spWith K) := by
  refine T.D_with_bodies.F.okS sc_with_bodies (fun vs H Q E h => ?_) (fun cdv A outer s H vs Q E hr h => ?_)
  · obtain ⟨_, _, _, _, _, rfl, _⟩ := h
    rfl
  obtain ⟨a, l, hs, ws, bs, rfl, ha, hn, l5, lw, lb, hl, q⟩ := h
  have nd := sc_with_bodies.nd
  refine ⟨_, [some (V.ref a), some (V.ref l)], (pss_one (ps_ret (pe_op op_catT (pe_slice sl_tupT (pv 0) po_none (po_some (pe_op op_sub (pe_callB call_len_seq rfl T.z_len PyProof.Rows.Boot.«len» (pa_cons (pv 0) pa_nil st_name)) (pe_callB call_len_seq rfl T.z_len PyProof.Rows.Boot.«len» (pa_cons (pv 1) pa_nil st_name))))) (pe_callTy call_tuple_of rfl T.z_tuple PyProof.Rows.Boot.«tuple» (pa_cons (pv 1) pa_nil st_name))))), rfl, ?_⟩
  have line : sizeLine = 2 ^ 24 := rfl
  simp only [tSl]
  walk_at "rd"
  have len : ((hs ++ ws).length : Int) - (bs.length : Int) = ((hs.length : Nat) : Int) := by rw [List.length_append]; omega
  refine ⟨a, _, rfl, .inr ha, l, bs, rfl, .inl (.of hl), _, rfl, a, _, rfl, ha, fun hw => ?_, fun hw p hp => ?_⟩
  · rw [len, HT.sIx_nat, List.length_append] at hw
    have hb : bs = [] := List.length_eq_zero_iff.mp (by have := hw.2; omega)
    have hw' : ws = [] := List.length_eq_zero_iff.mp (by have := hw.2; omega)
    subst hb hw'
    refine ⟨l, [], rfl, .inl ⟨.of hl, fun p2 hp2 => ?_⟩⟩
    have s2 := Same.new hp2 (.tup [])
    refine ⟨a, p2, _, [], rfl, rfl, s2.seqT ha, .of upd_same, by simpa using hn, by simp only [List.append_nil, List.length_nil]; omega, fun _ => q a _ s2 (s2.seqT ha), fun z => absurd rfl z⟩
  · have ec : cutV (hs ++ ws) none (some (((hs ++ ws).length : Int) - (bs.length : Int))) = hs := by
      rw [len]
      unfold cutV
      rw [HT.sIx_none, HT.sIx_nat, List.length_append, Nat.min_eq_left (by omega), List.drop_zero, Nat.sub_zero, List.take_left]
    rw [ec]
    have s1 := Same.new hp (.tup hs)
    have h1 : (upd H p (.tup hs)) p = some (.tup hs) := upd_same
    generalize upd H p (.tup hs) = H1 at *
    refine ⟨l, bs, rfl, .inl ⟨.of (s1 _ _ hl), fun p2 hp2 => ?_⟩⟩
    have s2 := Same.new hp2 (.tup bs)
    have h2 : (upd H1 p2 (.tup bs)) p2 = some (.tup bs) := upd_same
    have h1' := s2 _ _ h1
    generalize upd H1 p2 (.tup bs) = H2 at *
    refine ⟨p, p2, hs, bs, rfl, rfl, .of h1', .of h2, hn, by omega, fun z => ?_, fun z p3 hp3 => ?_⟩
    · subst z
      exact q p _ (s1.trans s2) (by rw [List.append_nil]; exact .of h1')
    · exact q p3 _ ((s1.trans s2).trans (Same.new hp3 _)) (.of upd_same)
theorem ok_copyS (T : Tx K mg t) {n : Nat} (G_copied_body : FnOk P w K mg base CX0 (2 * n + 2) t.f_copied_body t.fd_copied_body ["body"] (spCopyB K n)) :
    FnOk P w K mg base CX0 (2 * n + 3) t.f_copied_statement t.fd_copied_statement ["statement"] (spCopyS K n) := by
  have G_with_bodies := ok_with (P := P) (w := w) (base := base) T
  have G_bodies_in : FnOk P w K mg base CX0 1 t.f_bodies_in t.fd_bodies_in ["statement"] (spBodies K) := ok_bodies_in T
  refine T.D_copied_statement.F.okS sc_copied_statement (fun vs H Q E h => ?_) (fun cdv A outer s H vs Q E hr h => ?_)
  · obtain ⟨_, _, _, rfl, _⟩ := h
    rfl
  obtain ⟨v, st, H0, rfl, s0, rv, hd, hf, q⟩ := h
  have nd := sc_copied_statement.nd
  refine ⟨_, [some v], (pss_one (ps_ret (pe_call G_with_bodies (hr.mono (by omega)) rfl T.D_with_bodies.m T.D_with_bodies.F.kp T.D_with_bodies.b .nil pass0 (pa_cons (pv 0) (pa_cons (pe_comp (own := ["inner"]) (ix := []) rfl (by rfl) (by rfl) (pi_list (pe_call G_bodies_in (hr.mono (by omega)) rfl T.D_bodies_in.m T.D_bodies_in.F.kp T.D_bodies_in.b .nil pass0 (pa_cons (pv 0) pa_nil st_name))) (fun _ _ _ _ => (pg_name (i := 0) (by show List.Nodup (["inner"] : List Str); decide +kernel) rfl (Or.inl rfl))) (fun _ _ _ _ => pts_nil) (fun _ _ _ _ => (pe_call G_copied_body (hr.mono (by omega)) rfl T.D_copied_body.m T.D_copied_body.F.kp T.D_copied_body.b .nil pass0 (pa_cons (pv 0) pa_nil st_name)))) pa_nil st_comp) st_name)))), rfl, ?_⟩
  have line : sizeLine = 2 ^ 24 := rfl
  walk_at "rd"
  simp only [tComp]
  walk_at "rd"
  refine ⟨v, st, H0, rfl, rv, s0, fun l bv H1 s1 hl y1 rc => ⟨l, rfl, ⟨_, .of y1⟩, fun D hD => ?_⟩⟩
  have lbv : bv.length = (bodiesOf st).length := by rw [rc.length, List.length_map]
  have few : (bodiesOf st).length ≤ 2 := by cases st <;> simp [bodiesOf]
  have hDH : H D = none := none_back s1 hD
  refine comp_listI (K := K) (r := []) (fun i ys H2 => ∃ (bs : List Addr) (Gs : List (List Addr)), ys = bs.map V.ref ∧ All3 (TrB K H2 n) ((bodiesOf st).take i) bs Gs ∧ Gs.flatten.Nodup ∧ ∀ f ∈ Gs.flatten, H f = none ∧ f ≠ D) (.of y1) (by omega) hD ⟨[], [], rfl, trivial, List.nodup_nil, by simp⟩ ?_ ?_
  · rintro i x ys H2 hx s2 hDy ly ⟨bs, Gs, rfl, al, ndG, new⟩ R hR
    have li : i < (bodiesOf st).length := by have := (List.getElem?_eq_some_iff.mp hx).1; omega
    obtain ⟨v', hv', rb⟩ := rc.get (i := i) (d := .lst ((bodiesOf st)[i].map dpS)) (by rw [List.getElem?_map, List.getElem?_eq_getElem li]; rfl)
    rw [hx] at hv'
    cases hv'
    have mi : (bodiesOf st)[i] ∈ bodiesOf st := List.getElem_mem li
    obtain ⟨fb, db⟩ := flatS_bodies st _ mi
    obtain ⟨ab, _, rfl, _⟩ := Rep.lst_iff.mp rb
    walk_at "rd"
    refine ⟨ab, (bodiesOf st)[i], H0, rfl, (s0.trans s1).trans s2, rb, by omega, by omega, fun l2 F H3 s3 tr ndF newF => hR _ H3 s3 ⟨bs ++ [l2], Gs ++ [F], by simp, ?_, ?_, ?_⟩⟩
    · rw [List.take_succ_eq_append_getElem li]
      have u2 : UptoS (· = D) H2 (upd H3 D (.lst (bs.map V.ref ++ [V.ref l2]))) := (UptoS.of s3).trans (UptoS.refl.put (O := (· = D)) rfl _)
      have u3 : UptoS (· = D) H3 (upd H3 D (.lst (bs.map V.ref ++ [V.ref l2]))) := UptoS.refl.put (O := (· = D)) rfl _
      refine (al.imp fun bd b' G' _ mG' ht => TrB.stay (O := (· = D)) (fun g z => ⟨_, z ▸ hDy⟩) u2 n bd b' G' (fun f hf z => (new f (List.mem_flatten.mpr ⟨_, mG', hf⟩)).2 z) ht).snoc ?_
      exact TrB.stay (O := (· = D)) (fun g z => ⟨_, z ▸ s3 _ _ hDy⟩) u3 n _ _ _ (fun f hf z => by have := newF f hf; rw [z, hDy] at this; cases this) tr
    · rw [List.flatten_append, List.flatten_cons, List.flatten_nil, List.append_nil]
      refine List.nodup_append.mpr ⟨ndG, ndF, fun f hf g hg z => ?_⟩
      subst z
      have no := newF f hg
      obtain ⟨G', mG', hf'⟩ := List.mem_flatten.mp hf
      have key : ∀ {as : List (List PG.Stm)} {bs : List Addr} {cs : List (List Addr)}, All3 (TrB K H2 n) as bs cs → G' ∈ cs → ∃ ys, H2 f = some (.lst ys) := by
        intro as
        induction as with
        | nil => intro bs cs h m; obtain ⟨rfl, rfl⟩ := All3.nil_iff.mp h; cases m
        | cons x as ih =>
          intro bs cs h m
          obtain ⟨b', bs', c, cs', rfl, rfl, h1, h2⟩ := All3.cons_iff.mp h
          rcases List.mem_cons.mp m with rfl | m
          · exact TrB.lists n _ _ _ h1 f hf'
          · exact ih h2 m
      obtain ⟨_, e⟩ := key al mG'
      rw [e] at no
      cases no
    · intro f hf
      rw [List.flatten_append, List.flatten_cons, List.flatten_nil, List.append_nil] at hf
      rcases List.mem_append.mp hf with hf | hf
      · exact new f hf
      · have no := newF f hf
        exact ⟨none_back (s1.trans s2) no, fun z => by rw [z, hDy] at no; cases no⟩
  · rintro ys H2 s2 hDy ⟨bs, Gs, rfl, al, ndG, new⟩
    rw [lbv, List.take_length] at al
    rw [dpS_hd] at rv
    obtain ⟨a, xs, rfl, hx, rs⟩ := Rep.tup_iff.mp rv
    obtain ⟨hs, ws, rfl, r1, r2⟩ := reps_split rs
    have lh := r1.length
    obtain ⟨h1, h2, _⟩ := hdS_len st
    have lw := r2.length
    rw [List.length_map] at lw
    have lbs := (al.length).1
    have s02 := (s0.trans s1).trans s2
    refine ⟨a, D, hs, ws, bs.map V.ref, rfl, s02.seqT hx, fun z => by rw [z] at lh; simp at lh; omega, by omega, by rw [List.length_map]; omega, by rw [List.length_map]; omega, hDy, fun p H3 s3 hp3 => ?_⟩
    refine q (.ref p) Gs.flatten H3 ((s1.trans s2).trans s3) ⟨p, hs, bs, Gs, rfl, hp3, r1.mono (s02.trans s3), al.imp fun bd b' G' _ _ ht => TrB.stay (O := fun _ => False) (fun g z => z.elim) (.of s3) n bd b' G' (fun f _ z => z) ht, rfl⟩ ndG fun f hf => (new f hf).1
theorem ok_copyB (T : Tx K mg t) {n : Nat} (G_copied_statement : FnOk P w K mg base CX0 (2 * n + 3) t.f_copied_statement t.fd_copied_statement ["statement"] (spCopyS K n)) :
    FnOk P w K mg base CX0 (2 * n + 4) t.f_copied_body t.fd_copied_body ["body"] (spCopyB K (n + 1)) := by
  refine T.D_copied_body.F.okS sc_copied_body (fun vs H Q E h => ?_) (fun cdv A outer s H vs Q E hr h => ?_)
  · obtain ⟨_, _, _, rfl, _⟩ := h
    rfl
  obtain ⟨b, body, H0, rfl, s0, rb, hd, hf, q⟩ := h
  have nd := sc_copied_body.nd
  refine ⟨_, [some (V.ref b)], (pss_one (ps_ret (pe_comp (own := ["statement"]) (ix := []) rfl (by rfl) (by rfl) (pi_list (pv 0)) (fun _ _ _ _ => (pg_name (i := 0) (by show List.Nodup (["statement"] : List Str); decide +kernel) rfl (Or.inl rfl))) (fun _ _ _ _ => pts_nil) (fun _ _ _ _ => (pe_call G_copied_statement (hr.mono (by omega)) rfl T.D_copied_statement.m T.D_copied_statement.F.kp T.D_copied_statement.b .nil pass0 (pa_cons (pv 0) pa_nil st_name)))))), rfl, ?_⟩
  have line : sizeLine = 2 ^ 24 := rfl
  rw [Rep.lst_iff] at rb
  obtain ⟨_, xs, e, hx, rs⟩ := rb
  cases e
  have lx : xs.length = body.length := by rw [rs.length, List.length_map]
  have lb := len_flats body
  walk_at "rd"
  simp only [tComp]
  walk_at "rd"
  refine ⟨⟨_, s0.seq hx⟩, fun D hD => ?_⟩
  refine comp_listI (K := K) (r := []) (fun i ys H2 => ∃ Gs : List (List Addr), All3 (TrS K H2 n) (body.take i) ys Gs ∧ Gs.flatten.Nodup ∧ ∀ f ∈ Gs.flatten, H f = none ∧ f ≠ D) (s0.seq hx) (by omega) hD ⟨[], trivial, List.nodup_nil, by simp⟩ ?_ ?_
  · rintro i x ys H2 hxi s2 hDy ly ⟨Gs, al, ndG, new⟩ R hR
    have li : i < body.length := by have := (List.getElem?_eq_some_iff.mp hxi).1; omega
    obtain ⟨v', hv', rv⟩ := rs.get (i := i) (d := dpS body[i]) (by rw [List.getElem?_map, List.getElem?_eq_getElem li]; rfl)
    rw [hxi] at hv'
    cases hv'
    obtain ⟨fm, dm⟩ := flats_mem body _ (List.getElem_mem li)
    walk_at "rd"
    refine ⟨x, body[i], H0, rfl, s0.trans s2, rv, by omega, by omega, fun u F H3 s3 tr ndF newF => hR _ H3 s3 ⟨Gs ++ [F], ?_, ?_, ?_⟩⟩
    · rw [List.take_succ_eq_append_getElem li]
      have u2 : UptoS (· = D) H2 (upd H3 D (.lst (ys ++ [u]))) := (UptoS.of s3).trans (UptoS.refl.put (O := (· = D)) rfl _)
      have u3 : UptoS (· = D) H3 (upd H3 D (.lst (ys ++ [u]))) := UptoS.refl.put (O := (· = D)) rfl _
      refine (al.imp fun bd b' G' _ mG' ht => TrS.stay (O := (· = D)) (fun g z => ⟨_, z ▸ hDy⟩) u2 (fun f hf z => (new f (List.mem_flatten.mpr ⟨_, mG', hf⟩)).2 z) ht).snoc ?_
      exact TrS.stay (O := (· = D)) (fun g z => ⟨_, z ▸ s3 _ _ hDy⟩) u3 (fun f hf z => by have := newF f hf; rw [z, hDy] at this; cases this) tr
    · rw [List.flatten_append, List.flatten_cons, List.flatten_nil, List.append_nil]
      refine List.nodup_append.mpr ⟨ndG, ndF, fun f hf g hg z => ?_⟩
      subst z
      have no := newF f hg
      have tb : TrB K (upd H2 D (.lst ys)) (n + 1) (body.take i) D (D :: Gs.flatten) := by
        have e : upd H2 D (.lst ys) = H2 := by
          funext z
          by_cases zD : z = D
          · rw [zD, upd_same, hDy]
          · rw [upd_ne zD]
        rw [e]
        exact TrB_succ.mpr ⟨ys, Gs, hDy, al, rfl⟩
      obtain ⟨_, e⟩ := TrB.lists _ _ _ _ tb f (List.mem_cons_of_mem _ hf)
      rw [upd_ne (new f hf).2, no] at e
      cases e
    · intro f hf
      rw [List.flatten_append, List.flatten_cons, List.flatten_nil, List.append_nil] at hf
      rcases List.mem_append.mp hf with hf | hf
      · exact new f hf
      · have no := newF f hf
        exact ⟨none_back s2 no, fun z => by rw [z, hDy] at no; cases no⟩
  · rintro ys H2 s2 hDy ⟨Gs, al, ndG, new⟩
    rw [lx, List.take_length] at al
    exact q D (D :: Gs.flatten) H2 s2 (TrB_succ.mpr ⟨ys, Gs, hDy, al, rfl⟩) (List.nodup_cons.mpr ⟨fun z => (new D z).2 rfl, ndG⟩) fun f hf => (List.mem_cons.mp hf).elim (fun z => z ▸ hD) fun z => (new f z).1
theorem all_copyB (T : Tx K mg t) : ∀ n, FnOk P w K mg base CX0 (2 * n + 2) t.f_copied_body t.fd_copied_body ["body"] (spCopyB K n)
  | 0 => by
    have no : ∀ vs H Q E, ¬ spCopyB K 0 vs H Q E := fun vs H Q E ⟨_, _, _, _, _, _, h, _⟩ => by omega
    exact ⟨fun vs H Q E h => absurd h (no vs H Q E), fun A outer s H args us vs Q E _ _ _ _ h => absurd h (no vs H Q E)⟩
  | n + 1 => ok_copyB T (ok_copyS T (all_copyB T n))
mutual
theorem stmS_mem : ∀ (s x : PG.Stm), x ∈ PG.stmS s → PG.depS x ≤ PG.depS s ∧ (PG.flatS x).length ≤ (PG.flatS s).length
  | .ifs k sg l r a b, x, h => by
    rw [PG.stmS] at h
    rcases List.mem_cons.mp h with rfl | h
    · exact ⟨Nat.le_refl _, Nat.le_refl _⟩
    · rw [PG.depS, PG.flatS]
      simp only [List.length_cons, List.length_append]
      rcases List.mem_append.mp h with h | h
      · have := stmB_mem a x h
        omega
      · have := stmB_mem b x h
        omega
  | .whl k sg l r a, x, h => by
    rw [PG.stmS] at h
    rcases List.mem_cons.mp h with rfl | h
    · exact ⟨Nat.le_refl _, Nat.le_refl _⟩
    · rw [PG.depS, PG.flatS]
      simp only [List.length_cons]
      have := stmB_mem a x h
      omega
  | .ask k b, x, h => by simp only [PG.stmS, List.mem_singleton] at h; subst h; exact ⟨Nat.le_refl _, Nat.le_refl _⟩
  | .put k b e, x, h => by simp only [PG.stmS, List.mem_singleton] at h; subst h; exact ⟨Nat.le_refl _, Nat.le_refl _⟩
  | .say k e, x, h => by simp only [PG.stmS, List.mem_singleton] at h; subst h; exact ⟨Nat.le_refl _, Nat.le_refl _⟩
  | .must k sg l r, x, h => by simp only [PG.stmS, List.mem_singleton] at h; subst h; exact ⟨Nat.le_refl _, Nat.le_refl _⟩
  | .stop k, x, h => by simp only [PG.stmS, List.mem_singleton] at h; subst h; exact ⟨Nat.le_refl _, Nat.le_refl _⟩
theorem stmB_mem : ∀ (b : List PG.Stm) (x : PG.Stm), x ∈ PG.stmB b → PG.depS x ≤ PG.depB b ∧ (PG.flatS x).length ≤ (PG.flats b).length
  | [], x, h => by simp [PG.stmB] at h
  | s :: r, x, h => by
    rw [PG.stmB] at h
    rw [PG.depB, PG.flats, List.length_append]
    rcases List.mem_append.mp h with h | h
    · have := stmS_mem s x h
      omega
    · have := stmB_mem r x h
      omega
end
theorem drop_cons {α : Type} : ∀ {l : List α} {i : Nat} {x : α} {r : List α}, l.drop i = x :: r → l[i]? = some x ∧ r = l.drop (i + 1)
  | [], i, x, r, h => by simp at h
  | y :: l, 0, x, r, h => by simp at h; simp [h.1, h.2]
  | y :: l, i + 1, x, r, h => by
    have := drop_cons (l := l) (i := i) (by simpa using h)
    simpa using this
theorem flat_split {α : Type} : ∀ {L : List (List α)} {i : Nat} {g : List α}, L[i]? = some g → L.flatten = (L.take i).flatten ++ (g ++ (L.drop (i + 1)).flatten)
  | [], i, g, h => by simp at h
  | y :: l, 0, g, h => by simp at h; simp [h]
  | y :: l, i + 1, g, h => by
    have := flat_split (L := l) (i := i) (by simpa using h)
    rw [List.flatten_cons, this, List.take_succ_cons, List.flatten_cons, List.append_assoc]
    rfl
theorem ok_stmAt (T : Tx K mg t) : FnOk P w K mg base CX0 12 t.f_statement_at t.fd_statement_at ["program", "row"] (spStmAt K) := by
  have G_statements_in := all_stmIn (P := P) (w := w) (base := base) T 4
  have G_copied_statement := ok_copyS T (all_copyB (P := P) (w := w) (base := base) T 3)
  refine T.D_statement_at.F.okS sc_statement_at (fun vs H Q E h => ?_) (fun cdv A outer s H vs Q E hr h => ?_)
  · obtain ⟨_, _, _, _, rfl, _⟩ := h
    rfl
  obtain ⟨v, pr, i, hi, rfl, rp, hd, hf, pw, q⟩ := h
  have nd := sc_statement_at.nd
  refine ⟨_, [some v, some (V.int (PG.stmB pr.body)[i].row), none], (pss_cons (ps_for PassesOwn.never rfl (pi_list (pe_call G_statements_in (hr.mono (by omega)) rfl T.D_statements_in.m T.D_statements_in.F.kp T.D_statements_in.b .nil pass0 (pa_cons (pe_ix ix_tup (pv 0) pe_int pl_const) pa_nil st_sub))) (pg_name (i := 2) nd rfl (Or.inl rfl))
 (pss_one (ps_if (pt_cmpR op_eq (pe_ix ix_tup (pv 2) pe_int pl_const) (pv 1) (nomark _))
 (pss_one (ps_ret (pe_call G_copied_statement (hr.mono (by omega)) rfl T.D_copied_statement.m T.D_copied_statement.F.kp T.D_copied_statement.b .nil pass0 (pa_cons (pv 2) pa_nil st_name))))
 pss_nil)))
 (pss_one (ps_ret pe_non))), rfl, ?_⟩
  have line : sizeLine = 2 ^ 24 := rfl
  unfold dpProg at rp
  rw [Rep.tup_iff] at rp
  obtain ⟨a, xs, rfl, hx, rs⟩ := rp
  rw [Reps.cons_iff] at rs
  obtain ⟨v1, t1, rfl, r1, rs⟩ := rs
  rw [Reps.cons_iff] at rs
  obtain ⟨v2, t2, rfl, r2, rs⟩ := rs
  obtain ⟨b, _, rfl, _⟩ := Rep.lst_iff.mp r2
  refine seq_gen fun U1 hU1 => ?_
  refine for_genL fun U hU => ?_
  walk_at "rd"
  refine rIxT_i hx (v := .ref b) (atI_nat (j := 1) rfl) ⟨b, pr.body, H, rfl, Same.refl _, r2, by omega, hf, fun l us H1 s1 hl y1 r1' => ⟨l, rfl, ⟨_, .of y1⟩, hU _ _ ?_⟩⟩
  clear hU
  have lu : us.length = (PG.stmB pr.body).length := by rw [r1'.length, List.length_map]
  have sl := stmB_len pr.body
  refine for_list (K := K) (a := l) (xs := us) (fun j σ H2 => j ≤ i ∧ H2 = H1 ∧ ∃ z, σ = [some (V.ref a), some (V.int (PG.stmB pr.body)[i].row), z]) ⟨Nat.zero_le _, rfl, _, rfl⟩ (fun j σ H2 _ ⟨_, e, _⟩ => e ▸ .of y1) ?_ ?_
  · rintro j y σ H2 hj ⟨hji, rfl, z, rfl⟩
    have lj : j < (PG.stmB pr.body).length := by omega
    obtain ⟨v', hv', rv⟩ := r1'.get (i := j) (d := dpS (PG.stmB pr.body)[j]) (by rw [List.getElem?_map, List.getElem?_eq_getElem lj]; rfl)
    rw [hj] at hv'
    cases hv'
    obtain ⟨sa, ys, rfl, hs⟩ := stm_parts _ rv
    simp only [gName, List.set]
    walk_at "rd"
    refine rIxT_i (s1.seqT hs) (v := .int (PG.stmB pr.body)[j].row) (atI_nat (j := 1) rfl) ⟨rfl, ite2 (fun e => ?_) (fun e => ?_)⟩
    · have e := V.int.inj e
      have eq : j = i := by
        by_cases z : j = i
        · exact z
        · have lt : j < i := by omega
          have := List.pairwise_iff_getElem.mp pw j i lj hi lt
          omega
      subst eq
      obtain ⟨d1, f1⟩ := stmB_mem pr.body _ (List.getElem_mem hi)
      exact ⟨.ref sa, _, H, rfl, s1, rv, by omega, by omega, fun u G H3 s3 tr ndG new => q u G H3 (s1.trans s3) tr ndG fun f hf => none_back s1 (new f hf)⟩
    · have : j ≠ i := fun z => e (by subst z; rfl)
      exact ⟨by omega, rfl, _, rfl⟩
  · rintro σ H2 ⟨hle, _⟩
    omega
theorem ok_spoil (T : Tx K mg t) {n : Nat} (G__law_spoil : FnOk P w K mg base CX0 (n + 1) t.f__law_spoil t.fd__law_spoil ["body"] (spSpoil K n)) :
    FnOk P w K mg base CX0 (n + 2) t.f__law_spoil t.fd__law_spoil ["body"] (spSpoil K (n + 1)) := by
  refine T.D__law_spoil.F.okS sc__law_spoil (fun vs H Q E h => ?_) (fun cdv A outer s H vs Q E hr h => ?_)
  · obtain ⟨_, _, _, rfl, _⟩ := h
    rfl
  obtain ⟨b, body, F, rfl, tr, ndF, hf, q⟩ := h
  have nd := sc__law_spoil.nd
  refine ⟨_, [some (V.ref b), none, none], (pss_cons (ps_for PassesOwn.never rfl (pi_list (pe_callTy call_list_of rfl T.z_list PyProof.Rows.Boot.«list» (pa_cons (pv 0) pa_nil st_name))) (pg_name (i := 1) nd rfl (Or.inl rfl))
 (pss_one (ps_for PassesOwn.never rfl (pi_tup (pe_slice sl_tup (pv 1) (po_some pe_int) po_none)) (pg_name (i := 2) nd rfl (Or.inl rfl))
 (pss_one (ps_expr (pe_call G__law_spoil (hr.mono (by omega)) rfl T.D__law_spoil.m T.D__law_spoil.F.kp T.D__law_spoil.b .nil pass0 (pa_cons (pv 2) pa_nil st_name)))))))
 (pss_one (ps_expr (pe_bm PySem.F.plainAttrs_list PySem.F.slot_list_append PySem.F.type_list_append mt_append (pv 0) (pa_cons (pe_tup (pa_consts (vs := [.str "stop", .int 999]) (by kernel_rfl))) pa_nil st_tup))))), rfl, ?_⟩
  have line : sizeLine = 2 ^ 24 := rfl
  obtain ⟨vs, Fs, hb, all, rfl⟩ := TrB_succ.mp tr
  have lst := TrB.lists _ _ _ _ tr
  have lb := len_flats body
  have lv := all.length
  refine seq_gen fun U1 hU1 => ?_
  refine for_genL fun U hU => ?_
  walk_at "rd"
  refine ⟨b, vs, rfl, .inl (.of hb), fun L hL => ⟨⟨_, .of upd_same⟩, hU _ _ ?_⟩⟩
  clear hU
  have s2 := Same.new hL (.lst vs)
  have hL2 : (upd H L (.lst vs)) L = some (.lst vs) := upd_same
  have nL : ¬ L ∈ b :: Fs.flatten := fun z => by obtain ⟨_, e⟩ := lst L z; rw [e] at hL; cases hL
  have all2 : All3 (TrS K (upd H L (.lst vs)) n) body vs Fs := all.imp fun s v G _ _ h => TrS.stay (O := fun _ => False) (fun g z => z.elim) (.of s2) (fun f _ z => z) h
  have hb2 := s2 _ _ hb
  have lst2 : ∀ f ∈ b :: Fs.flatten, ∃ ys, (upd H L (.lst vs)) f = some (.lst ys) := fun f hf => let ⟨ys, e⟩ := lst f hf; ⟨ys, s2 _ _ e⟩
  generalize upd H L (.lst vs) = H2 at *
  obtain ⟨nb, ndFs⟩ := List.nodup_cons.mp ndF
  obtain ⟨Pv, hPv⟩ : ∃ Pv : Nat → St → Hp → Prop, ∀ i σ H3, Pv i σ H3 ↔ ∃ (z1 z2 : Option V), σ = [some (V.ref b), z1, z2] ∧ UptoS (· ∈ b :: Fs.flatten) H2 H3 ∧ (∀ f ∈ b :: Fs.flatten, ∃ ys, H3 f = some (.lst ys)) ∧ H3 b = some (.lst vs) ∧ All3 (TrS K H3 n) (body.drop i) (vs.drop i) (Fs.drop i) := ⟨_, fun _ _ _ => Iff.rfl⟩
  refine for_list (K := K) (a := L) (xs := vs) Pv ((hPv _ _ _).mpr ⟨_, _, rfl, .refl, lst2, hb2, all2⟩) (fun i σ H3 _ hv => ?_) ?_ ?_
  · obtain ⟨_, _, _, u3, _⟩ := (hPv _ _ _).mp hv
    exact .of (u3 _ _ nL hL2)
  · intro i y σ H3 hi hv
    obtain ⟨z1, z2, rfl, u3, l3, b3, a3⟩ := (hPv _ _ _).mp hv
    clear hv
    have done := fun σ H7 => (hPv (i + 1) σ H7).mpr
    have li : i < body.length := by have := (List.getElem?_eq_some_iff.mp hi).1; omega
    rw [List.drop_eq_getElem_cons li] at a3
    obtain ⟨v', vs', G, Fs', evs, eFs, h1, a4⟩ := All3.cons_iff.mp a3
    obtain ⟨ey, evs'⟩ := drop_cons evs
    obtain ⟨eG, eFs'⟩ := drop_cons eFs
    rw [hi] at ey
    cases ey
    subst evs' eFs'
    obtain ⟨fm, dm⟩ := flats_mem body _ (List.getElem_mem li)
    generalize body[i] = st at *
    obtain ⟨a, hs, bs, Gs, rfl, hq, hr', al, rfl⟩ := h1
    have lbs := al.length
    have N1 : (Gs.flatten ++ (Fs.drop (i + 1)).flatten).Nodup := by
      rw [flat_split eG] at ndFs
      exact (List.nodup_append.mp ndFs).2.1
    have sub1 : ∀ f ∈ Gs.flatten, f ∈ Fs.flatten := fun f hf => List.mem_flatten.mpr ⟨_, List.mem_of_getElem? eG, hf⟩
    simp only [gName, List.set]
    refine for_genT fun U hU => ?_
    simp only [tSl]
    walk_at "rd"
    have lh := hr'.length
    have lhd := hdS_len st
    refine ⟨5, rfl, a, _, rfl, hq, ?_, fun p hp => ⟨p, rfl, ⟨_, .of upd_same⟩, hU _ _ ?_⟩⟩
    · intro z
      have z1 := z.1
      rw [show (5 : Int) = ((5 : Nat) : Int) from rfl, HT.sIx_nat, List.length_append] at z1
      omega
    clear hU
    rw [tr_cut hr' lbs.1]
    have s4 := Same.new hp (.tup (bs.map V.ref))
    have p4 : (upd H3 p (.tup (bs.map V.ref))) p = some (.tup (bs.map V.ref)) := upd_same
    have a4' : All3 (TrS K (upd H3 p (.tup (bs.map V.ref))) n) (body.drop (i + 1)) (vs.drop (i + 1)) (Fs.drop (i + 1)) := a4.imp fun s v G _ _ h => TrS.stay (O := fun _ => False) (fun g z => z.elim) (.of s4) (fun f _ z => z) h
    have al4 : All3 (TrB K (upd H3 p (.tup (bs.map V.ref))) n) (bodiesOf st) bs Gs := al.imp fun s v G _ _ h => TrB.stay (O := fun _ => False) (fun g z => z.elim) (.of s4) n _ _ _ (fun f _ z => z) h
    have b4 := s4 _ _ b3
    have u4 := u3.trans (.of s4)
    have l4 : ∀ f ∈ b :: Fs.flatten, ∃ ys, (upd H3 p (.tup (bs.map V.ref))) f = some (.lst ys) := fun f hf => let ⟨ys, e⟩ := l3 f hf; ⟨ys, s4 _ _ e⟩
    generalize upd H3 p (.tup (bs.map V.ref)) = H4 at *
    obtain ⟨Pw, hPw⟩ : ∃ Pw : Nat → St → Hp → Prop, ∀ j σ H5, Pw j σ H5 ↔ ∃ (z2 : Option V), σ = [some (V.ref b), some (V.ref a), z2] ∧ UptoS (· ∈ b :: Fs.flatten) H2 H5 ∧ (∀ f ∈ b :: Fs.flatten, ∃ ys, H5 f = some (.lst ys)) ∧ H5 b = some (.lst vs) ∧ H5 p = some (.tup (bs.map V.ref)) ∧ All3 (TrB K H5 n) ((bodiesOf st).drop j) (bs.drop j) (Gs.drop j) ∧ All3 (TrS K H5 n) (body.drop (i + 1)) (vs.drop (i + 1)) (Fs.drop (i + 1)) := ⟨_, fun _ _ _ => Iff.rfl⟩
    refine for_tup (K := K) (a := p) (xs := bs.map V.ref) Pw ((hPw _ _ _).mpr ⟨_, rfl, u4, l4, b4, p4, al4, a4'⟩) (fun j σ H5 _ hv => ?_) ?_ ?_
    · obtain ⟨_, _, _, _, _, p5, _⟩ := (hPw _ _ _).mp hv
      exact .of p5
    · intro j y σ H5 hj hv
      obtain ⟨z2', rfl, u5, l5, b5, p5, al5, a5⟩ := (hPw _ _ _).mp hv
      clear hv
      have doneW := fun σ H7 => (hPw (j + 1) σ H7).mpr
      have lj : j < (bodiesOf st).length := by
        have := (List.getElem?_eq_some_iff.mp hj).1
        rw [List.length_map] at this
        omega
      rw [List.drop_eq_getElem_cons lj] at al5
      obtain ⟨b', bs', g, Gs', ebs, eGs, h1, al6⟩ := All3.cons_iff.mp al5
      obtain ⟨ey, ebs'⟩ := drop_cons ebs
      obtain ⟨eg, eGs'⟩ := drop_cons eGs
      rw [List.getElem?_map, ey] at hj
      cases hj
      subst ebs' eGs'
      obtain ⟨fb, db⟩ := flatS_bodies st _ (List.getElem_mem lj)
      generalize (bodiesOf st)[j] = bb at *
      have N2 : (g ++ ((Gs.drop (j + 1)).flatten ++ (Fs.drop (i + 1)).flatten)).Nodup := by
        rw [flat_split eg] at N1
        have := (List.nodup_append.mp (show ((Gs.take j).flatten ++ ((g ++ (Gs.drop (j + 1)).flatten) ++ (Fs.drop (i + 1)).flatten)).Nodup by rw [← List.append_assoc]; exact N1)).2.1
        rw [List.append_assoc] at this
        exact this
      obtain ⟨ng, _, dis⟩ := List.nodup_append.mp N2
      have subg : ∀ f ∈ g, f ∈ Fs.flatten := fun f hf => sub1 f (List.mem_flatten.mpr ⟨_, List.mem_of_getElem? eg, hf⟩)
      simp only [gName, List.set]
      walk_at "rd"
      refine ⟨b', bb, g, rfl, h1, ng, by omega, fun H6 u6 l6 => ?_⟩
      have lg := TrB.lists n _ _ _ h1
      refine doneW _ _ ⟨_, rfl, u5.trans (u6.mono fun f hf => List.mem_cons_of_mem _ (subg f hf)), fun f hf => ?_, u6 _ _ (fun z => nb (subg b z)) b5, u6 _ _ (fun z => by obtain ⟨_, e⟩ := lg p z; rw [p5] at e; cases e) p5, ?_, ?_⟩
      · by_cases z : f ∈ g
        · exact l6 f z
        · obtain ⟨ys, e⟩ := l5 f hf
          exact ⟨ys, u6 _ _ z e⟩
      · exact al6.imp fun s v G _ mG h => TrB.stay (O := (· ∈ g)) lg u6 n _ _ _ (fun f hf z => dis f z f (List.mem_append.mpr (.inl (List.mem_flatten.mpr ⟨_, mG, hf⟩))) rfl) h
      · exact a5.imp fun s v G _ mG h => TrS.stay (O := (· ∈ g)) lg u6 (fun f hf z => dis f z f (List.mem_append.mpr (.inr (List.mem_flatten.mpr ⟨_, mG, hf⟩))) rfl) h
    · intro σ H5 hv
      obtain ⟨z2', rfl, u5, l5, b5, p5, al5, a5⟩ := (hPw _ _ _).mp hv
      exact done _ _ ⟨_, _, rfl, u5, l5, b5, a5⟩
  · intro σ H3 hv
    obtain ⟨z1, z2, rfl, u3, l3, b3, a3⟩ := (hPv _ _ _).mp hv
    refine (hU1 _ _).mpr ?_
    walk_at "rd"
    refine ⟨.inl ⟨rfl, _, .of b3⟩, fun p hp => ⟨b, vs, _, rfl, rfl, Same.new hp _ _ _ b3, by omega, q _ ?_ ?_⟩⟩
    · refine (((UptoS.of s2).trans u3).trans (.of (Same.new hp _))).put (List.mem_cons_self ..) _
    · intro f hf
      by_cases z : f = b
      · rw [z]; exact ⟨_, upd_same⟩
      · obtain ⟨ys, e⟩ := l3 f hf
        exact ⟨ys, by rw [upd_ne z]; exact Same.new hp _ _ _ e⟩
theorem all_spoil (T : Tx K mg t) : ∀ n, FnOk P w K mg base CX0 (n + 1) t.f__law_spoil t.fd__law_spoil ["body"] (spSpoil K n)
  | 0 => by
    have no : ∀ vs H Q E, ¬ spSpoil K 0 vs H Q E := fun vs H Q E ⟨_, _, _, _, h, _⟩ => h
    exact ⟨fun vs H Q E h => absurd h (no vs H Q E), fun A outer s H args us vs Q E _ _ _ _ h => absurd h (no vs H Q E)⟩
  | n + 1 => ok_spoil T (all_spoil T n)
theorem ok_whole (T : Tx K mg t) : FnOk P w K mg base CX0 1 t.f__law_whole t.fd__law_whole ["told"] (spWhole K) := by
  refine T.D__law_whole.F.okS sc__law_whole (fun vs H Q E h => ?_) (fun cdv A outer s H vs Q E hr h => ?_)
  · obtain ⟨_, _, _, rfl, _⟩ := h
    rfl
  obtain ⟨l, us, fl, rfl, hl, rs, sm, q⟩ := h
  have nd := sc__law_whole.nd
  refine ⟨_, [some (V.ref l), none, none, none], (pss_cons (ps_for PassesOwn.never rfl (pi_list (pv 0)) (pg_tup rfl (pgs_cons (pg_name (i := 1) nd rfl (Or.inl rfl)) (pgs_cons (pg_name (i := 2) nd rfl (Or.inl rfl)) (pgs_cons (pg_name (i := 3) nd rfl (Or.inl rfl)) pgs_nil))))
 (pss_cons (ps_if (PW.pt (pw_or (pt_val (pe_callB call_isT rfl T.z_isinstance PyProof.Rows.Boot.«isinstance» (pa_cons (pv 1) (pa_cons (pe_bltn (v := .ty "bool") rfl T.z_bool PyProof.Rows.Boot.«bool» rfl) pa_nil st_name) st_name))) (pw_or1 (pt_not (pt_val (pe_callB call_isQ rfl T.z_isinstance PyProof.Rows.Boot.«isinstance» (pa_cons (pv 3) (pa_cons (pe_bltn (v := .ty "tuple") rfl T.z_tuple PyProof.Rows.Boot.«tuple» rfl) pa_nil st_name) st_name)))))))
 (pss_one (ps_ret pe_bl))
 pss_nil)
 (pss_one (ps_if (pt_cmpR (op_ne_nil (hu_of hr)) (pe_comp (own := ["way"]) (ix := []) rfl (by rfl) (by rfl) (pi_tup (pv 3)) (fun _ _ _ _ => (pg_name (i := 0) (by show List.Nodup (["way"] : List Str); decide +kernel) rfl (Or.inl rfl))) (fun _ _ _ _ => (pts_one (pt_val (pe_callB (call_isTK (K := K) rfl) rfl T.z_isinstance PyProof.Rows.Boot.«isinstance» (pa_cons (pv 0) (pa_cons (pe_bltn (v := .ty "bool") rfl T.z_bool PyProof.Rows.Boot.«bool» rfl) pa_nil st_name) st_name))))) (fun _ _ _ _ => (pv 0))) (pe_lst pa_nil) (nomark _))
 (pss_one (ps_ret pe_bl))
 pss_nil))))
 (pss_one (ps_ret pe_bl))), rfl, ?_⟩
  have line : sizeLine = 2 ^ 24 := rfl
  have lu : us.length = fl.length := by rw [rs.length, List.length_map]
  refine seq_gen fun U1 hU1 => ?_
  refine for_genL fun U hU => ?_
  walk_at "rd"
  refine ⟨⟨us, .of hl⟩, hU _ _ ?_⟩
  clear hU
  refine for_list (K := K) (a := l) (xs := us) (fun i σ H2 => (∃ z1 z2 z3, σ = [some (V.ref l), z1, z2, z3]) ∧ Same H H2) ⟨⟨_, _, _, rfl⟩, Same.refl _⟩ (fun i σ H2 _ hv => hv.2.seq (.of hl)) ?_ ?_
  · rintro i y σ H2 hi ⟨⟨z1, z2, z3, rfl⟩, s2⟩
    have li : i < fl.length := by have := (List.getElem?_eq_some_iff.mp hi).1; omega
    obtain ⟨a, p, rfl, hx, hp⟩ := flow_row (rs.mono s2) hi li
    have sm := sm _ (List.getElem_mem li)
    generalize fl[i] = r at *
    obtain ⟨k, wd, ws⟩ := r
    refine ⟨a, _, rfl, hx, rfl, _, _, rfl, _, _, rfl, _, _, rfl, rfl, ?_⟩
    simp only [List.set]
    refine seq_gen fun U2 hU2 => ?_
    walk_at "rd"
    refine ⟨_, "bool", _, false, rfl, .int _, by kernel_rfl, (if_neg (by decide)).mpr ⟨p, "tuple", _, true, rfl, hp, by kernel_rfl, (if_neg (by decide)).mpr ((hU2 _ _).mpr ?_)⟩⟩
    clear hU2
    walk_at "rd"
    simp only [tComp, iTup]
    walk_at "rd"
    refine ⟨⟨_, hp⟩, fun D hD => ?_⟩
    refine comp_tup3 (K := K) (r := []) (fun _ => false) (fun _ => .non) hp (by rw [List.length_map]; omega) hD (fun i x hx3 H4 s4 R hR => ?_) (fun i x _ h => absurd h Bool.false_ne_true) (fun H4 s4 h4 p5 hp5 => ?_)
    · rw [List.getElem?_map] at hx3
      obtain ⟨n, _, rfl⟩ := Option.map_eq_some_iff.mp hx3
      walk_at "rd"
      exact ⟨_, "bool", _, false, rfl, .int _, by kernel_rfl, hR _ (Same.refl _)⟩
    have e4 : ∀ n, ((List.range n).filter fun _ => false).map (fun _ => V.non) = [] := fun n => by simp
    rw [e4] at h4
    exact ⟨D, p5, [], rfl, rfl, .of (Same.new hp5 (.lst []) _ _ h4), .of upd_same, (if_neg (by decide)).mpr ⟨⟨_, _, _, rfl⟩, (s2.trans s4).trans (Same.new hp5 (.lst []))⟩⟩
  · rintro σ H2 ⟨⟨z1, z2, z3, rfl⟩, s2⟩
    refine (hU1 _ _).mpr ?_
    walk_at "rd"
    exact q _ s2
mutual
theorem ways_fewS : ∀ (s : PG.Stm) (x : Int), ∀ r ∈ PG.flowS s x, r.2.2.length ≤ 1000
  | .ifs k sg l r a b, x, y, h => by
    rw [PG.flowS] at h
    simp only [List.mem_cons, List.mem_append] at h
    rcases h with rfl | h | h
    · simp
    · exact ways_fewB a x y h
    · exact ways_fewB b x y h
  | .whl k sg l r a, x, y, h => by
    rw [PG.flowS] at h
    simp only [List.mem_cons] at h
    rcases h with rfl | h
    · simp
    · exact ways_fewB a k y h
  | .ask k _, x, y, h => by simp [PG.flowS] at h; subst h; simp
  | .put k _ _, x, y, h => by simp [PG.flowS] at h; subst h; simp
  | .say k _, x, y, h => by simp [PG.flowS] at h; subst h; simp
  | .must k _ _ _, x, y, h => by simp [PG.flowS] at h; subst h; simp
  | .stop k, x, y, h => by simp [PG.flowS] at h; subst h; simp
theorem ways_fewB : ∀ (b : List PG.Stm) (x : Int), ∀ r ∈ PG.flowB b x, r.2.2.length ≤ 1000
  | [], x, y, h => by simp [PG.flowB] at h
  | s :: r, x, y, h => by
    rw [PG.flowB, List.mem_append] at h
    rcases h with h | h
    · exact ways_fewS s _ y h
    · exact ways_fewB r x y h
end
theorem ways_few (b : List PG.Stm) : ∀ r ∈ PG.flowB b 0, r.2.2.length ≤ 1000 := ways_fewB b 0
theorem ok_law (T : Tx K mg t) : FnOk P w K mg base CX0 30 t.f_law t.fd_law ["script"] (spLaw K) := by
  have G__law_next := ok_next (P := P) (w := w) (base := base) T
  have G__law_program := ok_program (P := P) (w := w) (base := base) T
  have G__law_ways := ok_ways (P := P) (w := w) (base := base) T
  have G_flow := ok_flow (P := P) (w := w) (base := base) T
  have G__law_whole := ok_whole (P := P) (w := w) (base := base) T
  have G__law_statements := all_stms (P := P) (w := w) (base := base) T 4
  have G_statement_at := ok_stmAt (P := P) (w := w) (base := base) T
  have G__law_spoil := all_spoil (P := P) (w := w) (base := base) T 3
  refine T.D_law.F.okS sc_law (fun vs H Q E h => ?_) (fun cdv A outer s H vs Q E hr h => ?_)
  · obtain ⟨_, _, rfl, _⟩ := h
    rfl
  obtain ⟨a, ns, rfl, hS, h63, q⟩ := h
  have nd := sc_law.nd
  have hu := hu_of hr
  refine ⟨_, [some (V.ref a), none, none, none, none, none, none, none, none, none, none, none, none], (pss_cons (ps_set (i := 1) nd rfl (Or.inl rfl) (pe_lst (pa_cons (pe_slice sl_list (pv 0) po_none (po_some pe_int)) (pa_cons pe_int pa_nil st_const) st_sub)))
 (pss_cons (ps_set (i := 2) nd rfl (Or.inl rfl) (pe_op op_mod (pe_call G__law_next (hr.mono (by omega)) rfl T.D__law_next.m T.D__law_next.F.kp T.D__law_next.b .nil pass0 (pa_cons (pv 1) pa_nil st_name)) pe_int))
 (pss_cons (ps_asg (pe_call G__law_program (hr.mono (by omega)) rfl T.D__law_program.m T.D__law_program.F.kp T.D__law_program.b .nil pass0 (pa_cons (pv 1) (pa_cons (pv 2) pa_nil st_name) st_name)) (pg_lst rfl (pgs_cons (pg_name (i := 3) nd rfl (Or.inl rfl)) (pgs_cons (pg_name (i := 4) nd rfl (Or.inl rfl)) pgs_nil))))
 (pss_cons (ps_set (i := 5) nd rfl (Or.inl rfl) (pe_call G__law_ways (hr.mono (by omega)) rfl T.D__law_ways.m T.D__law_ways.F.kp T.D__law_ways.b .nil pass0 (pa_cons (pv 4) pa_nil st_name)))
 (pss_cons (ps_set (i := 6) nd rfl (Or.inl rfl) (pe_call G_flow (hr.mono (by omega)) rfl T.D_flow.m T.D_flow.F.kp T.D_flow.b .nil pass0 (pa_cons (pv 3) pa_nil st_name)))
 (pss_cons (ps_if (PW.pt (pw_or (pt_not (pt_val (pe_callB call_isT rfl T.z_isinstance PyProof.Rows.Boot.«isinstance» (pa_cons (pv 6) (pa_cons (pe_bltn (v := .ty "list") rfl T.z_list PyProof.Rows.Boot.«list» rfl) pa_nil st_name) st_name)))) (pw_or (pt_cmpR (op_neD (hu64 hr)) (pv 6) (pv 5) (nomark _)) (pw_or1 (pt_not (pt_val (pe_call G__law_whole (hr.mono (by omega)) rfl T.D__law_whole.m T.D__law_whole.F.kp T.D__law_whole.b .nil pass0 (pa_cons (pv 6) pa_nil st_name))))))))
 (pss_one (ps_ret pe_bl))
 pss_nil)
 (pss_cons (ps_set (i := 7) nd rfl (Or.inl rfl) (pe_call G__law_statements (hr.mono (by omega)) rfl T.D__law_statements.m T.D__law_statements.F.kp T.D__law_statements.b .nil pass0 (pa_cons (pe_ix ix_tup (pv 3) pe_int pl_const) pa_nil st_sub)))
 (pss_cons (ps_for PassesOwn.never rfl (pi_list (pv 5)) (pg_tup rfl (pgs_cons (pg_name (i := 8) nd rfl (Or.inl rfl)) (pgs_cons (pg_name (i := 9) nd rfl (Or.inl rfl)) (pgs_cons (pg_name (i := 10) nd rfl (Or.inl rfl)) pgs_nil))))
 (pss_cons (ps_set (i := 11) nd rfl (Or.inl rfl) (pe_call G_statement_at (hr.mono (by omega)) rfl T.D_statement_at.m T.D_statement_at.F.kp T.D_statement_at.b .nil pass0 (pa_cons (pv 3) (pa_cons (pv 8) pa_nil st_name) st_name)))
 (pss_cons (ps_if (PW.pt (pw_or (pt_not (pt_val (pe_callB call_isQ rfl T.z_isinstance PyProof.Rows.Boot.«isinstance» (pa_cons (pv 11) (pa_cons (pe_bltn (v := .ty "tuple") rfl T.z_tuple PyProof.Rows.Boot.«tuple» rfl) pa_nil st_name) st_name)))) (pw_or1 (pt_cmpR (op_neD (hu64 hr)) (pv 11) (pe_dget hu (pv 7) (pv 8) (fun _ _ => rfl)) (nomark _)))))
 (pss_one (ps_ret pe_bl))
 pss_nil)
 (pss_one (ps_for PassesOwn.never rfl (pi_tup (pe_slice sl_tup (pv 11) (po_some pe_int) po_none)) (pg_name (i := 12) nd rfl (Or.inl rfl))
 (pss_one (ps_expr (pe_call G__law_spoil (hr.mono (by omega)) rfl T.D__law_spoil.m T.D__law_spoil.F.kp T.D__law_spoil.b .nil pass0 (pa_cons (pv 12) pa_nil st_name)))))))))
 (pss_cons (ps_expr (pe_bm PySem.F.plainAttrs_list PySem.F.slot_list_append PySem.F.type_list_append mt_append (pv 6) (pa_cons (pe_tup (pa_cons pe_int (pa_cons pe_str (pa_cons (pe_tup (pa_cons pe_int pa_nil st_const)) pa_nil st_tup) st_const) st_const)) pa_nil st_tup)))
 (pss_cons (ps_set (i := 1) nd rfl (Or.inl rfl) (pe_lst (pa_cons (pe_slice sl_list (pv 0) po_none (po_some pe_int)) (pa_cons pe_int pa_nil st_const) st_sub)))
 (pss_one (ps_ret (pe_and (pe_cmpR (op_eqS6 (hu64 hr)) (pe_call G_flow (hr.mono (by omega)) rfl T.D_flow.m T.D_flow.F.kp T.D_flow.b .nil pass0 (pa_cons (pv 3) pa_nil st_name)) (pv 5) (nomark _)) (pe_one (pe_cmpR (op_eqS6 (hu64 hr)) (pe_call G__law_program (hr.mono (by omega)) rfl T.D__law_program.m T.D__law_program.F.kp T.D__law_program.b .nil pass0 (pa_cons (pv 1) (pa_cons (pv 2) pa_nil st_name) st_name)) (pe_lst (pa_cons (pv 3) (pa_cons (pv 4) pa_nil st_name) st_name)) (nomark _)))))))))))))))), rfl, ?_⟩
  have line : sizeLine = 2 ^ 24 := rfl
  refine seq_gen fun U1 hU1 => ?_
  walk_at "rd"
  refine ⟨_, rfl, a, _, rfl, hS, fun S hS2 D hD => (hU1 _ _).mpr ?_⟩
  clear hU1
  rw [cut63 ns h63] at hD ⊢
  have sA := (Same.new hS2 (.lst (ns.map V.int))).trans (Same.new hD (.lst [V.ref S, V.int 0]))
  have nSD : S ≠ D := ne_of_none upd_same hD
  have hD0 : H D = none := none_back (Same.new hS2 (.lst (ns.map V.int))) hD
  have dk : Deck K (upd (upd H S (.lst (ns.map V.int))) D (.lst [V.ref S, V.int 0])) D S ns 0 := ⟨upd_same, by rw [upd_ne nSD]; exact upd_same, nSD, h63⟩
  generalize upd (upd H S (.lst (ns.map V.int))) D (.lst [V.ref S, V.int 0]) = H1 at *
  refine seq_gen fun U2 hU2 => ?_
  walk_at "rd"
  refine ⟨D, S, ns, 0, rfl, dk, by omega, fun H2 u2 dk2 => ⟨_, 41, rfl, rfl, (by decide : (0 : Int) < 41), (hU2 _ _).mpr ?_⟩⟩
  clear hU2
  have sB : Same H H2 := fun z o e => u2 z o (ne_of_none e hD0) (sA z o e)
  have nb := PG.next_b ns 0
  obtain ⟨many, em⟩ : ∃ many : Nat, PG.next ns 0 % 41 = (many : Int) := ⟨(PG.next ns 0 % 41).toNat, by omega⟩
  have lm : many ≤ 40 := by omega
  simp only [em]
  refine seq_gen fun U3 hU3 => ?_
  walk_at "rd"
  refine ⟨D, S, ns, 1, many, rfl, dk2, by decide, by omega, fun v3 H3 u3 _ r3 => ?_⟩
  have sC : Same H H3 := fun z o e => u3 z o (ne_of_none e hD0) (sB z o e)
  have rl := PG.rows_len ns many 1
  have tx := PG.prog_text ns many 1
  have dB := PG.prog_dep ns many 1
  have fl := PG.prog_flat ns many 1
  have dp := deep_PR ns many 1
  have okp := PG.prog_all ns many 1
  have pw := PG.stm_rise (PG.prog_rise ns many 1).1
  generalize hpr : PG.genProg ns many 1 = pr at *
  obtain ⟨pr, rows⟩ := pr
  simp only at rl tx dB fl okp pw
  unfold dpPR at r3 dp
  simp only at r3 dp
  rw [Rep.lst_iff] at r3
  obtain ⟨l3, xs3, rfl, h3, r3⟩ := r3
  rw [Reps.cons_iff] at r3
  obtain ⟨vp, t3, rfl, rp, r3⟩ := r3
  rw [Reps.cons_iff] at r3
  obtain ⟨vr, t4, rfl, rr, r3⟩ := r3
  rw [Reps.nil_iff] at r3
  subst r3
  obtain ⟨R, rv, rfl, _⟩ := Rep.lst_iff.mp rr
  refine ⟨l3, _, rfl, h3, rfl, _, _, rfl, _, _, rfl, rfl, (hU3 _ _).mpr (seq_gen fun U4 hU4 => ?_)⟩
  clear hU3
  simp only [List.set]
  walk_at "rd"
  refine ⟨R, rows, pr.body, rfl, rr, by omega, tx, fun l4 us4 H4 s4 hl4 y4 r4 => (hU4 _ _).mpr (seq_gen fun U5 hU5 => ?_)⟩
  clear hU4
  have f4 : (PG.flats pr.body).length ≤ 1000 := by
    rw [fl]
    exact Nat.le_trans (List.length_filter_le _ _) (by omega)
  walk_at "rd"
  refine ⟨vp, pr, rfl, rp.mono s4, dB, f4, fun l5 us5 H5 s5 hl5 y5 r5 => (hU5 _ _).mpr (seq_gen fun U6 hU6 => ?_)⟩
  clear hU5
  walk_at "rd"
  have d4 : Rep K H5 (.lst ((PG.flowB pr.body 0).map dpFlow)) (.ref l4) := Rep.lst_iff.mpr ⟨l4, us4, rfl, .of (s5 _ _ y4), r4.mono s5⟩
  have d5 : Rep K H5 (.lst ((PG.flowB pr.body 0).map dpFlow)) (.ref l5) := Rep.lst_iff.mpr ⟨l5, us5, rfl, .of y5, r5⟩
  refine ⟨_, "list", _, true, rfl, .lst y5, by kernel_rfl, (if_neg (by decide)).mpr ⟨_, _, d5, d4, flow_shaped _, flow_shaped _, _, rfl, ?_⟩⟩
  rw [eqv_refl]
  refine (if_neg (by decide)).mpr ⟨l5, us5, _, rfl, y5, r5, ways_few pr.body, fun H6 s6 => ⟨true, rfl, (if_neg (by decide)).mpr ((hU6 _ _).mpr (seq_gen fun U7 hU7 => ?_))⟩⟩
  clear hU6
  walk_at "rd"
  have rp' := rp
  unfold dpProg at rp'
  rw [Rep.tup_iff] at rp'
  obtain ⟨pa, pxs, rfl, hpx, prs⟩ := rp'
  rw [Reps.cons_iff] at prs
  obtain ⟨v1, t1, rfl, pr1, prs⟩ := prs
  rw [Reps.cons_iff] at prs
  obtain ⟨v2, t2, rfl, pr2, prs⟩ := prs
  obtain ⟨bb, _, rfl, _⟩ := Rep.lst_iff.mp pr2
  have s36 := (s4.trans s5).trans s6
  refine rIxT_i (s36.seqT hpx) (v := .ref bb) (atI_nat (j := 1) rfl) ⟨bb, pr.body, H3, rfl, s36, pr2, by omega, f4, pw, fun d7 us7 H7 s7 hd7 l7 y7 r7 => (hU7 _ _).mpr (seq_gen fun U8 hU8 => ?_)⟩
  clear hU7
  have s47 : Same H4 H7 := (s5.trans s6).trans s7
  have y47 := s47 _ _ y4
  have lu4 : us4.length = (PG.flowB pr.body 0).length := by rw [r4.length, List.length_map]
  have lus : (PG.flowB pr.body 0).length = (PG.stmB pr.body).length := by
    have h1 := congrArg List.length (PG.flowB_row pr.body 0)
    have h2 := stmB_len pr.body
    rw [List.length_map] at h1
    omega
  have okB := fun x => PG.OkB_stm pr.body x okp
  refine for_genL fun U hU => ?_
  walk_at "rd"
  refine ⟨⟨us4, .of y47⟩, hU _ _ ?_⟩
  clear hU
  obtain ⟨Pv, hPv⟩ : ∃ Pv : Nat → St → Hp → Prop, ∀ i σ H8, Pv i σ H8 ↔ ∃ (z8 z9 z10 z11 z12 : Option V), σ = [some (V.ref a), some (V.ref D), some (V.int many), some (V.ref pa), some (V.ref R), some (V.ref l4), some (V.ref l5), some (V.ref d7), z8, z9, z10, z11, z12] ∧ Same H7 H8 := ⟨_, fun _ _ _ => Iff.rfl⟩
  refine for_list (K := K) (a := l4) (xs := us4) Pv ((hPv _ _ _).mpr ⟨_, _, _, _, _, rfl, Same.refl _⟩) (fun i σ H8 _ hv => ?_) ?_ ?_
  · obtain ⟨_, _, _, _, _, _, s8⟩ := (hPv _ _ _).mp hv
    exact .of (s8 _ _ y47)
  · intro i y σ H8 hi hv
    obtain ⟨z8, z9, z10, z11, z12, rfl, s8⟩ := (hPv _ _ _).mp hv
    clear hv
    have done := fun σ H12 => (hPv (i + 1) σ H12).mpr
    have li : i < (PG.flowB pr.body 0).length := by have := (List.getElem?_eq_some_iff.mp hi).1; omega
    have li2 : i < (PG.stmB pr.body).length := by omega
    obtain ⟨ya, yp, rfl, hx, hp⟩ := flow_row (r4.mono (s47.trans s8)) hi li
    have ek : (PG.flowB pr.body 0)[i].1 = (PG.stmB pr.body)[i].row := by
      have h1 : ((PG.flowB pr.body 0).map fun r => (r.1, r.2.1))[i]? = ((PG.stmB pr.body).map fun x => (x.row, x.wd))[i]? := by rw [PG.flowB_row, PG.stmB_flat]
      rw [List.getElem?_map, List.getElem?_map, List.getElem?_eq_getElem li, List.getElem?_eq_getElem li2] at h1
      exact congrArg Prod.fst (Option.some.inj h1)
    rw [ek] at hx
    generalize (PG.flowB pr.body 0)[i] = r at *
    obtain ⟨k, wd, ws⟩ := r
    refine ⟨ya, _, rfl, hx, rfl, _, _, rfl, _, _, rfl, _, _, rfl, rfl, ?_⟩
    simp only [List.set]
    obtain ⟨d1, f1⟩ := stmB_mem pr.body _ (List.getElem_mem li2)
    have okst := okB _ (List.getElem_mem li2)
    refine seq_gen fun U9 hU9 => ?_
    walk_at "rd"
    refine ⟨.ref pa, pr, i, li2, rfl, rp.mono ((s4.trans s47).trans s8), dB, f4, pw, fun u G H9 s9 tr ndG new => (hU9 _ _).mpr (seq_gen fun U10 hU10 => ?_)⟩
    clear hU9
    have g7 : valV (rowKv (PG.stmB pr.body) us7) (.inl (PG.stmB pr.body)[i].row) = us7[i]? := by
      have l7i : i < us7.length := by omega
      rw [rowKv_at _ _ l7 pw i li2 us7[i] (List.getElem?_eq_getElem l7i), List.getElem?_eq_getElem l7i]
    obtain ⟨w7, hw7, rw7⟩ := r7.get (i := i) (d := dpS (PG.stmB pr.body)[i]) (by rw [List.getElem?_map, List.getElem?_eq_getElem li2]; rfl)
    rw [hw7] at g7
    have s39 : Same H3 H9 := ((s4.trans s47).trans s8).trans s9
    have y79 := s9 _ _ (s8 _ _ y7)
    have rep9 := tr.rep
    have shp := stm_shaped okst (by omega)
    generalize (PG.stmB pr.body)[i] = st at *
    obtain ⟨sa, hs, bs, Gs, rfl, hq, hr', al, rfl⟩ := tr
    walk_at "rd"
    refine ⟨sa, "tuple", _, true, rfl, hq, by kernel_rfl, (if_neg (by decide)).mpr ⟨d7, w7, rfl, .inl ⟨_, .inl st.row, .inl y79, rfl, g7.symm⟩, _, _, rep9, rw7.mono s39, shp, shp, ?_⟩⟩
    rw [eqv_refl]
    refine ⟨_, rfl, (if_neg (by decide)).mpr ((hU10 _ _).mpr ?_)⟩
    clear hU10
    have lbs := al.length
    have lh := hr'.length
    have lhd := hdS_len st
    refine for_genT fun U hU => ?_
    simp only [tSl]
    walk_at "rd"
    refine ⟨5, rfl, sa, _, rfl, hq, ?_, fun p hp => ⟨p, rfl, ⟨_, .of upd_same⟩, hU _ _ ?_⟩⟩
    · intro z
      have z1 := z.1
      rw [show (5 : Int) = ((5 : Nat) : Int) from rfl, HT.sIx_nat, List.length_append] at z1
      omega
    clear hU
    rw [tr_cut hr' lbs.1]
    have s10 := Same.new hp (.tup (bs.map V.ref))
    have p10 : (upd H9 p (.tup (bs.map V.ref))) p = some (.tup (bs.map V.ref)) := upd_same
    have al10 : All3 (TrB K (upd H9 p (.tup (bs.map V.ref))) 3) (bodiesOf st) bs Gs := al.imp fun s v G _ _ h => TrB.stay (O := fun _ => False) (fun g z => z.elim) (.of s10) 3 _ _ _ (fun f _ z => z) h
    have s810 := s9.trans s10
    generalize upd H9 p (.tup (bs.map V.ref)) = H10 at *
    obtain ⟨Pw, hPw⟩ : ∃ Pw : Nat → St → Hp → Prop, ∀ j σ H11, Pw j σ H11 ↔ ∃ (z12 : Option V), σ = [some (V.ref a), some (V.ref D), some (V.int many), some (V.ref pa), some (V.ref R), some (V.ref l4), some (V.ref l5), some (V.ref d7), some (V.int st.row), some (V.str (wdS wd)), some (V.ref yp), some (V.ref sa), z12] ∧ UptoS (· ∈ Gs.flatten) H10 H11 ∧ H11 p = some (.tup (bs.map V.ref)) ∧ All3 (TrB K H11 3) ((bodiesOf st).drop j) (bs.drop j) (Gs.drop j) := ⟨_, fun _ _ _ => Iff.rfl⟩
    refine for_tup (K := K) (a := p) (xs := bs.map V.ref) Pw ((hPw _ _ _).mpr ⟨_, rfl, .refl, p10, al10⟩) (fun j σ H11 _ hv => ?_) ?_ ?_
    · obtain ⟨_, _, _, p11, _⟩ := (hPw _ _ _).mp hv
      exact .of p11
    · intro j y σ H11 hj hv
      obtain ⟨z12', rfl, u11, p11, al11⟩ := (hPw _ _ _).mp hv
      clear hv
      have doneW := fun σ H12 => (hPw (j + 1) σ H12).mpr
      have lj : j < (bodiesOf st).length := by
        have := (List.getElem?_eq_some_iff.mp hj).1
        rw [List.length_map] at this
        omega
      rw [List.drop_eq_getElem_cons lj] at al11
      obtain ⟨b', bs', g, Gs', ebs, eGs, h1, al12⟩ := All3.cons_iff.mp al11
      obtain ⟨ey, ebs'⟩ := drop_cons ebs
      obtain ⟨eg, eGs'⟩ := drop_cons eGs
      rw [List.getElem?_map, ey] at hj
      cases hj
      subst ebs' eGs'
      obtain ⟨fb, db⟩ := flatS_bodies st _ (List.getElem_mem lj)
      generalize (bodiesOf st)[j] = bd at *
      have N2 : (g ++ (Gs.drop (j + 1)).flatten).Nodup := by
        rw [flat_split eg] at ndG
        exact (List.nodup_append.mp ndG).2.1
      obtain ⟨ng, _, dis⟩ := List.nodup_append.mp N2
      have subg : ∀ f ∈ g, f ∈ Gs.flatten := fun f hf => List.mem_flatten.mpr ⟨_, List.mem_of_getElem? eg, hf⟩
      simp only [gName, List.set]
      walk_at "rd"
      refine ⟨b', bd, g, rfl, h1, ng, by omega, fun H12 u12 l12 => ?_⟩
      have lg := TrB.lists 3 _ _ _ h1
      refine doneW _ _ ⟨_, rfl, u11.trans (u12.mono subg), u12 _ _ (fun z => by obtain ⟨_, e⟩ := lg p z; rw [p11] at e; cases e) p11, ?_⟩
      exact al12.imp fun s v G _ mG h => TrB.stay (O := (· ∈ g)) lg u12 3 _ _ _ (fun f hf z => dis f z f (List.mem_flatten.mpr ⟨_, mG, hf⟩) rfl) h
    · intro σ H11 hv
      obtain ⟨z12', rfl, u11, p11, al11⟩ := (hPw _ _ _).mp hv
      refine done _ _ ⟨_, _, _, _, _, rfl, fun z o e => u11 z o (fun w => ?_) (s810 _ _ (s8 _ _ e))⟩
      have := new z w
      rw [s8 _ _ e] at this
      cases this
  · intro σ H8 hv
    obtain ⟨z8, z9, z10, z11, z12, rfl, s8⟩ := (hPv _ _ _).mp hv
    refine (hU8 _ _).mpr (seq_gen fun U9 hU9 => ?_)
    clear hU8
    have y58 := s8 _ _ (s7 _ _ (s6 _ _ y5))
    have lu5 : us5.length = (PG.flowB pr.body 0).length := by rw [r5.length, List.length_map]
    have sl5 := stmB_len pr.body
    walk_at "rd"
    refine ⟨.inl ⟨rfl, _, .of y58⟩, fun p9 hp9 p10 hp10 => ⟨l5, us5, _, rfl, rfl, Same.new hp10 _ _ _ (Same.new hp9 _ _ _ y58), by omega, (hU9 _ _).mpr (seq_gen fun U10 hU10 => ?_)⟩⟩
    clear hU9
    have s410 : Same H4 (upd (upd (upd H8 p9 (.tup [V.int 0])) p10 (.tup [V.int 0, V.str (Str.ofString "stop"), V.ref p9])) l5 (.lst (us5 ++ [V.ref p10]))) := fun z o e => by
      rw [upd_ne (ne_of_none e hl5)]
      exact Same.new hp10 _ _ _ (Same.new hp9 _ _ _ (s8 _ _ (s47 _ _ e)))
    generalize upd (upd (upd H8 p9 (.tup [V.int 0])) p10 (.tup [V.int 0, V.str (Str.ofString "stop"), V.ref p9])) l5 (.lst (us5 ++ [V.ref p10])) = H10 at *
    have sD : Same H H10 := (sC.trans s4).trans s410
    walk_at "rd"
    refine ⟨63, rfl, a, ns.map V.int, rfl, sD.seq hS, fun S9 hS9 D9 hD9 => (hU10 _ _).mpr ?_⟩
    clear hU10
    rw [cut63 ns h63] at hD9 ⊢
    have s9 := (Same.new hS9 (.lst (ns.map V.int))).trans (Same.new hD9 (.lst [V.ref S9, V.int 1]))
    have n9 : S9 ≠ D9 := ne_of_none upd_same hD9
    have hD90 : H10 D9 = none := none_back (Same.new hS9 (.lst (ns.map V.int))) hD9
    have dk9 : Deck K (upd (upd H10 S9 (.lst (ns.map V.int))) D9 (.lst [V.ref S9, V.int 1])) D9 S9 ns 1 := ⟨upd_same, by rw [upd_ne n9]; exact upd_same, n9, h63⟩
    generalize upd (upd H10 S9 (.lst (ns.map V.int))) D9 (.lst [V.ref S9, V.int 1]) = H11 at *
    have s411 := s410.trans s9
    walk_at "rd"
    refine ⟨_, pr, rfl, rp.mono (s4.trans s411), dB, f4, fun l12 us12 H12 s12 hl12 y12 r12 => ?_⟩
    have d12 : Rep K H12 (.lst ((PG.flowB pr.body 0).map dpFlow)) (.ref l12) := Rep.lst_iff.mpr ⟨l12, us12, rfl, .of y12, r12⟩
    have d4' : Rep K H12 (.lst ((PG.flowB pr.body 0).map dpFlow)) (.ref l4) := Rep.lst_iff.mpr ⟨l4, us4, rfl, .of (s12 _ _ (s411 _ _ y4)), r4.mono (s411.trans s12)⟩
    refine ⟨_, d12, d4', ⟨_, rfl⟩, deep_flow _, true, rfl, (if_pos rfl).mpr ?_⟩
    refine ⟨D9, S9, ns, 1, many, rfl, dk9.same s12, by decide, by omega, fun v13 H13 u13 _ r13 p14 hp14 => ?_⟩
    rw [hpr] at r13
    have hD9H3 : H3 D9 = none := none_back (s4.trans s410) hD90
    have sE : Same H3 H13 := fun z o e => u13 z o (ne_of_none e hD9H3) (s12 _ _ (s411 _ _ (s4 _ _ e)))
    have s14 := Same.new hp14 (.lst [V.ref pa, V.ref R])
    exact ⟨_, r13.mono s14, Rep.lst_iff.mpr ⟨p14, _, rfl, .of upd_same, .cons (rp.mono (sE.trans s14)) (.cons (rr.mono (sE.trans s14)) .nil)⟩, ⟨_, rfl⟩, dp, q _⟩
end
end K13
end

section
set_option maxHeartbeats 4000000
namespace K13
open PySem L2
section
variable {P : Program} {w : World} {K : PySem.W.Frag} {mg : Str → Option Value} {base : Heap}
theorem all_mk {l : PySem.W.OpenLaw} {h : Heap} {fa : Addr} (X : K.In h) (G : h.Ns mainGlobals mg) (hfa : mg "law" = some (.ref fa))
    {f_flow : Addr} {od_flow an_flow : Option Addr} {sl_flow : Array (Option Value)} {oc_flow kV_flow dc_flow pm_flow cd_flow ct_flow : Value}
    {f_statement_at : Addr} {od_statement_at an_statement_at : Option Addr} {sl_statement_at : Array (Option Value)} {oc_statement_at kV_statement_at dc_statement_at pm_statement_at cd_statement_at ct_statement_at : Value}
    {f_flow_of_body : Addr} {od_flow_of_body an_flow_of_body : Option Addr} {sl_flow_of_body : Array (Option Value)} {oc_flow_of_body kV_flow_of_body dc_flow_of_body pm_flow_of_body cd_flow_of_body ct_flow_of_body : Value}
    {f_first_row : Addr} {od_first_row an_first_row : Option Addr} {sl_first_row : Array (Option Value)} {oc_first_row kV_first_row dc_first_row pm_first_row cd_first_row ct_first_row : Value}
    {f_behind_body : Addr} {od_behind_body an_behind_body : Option Addr} {sl_behind_body : Array (Option Value)} {oc_behind_body kV_behind_body dc_behind_body pm_behind_body cd_behind_body ct_behind_body : Value}
    {f_ways_of : Addr} {od_ways_of an_ways_of : Option Addr} {sl_ways_of : Array (Option Value)} {oc_ways_of kV_ways_of dc_ways_of pm_ways_of cd_ways_of ct_ways_of : Value}
    {f_bodies_in : Addr} {od_bodies_in an_bodies_in : Option Addr} {sl_bodies_in : Array (Option Value)} {oc_bodies_in kV_bodies_in dc_bodies_in pm_bodies_in cd_bodies_in ct_bodies_in : Value}
    {f_statements_in : Addr} {od_statements_in an_statements_in : Option Addr} {sl_statements_in : Array (Option Value)} {oc_statements_in kV_statements_in dc_statements_in pm_statements_in cd_statements_in ct_statements_in : Value}
    {f_copied_statement : Addr} {od_copied_statement an_copied_statement : Option Addr} {sl_copied_statement : Array (Option Value)} {oc_copied_statement kV_copied_statement dc_copied_statement pm_copied_statement cd_copied_statement ct_copied_statement : Value}
    {f_copied_body : Addr} {od_copied_body an_copied_body : Option Addr} {sl_copied_body : Array (Option Value)} {oc_copied_body kV_copied_body dc_copied_body pm_copied_body cd_copied_body ct_copied_body : Value}
    {f_with_bodies : Addr} {od_with_bodies an_with_bodies : Option Addr} {sl_with_bodies : Array (Option Value)} {oc_with_bodies kV_with_bodies dc_with_bodies pm_with_bodies cd_with_bodies ct_with_bodies : Value}
    {f__law_next : Addr} {od__law_next an__law_next : Option Addr} {sl__law_next : Array (Option Value)} {oc__law_next kV__law_next dc__law_next pm__law_next cd__law_next ct__law_next : Value}
    {f__law_e : Addr} {od__law_e an__law_e : Option Addr} {sl__law_e : Array (Option Value)} {oc__law_e kV__law_e dc__law_e pm__law_e cd__law_e ct__law_e : Value}
    {f__law_boxes : Addr} {od__law_boxes an__law_boxes : Option Addr} {sl__law_boxes : Array (Option Value)} {oc__law_boxes kV__law_boxes dc__law_boxes pm__law_boxes cd__law_boxes ct__law_boxes : Value}
    {f__law_plain : Addr} {od__law_plain an__law_plain : Option Addr} {sl__law_plain : Array (Option Value)} {oc__law_plain kV__law_plain dc__law_plain pm__law_plain cd__law_plain ct__law_plain : Value}
    {f__law_close : Addr} {od__law_close an__law_close : Option Addr} {sl__law_close : Array (Option Value)} {oc__law_close kV__law_close dc__law_close pm__law_close cd__law_close ct__law_close : Value}
    {f__law_number : Addr} {od__law_number an__law_number : Option Addr} {sl__law_number : Array (Option Value)} {oc__law_number kV__law_number dc__law_number pm__law_number cd__law_number ct__law_number : Value}
    {f__law_program : Addr} {od__law_program an__law_program : Option Addr} {sl__law_program : Array (Option Value)} {oc__law_program kV__law_program dc__law_program pm__law_program cd__law_program ct__law_program : Value}
    {f__law_ends : Addr} {od__law_ends an__law_ends : Option Addr} {sl__law_ends : Array (Option Value)} {oc__law_ends kV__law_ends dc__law_ends pm__law_ends cd__law_ends ct__law_ends : Value}
    {f__law_to : Addr} {od__law_to an__law_to : Option Addr} {sl__law_to : Array (Option Value)} {oc__law_to kV__law_to dc__law_to pm__law_to cd__law_to ct__law_to : Value}
    {f__law_ways : Addr} {od__law_ways an__law_ways : Option Addr} {sl__law_ways : Array (Option Value)} {oc__law_ways kV__law_ways dc__law_ways pm__law_ways cd__law_ways ct__law_ways : Value}
    {f__law_statements : Addr} {od__law_statements an__law_statements : Option Addr} {sl__law_statements : Array (Option Value)} {oc__law_statements kV__law_statements dc__law_statements pm__law_statements cd__law_statements ct__law_statements : Value}
    {f__law_spoil : Addr} {od__law_spoil an__law_spoil : Option Addr} {sl__law_spoil : Array (Option Value)} {oc__law_spoil kV__law_spoil dc__law_spoil pm__law_spoil cd__law_spoil ct__law_spoil : Value}
    {f__law_whole : Addr} {od__law_whole an__law_whole : Option Addr} {sl__law_whole : Array (Option Value)} {oc__law_whole kV__law_whole dc__law_whole pm__law_whole cd__law_whole ct__law_whole : Value}
    {f_law : Addr} {od_law an_law : Option Addr} {sl_law : Array (Option Value)} {oc_law kV_law dc_law pm_law cd_law ct_law : Value}
    {t_END : _}
    (a_flow : PySem.W.nsIn K mainGlobals "flow" = some (some (.ref f_flow)))
    (l_flow : K.lookup f_flow = some ⟨oc_flow, od_flow, .func (PySem.W.fnOf "flow" "flow" (defArgs s_flow) (defBody s_flow) (defScope s_flow) .none kV_flow dc_flow pm_flow an_flow cd_flow ct_flow), sl_flow⟩)
    (c_flow : PySem.W.codeIn K cd_flow "flow" = true)
    (k_flow : PySem.W.keepIn K (.ref f_flow) = true)
    (a_statement_at : PySem.W.nsIn K mainGlobals "statement_at" = some (some (.ref f_statement_at)))
    (l_statement_at : K.lookup f_statement_at = some ⟨oc_statement_at, od_statement_at, .func (PySem.W.fnOf "statement_at" "statement_at" (defArgs s_statement_at) (defBody s_statement_at) (defScope s_statement_at) .none kV_statement_at dc_statement_at pm_statement_at an_statement_at cd_statement_at ct_statement_at), sl_statement_at⟩)
    (c_statement_at : PySem.W.codeIn K cd_statement_at "statement_at" = true)
    (k_statement_at : PySem.W.keepIn K (.ref f_statement_at) = true)
    (a_flow_of_body : PySem.W.nsIn K mainGlobals "flow_of_body" = some (some (.ref f_flow_of_body)))
    (l_flow_of_body : K.lookup f_flow_of_body = some ⟨oc_flow_of_body, od_flow_of_body, .func (PySem.W.fnOf "flow_of_body" "flow_of_body" (defArgs s_flow_of_body) (defBody s_flow_of_body) (defScope s_flow_of_body) .none kV_flow_of_body dc_flow_of_body pm_flow_of_body an_flow_of_body cd_flow_of_body ct_flow_of_body), sl_flow_of_body⟩)
    (c_flow_of_body : PySem.W.codeIn K cd_flow_of_body "flow_of_body" = true)
    (k_flow_of_body : PySem.W.keepIn K (.ref f_flow_of_body) = true)
    (a_first_row : PySem.W.nsIn K mainGlobals "first_row" = some (some (.ref f_first_row)))
    (l_first_row : K.lookup f_first_row = some ⟨oc_first_row, od_first_row, .func (PySem.W.fnOf "first_row" "first_row" (defArgs s_first_row) (defBody s_first_row) (defScope s_first_row) .none kV_first_row dc_first_row pm_first_row an_first_row cd_first_row ct_first_row), sl_first_row⟩)
    (c_first_row : PySem.W.codeIn K cd_first_row "first_row" = true)
    (k_first_row : PySem.W.keepIn K (.ref f_first_row) = true)
    (a_behind_body : PySem.W.nsIn K mainGlobals "behind_body" = some (some (.ref f_behind_body)))
    (l_behind_body : K.lookup f_behind_body = some ⟨oc_behind_body, od_behind_body, .func (PySem.W.fnOf "behind_body" "behind_body" (defArgs s_behind_body) (defBody s_behind_body) (defScope s_behind_body) .none kV_behind_body dc_behind_body pm_behind_body an_behind_body cd_behind_body ct_behind_body), sl_behind_body⟩)
    (c_behind_body : PySem.W.codeIn K cd_behind_body "behind_body" = true)
    (k_behind_body : PySem.W.keepIn K (.ref f_behind_body) = true)
    (a_ways_of : PySem.W.nsIn K mainGlobals "ways_of" = some (some (.ref f_ways_of)))
    (l_ways_of : K.lookup f_ways_of = some ⟨oc_ways_of, od_ways_of, .func (PySem.W.fnOf "ways_of" "ways_of" (defArgs s_ways_of) (defBody s_ways_of) (defScope s_ways_of) .none kV_ways_of dc_ways_of pm_ways_of an_ways_of cd_ways_of ct_ways_of), sl_ways_of⟩)
    (c_ways_of : PySem.W.codeIn K cd_ways_of "ways_of" = true)
    (k_ways_of : PySem.W.keepIn K (.ref f_ways_of) = true)
    (a_bodies_in : PySem.W.nsIn K mainGlobals "bodies_in" = some (some (.ref f_bodies_in)))
    (l_bodies_in : K.lookup f_bodies_in = some ⟨oc_bodies_in, od_bodies_in, .func (PySem.W.fnOf "bodies_in" "bodies_in" (defArgs s_bodies_in) (defBody s_bodies_in) (defScope s_bodies_in) .none kV_bodies_in dc_bodies_in pm_bodies_in an_bodies_in cd_bodies_in ct_bodies_in), sl_bodies_in⟩)
    (c_bodies_in : PySem.W.codeIn K cd_bodies_in "bodies_in" = true)
    (k_bodies_in : PySem.W.keepIn K (.ref f_bodies_in) = true)
    (a_statements_in : PySem.W.nsIn K mainGlobals "statements_in" = some (some (.ref f_statements_in)))
    (l_statements_in : K.lookup f_statements_in = some ⟨oc_statements_in, od_statements_in, .func (PySem.W.fnOf "statements_in" "statements_in" (defArgs s_statements_in) (defBody s_statements_in) (defScope s_statements_in) .none kV_statements_in dc_statements_in pm_statements_in an_statements_in cd_statements_in ct_statements_in), sl_statements_in⟩)
    (c_statements_in : PySem.W.codeIn K cd_statements_in "statements_in" = true)
    (k_statements_in : PySem.W.keepIn K (.ref f_statements_in) = true)
    (a_copied_statement : PySem.W.nsIn K mainGlobals "copied_statement" = some (some (.ref f_copied_statement)))
    (l_copied_statement : K.lookup f_copied_statement = some ⟨oc_copied_statement, od_copied_statement, .func (PySem.W.fnOf "copied_statement" "copied_statement" (defArgs s_copied_statement) (defBody s_copied_statement) (defScope s_copied_statement) .none kV_copied_statement dc_copied_statement pm_copied_statement an_copied_statement cd_copied_statement ct_copied_statement), sl_copied_statement⟩)
    (c_copied_statement : PySem.W.codeIn K cd_copied_statement "copied_statement" = true)
    (k_copied_statement : PySem.W.keepIn K (.ref f_copied_statement) = true)
    (a_copied_body : PySem.W.nsIn K mainGlobals "copied_body" = some (some (.ref f_copied_body)))
    (l_copied_body : K.lookup f_copied_body = some ⟨oc_copied_body, od_copied_body, .func (PySem.W.fnOf "copied_body" "copied_body" (defArgs s_copied_body) (defBody s_copied_body) (defScope s_copied_body) .none kV_copied_body dc_copied_body pm_copied_body an_copied_body cd_copied_body ct_copied_body), sl_copied_body⟩)
    (c_copied_body : PySem.W.codeIn K cd_copied_body "copied_body" = true)
    (k_copied_body : PySem.W.keepIn K (.ref f_copied_body) = true)
    (a_with_bodies : PySem.W.nsIn K mainGlobals "with_bodies" = some (some (.ref f_with_bodies)))
    (l_with_bodies : K.lookup f_with_bodies = some ⟨oc_with_bodies, od_with_bodies, .func (PySem.W.fnOf "with_bodies" "with_bodies" (defArgs s_with_bodies) (defBody s_with_bodies) (defScope s_with_bodies) .none kV_with_bodies dc_with_bodies pm_with_bodies an_with_bodies cd_with_bodies ct_with_bodies), sl_with_bodies⟩)
    (c_with_bodies : PySem.W.codeIn K cd_with_bodies "with_bodies" = true)
    (k_with_bodies : PySem.W.keepIn K (.ref f_with_bodies) = true)
    (a__law_next : PySem.W.nsIn K mainGlobals "_law_next" = some (some (.ref f__law_next)))
    (l__law_next : K.lookup f__law_next = some ⟨oc__law_next, od__law_next, .func (PySem.W.fnOf "_law_next" "_law_next" (defArgs s__law_next) (defBody s__law_next) (defScope s__law_next) .none kV__law_next dc__law_next pm__law_next an__law_next cd__law_next ct__law_next), sl__law_next⟩)
    (c__law_next : PySem.W.codeIn K cd__law_next "_law_next" = true)
    (k__law_next : PySem.W.keepIn K (.ref f__law_next) = true)
    (a__law_e : PySem.W.nsIn K mainGlobals "_law_e" = some (some (.ref f__law_e)))
    (l__law_e : K.lookup f__law_e = some ⟨oc__law_e, od__law_e, .func (PySem.W.fnOf "_law_e" "_law_e" (defArgs s__law_e) (defBody s__law_e) (defScope s__law_e) .none kV__law_e dc__law_e pm__law_e an__law_e cd__law_e ct__law_e), sl__law_e⟩)
    (c__law_e : PySem.W.codeIn K cd__law_e "_law_e" = true)
    (k__law_e : PySem.W.keepIn K (.ref f__law_e) = true)
    (a__law_boxes : PySem.W.nsIn K mainGlobals "_law_boxes" = some (some (.ref f__law_boxes)))
    (l__law_boxes : K.lookup f__law_boxes = some ⟨oc__law_boxes, od__law_boxes, .func (PySem.W.fnOf "_law_boxes" "_law_boxes" (defArgs s__law_boxes) (defBody s__law_boxes) (defScope s__law_boxes) .none kV__law_boxes dc__law_boxes pm__law_boxes an__law_boxes cd__law_boxes ct__law_boxes), sl__law_boxes⟩)
    (c__law_boxes : PySem.W.codeIn K cd__law_boxes "_law_boxes" = true)
    (k__law_boxes : PySem.W.keepIn K (.ref f__law_boxes) = true)
    (a__law_plain : PySem.W.nsIn K mainGlobals "_law_plain" = some (some (.ref f__law_plain)))
    (l__law_plain : K.lookup f__law_plain = some ⟨oc__law_plain, od__law_plain, .func (PySem.W.fnOf "_law_plain" "_law_plain" (defArgs s__law_plain) (defBody s__law_plain) (defScope s__law_plain) .none kV__law_plain dc__law_plain pm__law_plain an__law_plain cd__law_plain ct__law_plain), sl__law_plain⟩)
    (c__law_plain : PySem.W.codeIn K cd__law_plain "_law_plain" = true)
    (k__law_plain : PySem.W.keepIn K (.ref f__law_plain) = true)
    (a__law_close : PySem.W.nsIn K mainGlobals "_law_close" = some (some (.ref f__law_close)))
    (l__law_close : K.lookup f__law_close = some ⟨oc__law_close, od__law_close, .func (PySem.W.fnOf "_law_close" "_law_close" (defArgs s__law_close) (defBody s__law_close) (defScope s__law_close) .none kV__law_close dc__law_close pm__law_close an__law_close cd__law_close ct__law_close), sl__law_close⟩)
    (c__law_close : PySem.W.codeIn K cd__law_close "_law_close" = true)
    (k__law_close : PySem.W.keepIn K (.ref f__law_close) = true)
    (a__law_number : PySem.W.nsIn K mainGlobals "_law_number" = some (some (.ref f__law_number)))
    (l__law_number : K.lookup f__law_number = some ⟨oc__law_number, od__law_number, .func (PySem.W.fnOf "_law_number" "_law_number" (defArgs s__law_number) (defBody s__law_number) (defScope s__law_number) .none kV__law_number dc__law_number pm__law_number an__law_number cd__law_number ct__law_number), sl__law_number⟩)
    (c__law_number : PySem.W.codeIn K cd__law_number "_law_number" = true)
    (k__law_number : PySem.W.keepIn K (.ref f__law_number) = true)
    (a__law_program : PySem.W.nsIn K mainGlobals "_law_program" = some (some (.ref f__law_program)))
    (l__law_program : K.lookup f__law_program = some ⟨oc__law_program, od__law_program, .func (PySem.W.fnOf "_law_program" "_law_program" (defArgs s__law_program) (defBody s__law_program) (defScope s__law_program) .none kV__law_program dc__law_program pm__law_program an__law_program cd__law_program ct__law_program), sl__law_program⟩)
    (c__law_program : PySem.W.codeIn K cd__law_program "_law_program" = true)
    (k__law_program : PySem.W.keepIn K (.ref f__law_program) = true)
    (a__law_ends : PySem.W.nsIn K mainGlobals "_law_ends" = some (some (.ref f__law_ends)))
    (l__law_ends : K.lookup f__law_ends = some ⟨oc__law_ends, od__law_ends, .func (PySem.W.fnOf "_law_ends" "_law_ends" (defArgs s__law_ends) (defBody s__law_ends) (defScope s__law_ends) .none kV__law_ends dc__law_ends pm__law_ends an__law_ends cd__law_ends ct__law_ends), sl__law_ends⟩)
    (c__law_ends : PySem.W.codeIn K cd__law_ends "_law_ends" = true)
    (k__law_ends : PySem.W.keepIn K (.ref f__law_ends) = true)
    (a__law_to : PySem.W.nsIn K mainGlobals "_law_to" = some (some (.ref f__law_to)))
    (l__law_to : K.lookup f__law_to = some ⟨oc__law_to, od__law_to, .func (PySem.W.fnOf "_law_to" "_law_to" (defArgs s__law_to) (defBody s__law_to) (defScope s__law_to) .none kV__law_to dc__law_to pm__law_to an__law_to cd__law_to ct__law_to), sl__law_to⟩)
    (c__law_to : PySem.W.codeIn K cd__law_to "_law_to" = true)
    (k__law_to : PySem.W.keepIn K (.ref f__law_to) = true)
    (a__law_ways : PySem.W.nsIn K mainGlobals "_law_ways" = some (some (.ref f__law_ways)))
    (l__law_ways : K.lookup f__law_ways = some ⟨oc__law_ways, od__law_ways, .func (PySem.W.fnOf "_law_ways" "_law_ways" (defArgs s__law_ways) (defBody s__law_ways) (defScope s__law_ways) .none kV__law_ways dc__law_ways pm__law_ways an__law_ways cd__law_ways ct__law_ways), sl__law_ways⟩)
    (c__law_ways : PySem.W.codeIn K cd__law_ways "_law_ways" = true)
    (k__law_ways : PySem.W.keepIn K (.ref f__law_ways) = true)
    (a__law_statements : PySem.W.nsIn K mainGlobals "_law_statements" = some (some (.ref f__law_statements)))
    (l__law_statements : K.lookup f__law_statements = some ⟨oc__law_statements, od__law_statements, .func (PySem.W.fnOf "_law_statements" "_law_statements" (defArgs s__law_statements) (defBody s__law_statements) (defScope s__law_statements) .none kV__law_statements dc__law_statements pm__law_statements an__law_statements cd__law_statements ct__law_statements), sl__law_statements⟩)
    (c__law_statements : PySem.W.codeIn K cd__law_statements "_law_statements" = true)
    (k__law_statements : PySem.W.keepIn K (.ref f__law_statements) = true)
    (a__law_spoil : PySem.W.nsIn K mainGlobals "_law_spoil" = some (some (.ref f__law_spoil)))
    (l__law_spoil : K.lookup f__law_spoil = some ⟨oc__law_spoil, od__law_spoil, .func (PySem.W.fnOf "_law_spoil" "_law_spoil" (defArgs s__law_spoil) (defBody s__law_spoil) (defScope s__law_spoil) .none kV__law_spoil dc__law_spoil pm__law_spoil an__law_spoil cd__law_spoil ct__law_spoil), sl__law_spoil⟩)
    (c__law_spoil : PySem.W.codeIn K cd__law_spoil "_law_spoil" = true)
    (k__law_spoil : PySem.W.keepIn K (.ref f__law_spoil) = true)
    (a__law_whole : PySem.W.nsIn K mainGlobals "_law_whole" = some (some (.ref f__law_whole)))
    (l__law_whole : K.lookup f__law_whole = some ⟨oc__law_whole, od__law_whole, .func (PySem.W.fnOf "_law_whole" "_law_whole" (defArgs s__law_whole) (defBody s__law_whole) (defScope s__law_whole) .none kV__law_whole dc__law_whole pm__law_whole an__law_whole cd__law_whole ct__law_whole), sl__law_whole⟩)
    (c__law_whole : PySem.W.codeIn K cd__law_whole "_law_whole" = true)
    (k__law_whole : PySem.W.keepIn K (.ref f__law_whole) = true)
    (a_law : PySem.W.nsIn K mainGlobals "law" = some (some (.ref f_law)))
    (l_law : K.lookup f_law = some ⟨oc_law, od_law, .func (PySem.W.fnOf "law" "law" (defArgs s_law) (defBody s_law) (defScope s_law) .none kV_law dc_law pm_law an_law cd_law ct_law), sl_law⟩)
    (c_law : PySem.W.codeIn K cd_law "law" = true)
    (k_law : PySem.W.keepIn K (.ref f_law) = true)
    (g_END : PySem.W.nsIn K mainGlobals "END" = some (some (.int 0 t_END)))
    (z_len : PySem.W.nsIn K mainGlobals "len" = some none)
    (z_range : PySem.W.nsIn K mainGlobals "range" = some none)
    (z_bool : PySem.W.nsIn K mainGlobals "bool" = some none)
    (z_list : PySem.W.nsIn K mainGlobals "list" = some none)
    (z_tuple : PySem.W.nsIn K mainGlobals "tuple" = some none)
    (z_max : PySem.W.nsIn K mainGlobals "max" = some none)
    (z_min : PySem.W.nsIn K mainGlobals "min" = some none)
    (z_isinstance : PySem.W.nsIn K mainGlobals "isinstance" = some none)
    (z_enumerate : PySem.W.nsIn K mainGlobals "enumerate" = some none)
    : ∃ fd : FuncData, (∀ (s : Shared) (v : Value), BindsTo s fd ⟨[v], []⟩ [("script", v)]) ∧ ∀ base : Heap, K.In base → base.Ns mainGlobals mg → FnOk l.prog w K mg base CX0 30 fa fd ["script"] (spLaw K) := by
  have e := hfa.symm.trans (PySem.W.mg_of X G a_law)
  cases e
  have F_flow := fun_mk (st := s_flow) l_flow c_flow k_flow
  have B_flow := F_flow.binds (ps := ["program"]) fun _ _ _ _ _ _ us hl => match us, hl with | [_], _ => rfl
  have F_statement_at := fun_mk (st := s_statement_at) l_statement_at c_statement_at k_statement_at
  have B_statement_at := F_statement_at.binds (ps := ["program", "row"]) fun _ _ _ _ _ _ us hl => match us, hl with | [_, _], _ => rfl
  have F_flow_of_body := fun_mk (st := s_flow_of_body) l_flow_of_body c_flow_of_body k_flow_of_body
  have B_flow_of_body := F_flow_of_body.binds (ps := ["body", "behind"]) fun _ _ _ _ _ _ us hl => match us, hl with | [_, _], _ => rfl
  have F_first_row := fun_mk (st := s_first_row) l_first_row c_first_row k_first_row
  have B_first_row := F_first_row.binds (ps := ["body", "behind"]) fun _ _ _ _ _ _ us hl => match us, hl with | [_, _], _ => rfl
  have F_behind_body := fun_mk (st := s_behind_body) l_behind_body c_behind_body k_behind_body
  have B_behind_body := F_behind_body.binds (ps := ["statement", "after"]) fun _ _ _ _ _ _ us hl => match us, hl with | [_, _], _ => rfl
  have F_ways_of := fun_mk (st := s_ways_of) l_ways_of c_ways_of k_ways_of
  have B_ways_of := F_ways_of.binds (ps := ["statement", "after"]) fun _ _ _ _ _ _ us hl => match us, hl with | [_, _], _ => rfl
  have F_bodies_in := fun_mk (st := s_bodies_in) l_bodies_in c_bodies_in k_bodies_in
  have B_bodies_in := F_bodies_in.binds (ps := ["statement"]) fun _ _ _ _ _ _ us hl => match us, hl with | [_], _ => rfl
  have F_statements_in := fun_mk (st := s_statements_in) l_statements_in c_statements_in k_statements_in
  have B_statements_in := F_statements_in.binds (ps := ["body"]) fun _ _ _ _ _ _ us hl => match us, hl with | [_], _ => rfl
  have F_copied_statement := fun_mk (st := s_copied_statement) l_copied_statement c_copied_statement k_copied_statement
  have B_copied_statement := F_copied_statement.binds (ps := ["statement"]) fun _ _ _ _ _ _ us hl => match us, hl with | [_], _ => rfl
  have F_copied_body := fun_mk (st := s_copied_body) l_copied_body c_copied_body k_copied_body
  have B_copied_body := F_copied_body.binds (ps := ["body"]) fun _ _ _ _ _ _ us hl => match us, hl with | [_], _ => rfl
  have F_with_bodies := fun_mk (st := s_with_bodies) l_with_bodies c_with_bodies k_with_bodies
  have B_with_bodies := F_with_bodies.binds (ps := ["statement", "bodies"]) fun _ _ _ _ _ _ us hl => match us, hl with | [_, _], _ => rfl
  have F__law_next := fun_mk (st := s__law_next) l__law_next c__law_next k__law_next
  have B__law_next := F__law_next.binds (ps := ["deck"]) fun _ _ _ _ _ _ us hl => match us, hl with | [_], _ => rfl
  have F__law_e := fun_mk (st := s__law_e) l__law_e c__law_e k__law_e
  have B__law_e := F__law_e.binds (ps := ["deck", "boxes", "deep"]) fun _ _ _ _ _ _ us hl => match us, hl with | [_, _, _], _ => rfl
  have F__law_boxes := fun_mk (st := s__law_boxes) l__law_boxes c__law_boxes k__law_boxes
  have B__law_boxes := F__law_boxes.binds (ps := ["deck"]) fun _ _ _ _ _ _ us hl => match us, hl with | [_], _ => rfl
  have F__law_plain := fun_mk (st := s__law_plain) l__law_plain c__law_plain k__law_plain
  have B__law_plain := F__law_plain.binds (ps := ["deck", "boxes", "k"]) fun _ _ _ _ _ _ us hl => match us, hl with | [_, _, _], _ => rfl
  have F__law_close := fun_mk (st := s__law_close) l__law_close c__law_close k__law_close
  have B__law_close := F__law_close.binds (ps := ["pile"]) fun _ _ _ _ _ _ us hl => match us, hl with | [_], _ => rfl
  have F__law_number := fun_mk (st := s__law_number) l__law_number c__law_number k__law_number
  have B__law_number := F__law_number.binds (ps := ["boxes", "rows", "mode"]) fun _ _ _ _ _ _ us hl => match us, hl with | [_, _, _], _ => rfl
  have F__law_program := fun_mk (st := s__law_program) l__law_program c__law_program k__law_program
  have B__law_program := F__law_program.binds (ps := ["deck", "many"]) fun _ _ _ _ _ _ us hl => match us, hl with | [_, _], _ => rfl
  have F__law_ends := fun_mk (st := s__law_ends) l__law_ends c__law_ends k__law_ends
  have B__law_ends := F__law_ends.binds (ps := ["rows"]) fun _ _ _ _ _ _ us hl => match us, hl with | [_], _ => rfl
  have F__law_to := fun_mk (st := s__law_to) l__law_to c__law_to k__law_to
  have B__law_to := F__law_to.binds (ps := ["rows", "matches", "at"]) fun _ _ _ _ _ _ us hl => match us, hl with | [_, _, _], _ => rfl
  have F__law_ways := fun_mk (st := s__law_ways) l__law_ways c__law_ways k__law_ways
  have B__law_ways := F__law_ways.binds (ps := ["rows"]) fun _ _ _ _ _ _ us hl => match us, hl with | [_], _ => rfl
  have F__law_statements := fun_mk (st := s__law_statements) l__law_statements c__law_statements k__law_statements
  have B__law_statements := F__law_statements.binds (ps := ["body"]) fun _ _ _ _ _ _ us hl => match us, hl with | [_], _ => rfl
  have F__law_spoil := fun_mk (st := s__law_spoil) l__law_spoil c__law_spoil k__law_spoil
  have B__law_spoil := F__law_spoil.binds (ps := ["body"]) fun _ _ _ _ _ _ us hl => match us, hl with | [_], _ => rfl
  have F__law_whole := fun_mk (st := s__law_whole) l__law_whole c__law_whole k__law_whole
  have B__law_whole := F__law_whole.binds (ps := ["told"]) fun _ _ _ _ _ _ us hl => match us, hl with | [_], _ => rfl
  have F_law := fun_mk (st := s_law) l_law c_law k_law
  have B_law := F_law.binds (ps := ["script"]) fun _ _ _ _ _ _ us hl => match us, hl with | [_], _ => rfl
  let t : Ad := ⟨f_flow,
    PySem.W.fnOf "flow" "flow" (defArgs s_flow) (defBody s_flow) (defScope s_flow) .none kV_flow dc_flow pm_flow an_flow cd_flow ct_flow,
    f_statement_at,
    PySem.W.fnOf "statement_at" "statement_at" (defArgs s_statement_at) (defBody s_statement_at) (defScope s_statement_at) .none kV_statement_at dc_statement_at pm_statement_at an_statement_at cd_statement_at ct_statement_at,
    f_flow_of_body,
    PySem.W.fnOf "flow_of_body" "flow_of_body" (defArgs s_flow_of_body) (defBody s_flow_of_body) (defScope s_flow_of_body) .none kV_flow_of_body dc_flow_of_body pm_flow_of_body an_flow_of_body cd_flow_of_body ct_flow_of_body,
    f_first_row,
    PySem.W.fnOf "first_row" "first_row" (defArgs s_first_row) (defBody s_first_row) (defScope s_first_row) .none kV_first_row dc_first_row pm_first_row an_first_row cd_first_row ct_first_row,
    f_behind_body,
    PySem.W.fnOf "behind_body" "behind_body" (defArgs s_behind_body) (defBody s_behind_body) (defScope s_behind_body) .none kV_behind_body dc_behind_body pm_behind_body an_behind_body cd_behind_body ct_behind_body,
    f_ways_of,
    PySem.W.fnOf "ways_of" "ways_of" (defArgs s_ways_of) (defBody s_ways_of) (defScope s_ways_of) .none kV_ways_of dc_ways_of pm_ways_of an_ways_of cd_ways_of ct_ways_of,
    f_bodies_in,
    PySem.W.fnOf "bodies_in" "bodies_in" (defArgs s_bodies_in) (defBody s_bodies_in) (defScope s_bodies_in) .none kV_bodies_in dc_bodies_in pm_bodies_in an_bodies_in cd_bodies_in ct_bodies_in,
    f_statements_in,
    PySem.W.fnOf "statements_in" "statements_in" (defArgs s_statements_in) (defBody s_statements_in) (defScope s_statements_in) .none kV_statements_in dc_statements_in pm_statements_in an_statements_in cd_statements_in ct_statements_in,
    f_copied_statement,
    PySem.W.fnOf "copied_statement" "copied_statement" (defArgs s_copied_statement) (defBody s_copied_statement) (defScope s_copied_statement) .none kV_copied_statement dc_copied_statement pm_copied_statement an_copied_statement cd_copied_statement ct_copied_statement,
    f_copied_body,
    PySem.W.fnOf "copied_body" "copied_body" (defArgs s_copied_body) (defBody s_copied_body) (defScope s_copied_body) .none kV_copied_body dc_copied_body pm_copied_body an_copied_body cd_copied_body ct_copied_body,
    f_with_bodies,
    PySem.W.fnOf "with_bodies" "with_bodies" (defArgs s_with_bodies) (defBody s_with_bodies) (defScope s_with_bodies) .none kV_with_bodies dc_with_bodies pm_with_bodies an_with_bodies cd_with_bodies ct_with_bodies,
    f__law_next,
    PySem.W.fnOf "_law_next" "_law_next" (defArgs s__law_next) (defBody s__law_next) (defScope s__law_next) .none kV__law_next dc__law_next pm__law_next an__law_next cd__law_next ct__law_next,
    f__law_e,
    PySem.W.fnOf "_law_e" "_law_e" (defArgs s__law_e) (defBody s__law_e) (defScope s__law_e) .none kV__law_e dc__law_e pm__law_e an__law_e cd__law_e ct__law_e,
    f__law_boxes,
    PySem.W.fnOf "_law_boxes" "_law_boxes" (defArgs s__law_boxes) (defBody s__law_boxes) (defScope s__law_boxes) .none kV__law_boxes dc__law_boxes pm__law_boxes an__law_boxes cd__law_boxes ct__law_boxes,
    f__law_plain,
    PySem.W.fnOf "_law_plain" "_law_plain" (defArgs s__law_plain) (defBody s__law_plain) (defScope s__law_plain) .none kV__law_plain dc__law_plain pm__law_plain an__law_plain cd__law_plain ct__law_plain,
    f__law_close,
    PySem.W.fnOf "_law_close" "_law_close" (defArgs s__law_close) (defBody s__law_close) (defScope s__law_close) .none kV__law_close dc__law_close pm__law_close an__law_close cd__law_close ct__law_close,
    f__law_number,
    PySem.W.fnOf "_law_number" "_law_number" (defArgs s__law_number) (defBody s__law_number) (defScope s__law_number) .none kV__law_number dc__law_number pm__law_number an__law_number cd__law_number ct__law_number,
    f__law_program,
    PySem.W.fnOf "_law_program" "_law_program" (defArgs s__law_program) (defBody s__law_program) (defScope s__law_program) .none kV__law_program dc__law_program pm__law_program an__law_program cd__law_program ct__law_program,
    f__law_ends,
    PySem.W.fnOf "_law_ends" "_law_ends" (defArgs s__law_ends) (defBody s__law_ends) (defScope s__law_ends) .none kV__law_ends dc__law_ends pm__law_ends an__law_ends cd__law_ends ct__law_ends,
    f__law_to,
    PySem.W.fnOf "_law_to" "_law_to" (defArgs s__law_to) (defBody s__law_to) (defScope s__law_to) .none kV__law_to dc__law_to pm__law_to an__law_to cd__law_to ct__law_to,
    f__law_ways,
    PySem.W.fnOf "_law_ways" "_law_ways" (defArgs s__law_ways) (defBody s__law_ways) (defScope s__law_ways) .none kV__law_ways dc__law_ways pm__law_ways an__law_ways cd__law_ways ct__law_ways,
    f__law_statements,
    PySem.W.fnOf "_law_statements" "_law_statements" (defArgs s__law_statements) (defBody s__law_statements) (defScope s__law_statements) .none kV__law_statements dc__law_statements pm__law_statements an__law_statements cd__law_statements ct__law_statements,
    f__law_spoil,
    PySem.W.fnOf "_law_spoil" "_law_spoil" (defArgs s__law_spoil) (defBody s__law_spoil) (defScope s__law_spoil) .none kV__law_spoil dc__law_spoil pm__law_spoil an__law_spoil cd__law_spoil ct__law_spoil,
    f__law_whole,
    PySem.W.fnOf "_law_whole" "_law_whole" (defArgs s__law_whole) (defBody s__law_whole) (defScope s__law_whole) .none kV__law_whole dc__law_whole pm__law_whole an__law_whole cd__law_whole ct__law_whole,
    fa,
    PySem.W.fnOf "law" "law" (defArgs s_law) (defBody s_law) (defScope s_law) .none kV_law dc_law pm_law an_law cd_law ct_law⟩
  have T : Tx K mg t := ⟨⟨F_flow, B_flow, PySem.W.mg_of X G a_flow⟩,
    ⟨F_statement_at, B_statement_at, PySem.W.mg_of X G a_statement_at⟩,
    ⟨F_flow_of_body, B_flow_of_body, PySem.W.mg_of X G a_flow_of_body⟩,
    ⟨F_first_row, B_first_row, PySem.W.mg_of X G a_first_row⟩,
    ⟨F_behind_body, B_behind_body, PySem.W.mg_of X G a_behind_body⟩,
    ⟨F_ways_of, B_ways_of, PySem.W.mg_of X G a_ways_of⟩,
    ⟨F_bodies_in, B_bodies_in, PySem.W.mg_of X G a_bodies_in⟩,
    ⟨F_statements_in, B_statements_in, PySem.W.mg_of X G a_statements_in⟩,
    ⟨F_copied_statement, B_copied_statement, PySem.W.mg_of X G a_copied_statement⟩,
    ⟨F_copied_body, B_copied_body, PySem.W.mg_of X G a_copied_body⟩,
    ⟨F_with_bodies, B_with_bodies, PySem.W.mg_of X G a_with_bodies⟩,
    ⟨F__law_next, B__law_next, PySem.W.mg_of X G a__law_next⟩,
    ⟨F__law_e, B__law_e, PySem.W.mg_of X G a__law_e⟩,
    ⟨F__law_boxes, B__law_boxes, PySem.W.mg_of X G a__law_boxes⟩,
    ⟨F__law_plain, B__law_plain, PySem.W.mg_of X G a__law_plain⟩,
    ⟨F__law_close, B__law_close, PySem.W.mg_of X G a__law_close⟩,
    ⟨F__law_number, B__law_number, PySem.W.mg_of X G a__law_number⟩,
    ⟨F__law_program, B__law_program, PySem.W.mg_of X G a__law_program⟩,
    ⟨F__law_ends, B__law_ends, PySem.W.mg_of X G a__law_ends⟩,
    ⟨F__law_to, B__law_to, PySem.W.mg_of X G a__law_to⟩,
    ⟨F__law_ways, B__law_ways, PySem.W.mg_of X G a__law_ways⟩,
    ⟨F__law_statements, B__law_statements, PySem.W.mg_of X G a__law_statements⟩,
    ⟨F__law_spoil, B__law_spoil, PySem.W.mg_of X G a__law_spoil⟩,
    ⟨F__law_whole, B__law_whole, PySem.W.mg_of X G a__law_whole⟩,
    ⟨F_law, B_law, PySem.W.mg_of X G a_law⟩,
    ⟨_, PySem.W.mg_of X G g_END, _, rfl⟩,
    PySem.W.mg_none_of X G z_len,
    PySem.W.mg_none_of X G z_range,
    PySem.W.mg_none_of X G z_bool,
    PySem.W.mg_none_of X G z_list,
    PySem.W.mg_none_of X G z_tuple,
    PySem.W.mg_none_of X G z_max,
    PySem.W.mg_none_of X G z_min,
    PySem.W.mg_none_of X G z_isinstance,
    PySem.W.mg_none_of X G z_enumerate⟩
  refine ⟨t.fd_law, ?_, fun base _ _ => ok_law T⟩
  exact fun s v => .of_eq rfl
theorem walk {l : PySem.W.OpenLaw} {q : Program} {loose : List Str} {XP : (Str → Option Value) → Heap → Prop} {YP : World → Heap → Prop} {d : DefRec} {K : Params → PySem.W.Frag} (hn : l.most = some 63) (hdf : d.params.defaults = [])
    (hY : ∀ (w : World) (h : Heap), YP w h → (K w.params).In h)
    (F : ∀ (w : World) (mg : Str → Option Value) (fa : Addr) (h : Heap), (K w.params).In h → h.Ns mainGlobals mg → mg d.name = some (.ref fa) →
      ∃ fd : FuncData, (∀ (s : Shared) (u : Value), BindsTo s fd ⟨[u], []⟩ [("script", u)]) ∧ ∀ base : Heap, (K w.params).In base → base.Ns mainGlobals mg → FnOk l.prog w (K w.params) mg base CX0 30 fa fd ["script"] (spLaw (K w.params))) :
    PySem.W.WalkO q loose XP YP l.row.toRowW d [] (fun f vs => PySem.call f vs) :=
  L2.walk_of (n := 63) (k := 30) (x := "script") (CX := fun _ => CX0) (sp := fun w => spLaw (K w.params)) hn (by decide) hdf ⟨rfl, by decide, by decide⟩ hY F (fun _ _ a ns hl _ hS => ⟨a, ns, rfl, hS, hl, fun _ => rfl⟩) fun _ _ _ _ _ z => z
end
end K13

end

open PySem PySem.W PyProof.Rows
set_option maxRecDepth 100000 in
set_option maxHeartbeats 0 in
theorem PySem.Challenge.cw_everyrow_k13_flow_told_holds : PySem.Challenge.rw_everyrow_k13_flow_told.Holds := by
  w_on; o_law; k_head; (case hw => w_witness2)
  k_fill
  refine K13.walk (l := PySem.Challenge.rw_everyrow_k13_flow_told) rfl rfl (fun w h Y => PySem.W.kIn_of Y) ?F
  case F =>
    intro w mg fa h KX G hmg
    refine' K13.all_mk KX G hmg ?a_flow ?l_flow ?c_flow ?k_flow ?a_statement_at ?l_statement_at ?c_statement_at ?k_statement_at ?a_flow_of_body ?l_flow_of_body ?c_flow_of_body ?k_flow_of_body ?a_first_row ?l_first_row ?c_first_row ?k_first_row ?a_behind_body ?l_behind_body ?c_behind_body ?k_behind_body ?a_ways_of ?l_ways_of ?c_ways_of ?k_ways_of ?a_bodies_in ?l_bodies_in ?c_bodies_in ?k_bodies_in ?a_statements_in ?l_statements_in ?c_statements_in ?k_statements_in ?a_copied_statement ?l_copied_statement ?c_copied_statement ?k_copied_statement ?a_copied_body ?l_copied_body ?c_copied_body ?k_copied_body ?a_with_bodies ?l_with_bodies ?c_with_bodies ?k_with_bodies ?a__law_next ?l__law_next ?c__law_next ?k__law_next ?a__law_e ?l__law_e ?c__law_e ?k__law_e ?a__law_boxes ?l__law_boxes ?c__law_boxes ?k__law_boxes ?a__law_plain ?l__law_plain ?c__law_plain ?k__law_plain ?a__law_close ?l__law_close ?c__law_close ?k__law_close ?a__law_number ?l__law_number ?c__law_number ?k__law_number ?a__law_program ?l__law_program ?c__law_program ?k__law_program ?a__law_ends ?l__law_ends ?c__law_ends ?k__law_ends ?a__law_to ?l__law_to ?c__law_to ?k__law_to ?a__law_ways ?l__law_ways ?c__law_ways ?k__law_ways ?a__law_statements ?l__law_statements ?c__law_statements ?k__law_statements ?a__law_spoil ?l__law_spoil ?c__law_spoil ?k__law_spoil ?a__law_whole ?l__law_whole ?c__law_whole ?k__law_whole ?a_law ?l_law ?c_law ?k_law ?g_END ?z_len ?z_range ?z_bool ?z_list ?z_tuple ?z_max ?z_min ?z_isinstance ?z_enumerate
    (case a_flow => k_is)
    (case l_flow => k_is)
    (case c_flow => k_is)
    (case k_flow => k_is)
    (case a_statement_at => k_is)
    (case l_statement_at => k_is)
    (case c_statement_at => k_is)
    (case k_statement_at => k_is)
    (case a_flow_of_body => k_is)
    (case l_flow_of_body => k_is)
    (case c_flow_of_body => k_is)
    (case k_flow_of_body => k_is)
    (case a_first_row => k_is)
    (case l_first_row => k_is)
    (case c_first_row => k_is)
    (case k_first_row => k_is)
    (case a_behind_body => k_is)
    (case l_behind_body => k_is)
    (case c_behind_body => k_is)
    (case k_behind_body => k_is)
    (case a_ways_of => k_is)
    (case l_ways_of => k_is)
    (case c_ways_of => k_is)
    (case k_ways_of => k_is)
    (case a_bodies_in => k_is)
    (case l_bodies_in => k_is)
    (case c_bodies_in => k_is)
    (case k_bodies_in => k_is)
    (case a_statements_in => k_is)
    (case l_statements_in => k_is)
    (case c_statements_in => k_is)
    (case k_statements_in => k_is)
    (case a_copied_statement => k_is)
    (case l_copied_statement => k_is)
    (case c_copied_statement => k_is)
    (case k_copied_statement => k_is)
    (case a_copied_body => k_is)
    (case l_copied_body => k_is)
    (case c_copied_body => k_is)
    (case k_copied_body => k_is)
    (case a_with_bodies => k_is)
    (case l_with_bodies => k_is)
    (case c_with_bodies => k_is)
    (case k_with_bodies => k_is)
    (case a__law_next => k_is)
    (case l__law_next => k_is)
    (case c__law_next => k_is)
    (case k__law_next => k_is)
    (case a__law_e => k_is)
    (case l__law_e => k_is)
    (case c__law_e => k_is)
    (case k__law_e => k_is)
    (case a__law_boxes => k_is)
    (case l__law_boxes => k_is)
    (case c__law_boxes => k_is)
    (case k__law_boxes => k_is)
    (case a__law_plain => k_is)
    (case l__law_plain => k_is)
    (case c__law_plain => k_is)
    (case k__law_plain => k_is)
    (case a__law_close => k_is)
    (case l__law_close => k_is)
    (case c__law_close => k_is)
    (case k__law_close => k_is)
    (case a__law_number => k_is)
    (case l__law_number => k_is)
    (case c__law_number => k_is)
    (case k__law_number => k_is)
    (case a__law_program => k_is)
    (case l__law_program => k_is)
    (case c__law_program => k_is)
    (case k__law_program => k_is)
    (case a__law_ends => k_is)
    (case l__law_ends => k_is)
    (case c__law_ends => k_is)
    (case k__law_ends => k_is)
    (case a__law_to => k_is)
    (case l__law_to => k_is)
    (case c__law_to => k_is)
    (case k__law_to => k_is)
    (case a__law_ways => k_is)
    (case l__law_ways => k_is)
    (case c__law_ways => k_is)
    (case k__law_ways => k_is)
    (case a__law_statements => k_is)
    (case l__law_statements => k_is)
    (case c__law_statements => k_is)
    (case k__law_statements => k_is)
    (case a__law_spoil => k_is)
    (case l__law_spoil => k_is)
    (case c__law_spoil => k_is)
    (case k__law_spoil => k_is)
    (case a__law_whole => k_is)
    (case l__law_whole => k_is)
    (case c__law_whole => k_is)
    (case k__law_whole => k_is)
    (case a_law => k_is)
    (case l_law => k_is)
    (case c_law => k_is)
    (case k_law => k_is)
    (case g_END => k_is)
    (case z_len => k_is)
    (case z_range => k_is)
    (case z_bool => k_is)
    (case z_list => k_is)
    (case z_tuple => k_is)
    (case z_max => k_is)
    (case z_min => k_is)
    (case z_isinstance => k_is)
    (case z_enumerate => k_is)

