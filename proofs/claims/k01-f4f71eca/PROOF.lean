import PyProof.Rows.All
import Wide.All
import OpenK.AllK
import Wide.FinOn
import Lean
import PyProof.EqAt
import PyProof.EqKinds
import PyProof.TupleCall
import PySem.Challenge.RW_everyrow_k01_names_and_leaves
set_option Elab.async false
set_option linter.all false
set_option maxRecDepth 100000
/-! THE HAND LAYER, for ints, bools, texts, own classes, LISTS and tuples (index, slices, in, append, pop ..), calls, loops. Paste it whole ahead of your own text; what your proof does not reach may be deleted. -/
namespace L2
open PySem PySem.Spec PyProof.Rows

/-- a key: an int or a str -/
abbrev Key := Sum Int Str
def keyIs : Key → Value → Bool
  | .inl k, v => Value.isInt k v
  | .inr x, v => Value.isStrOf x v
def keyH (w : World) : Key → Int
  | .inl k => hashInt k
  | .inr x => hashStr w x
theorem keyIs_shape : ∀ {k : Key} {v : Value}, keyIs k v = true → (∃ i t, k = Sum.inl i ∧ v = Value.int i t) ∨ (∃ x t, k = Sum.inr x ∧ v = Value.str x t)
  | .inl i, v, h => by
    obtain ⟨t, e⟩ := Value.isInt_shape (k := i) (v := v) h
    exact .inl ⟨i, t, rfl, e⟩
  | .inr x, v, h => by
    obtain ⟨t, e⟩ := Value.isStrOf_shape (x := x) (v := v) h
    exact .inr ⟨x, t, rfl, e⟩
theorem key_ll (a b : Int) : decide ((Sum.inl a : Key) = Sum.inl b) = (a == b) := by
  by_cases e : a = b
  · subst e; simp
  · have h : ¬ (Sum.inl a : Key) = Sum.inl b := fun q => e (Sum.inl.inj q)
    rw [decide_eq_false h]
    exact (beq_eq_false_iff_ne.mpr e).symm
theorem key_rr (a b : Str) : decide ((Sum.inr a : Key) = Sum.inr b) = decide (a = b) := by
  by_cases e : a = b
  · subst e; simp
  · have h : ¬ (Sum.inr a : Key) = Sum.inr b := fun q => e (Sum.inr.inj q)
    rw [decide_eq_false h, decide_eq_false e]
theorem key_lr (a : Int) (b : Str) : decide ((Sum.inl a : Key) = Sum.inr b) = false := decide_eq_false (fun q => nomatch q)
theorem key_rl (a : Str) (b : Int) : decide ((Sum.inr a : Key) = Sum.inl b) = false := decide_eq_false (fun q => nomatch q)

def mixKind (prog : Program) (w : World) : PySem.KeyKind prog w Key where
  is := keyIs
  hash := keyH w
  inj := fun v a b ha hb => by
    rcases keyIs_shape ha with ⟨i, t, rfl, rfl⟩ | ⟨x, t, rfl, rfl⟩
    · rcases keyIs_shape hb with ⟨j, u, rfl, e⟩ | ⟨y, u, rfl, e⟩
      · injection e with e1 _; rw [e1]
      · exact nomatch e
    · rcases keyIs_shape hb with ⟨j, u, rfl, e⟩ | ⟨y, u, rfl, e⟩
      · exact nomatch e
      · injection e with e1 _; rw [e1]
  byValue := fun k v h => by
    rcases keyIs_shape h with ⟨i, t, rfl, rfl⟩ | ⟨x, t, rfl, rfl⟩ <;> rfl
  pyHash := fun hv h => by
    rcases keyIs_shape hv with ⟨i, t, rfl, rfl⟩ | ⟨x, t, rfl, rfl⟩
    · exact wpAny_pyHash_int h
    · exact wpAny_pyHash_str h
  eqBool := fun hu hv h => by
    rcases keyIs_shape hu with ⟨i, t, rfl, rfl⟩ | ⟨x, t, rfl, rfl⟩
    · rcases keyIs_shape hv with ⟨j, u, rfl, rfl⟩ | ⟨y, u, rfl, rfl⟩
      · rw [key_ll] at h; exact wpAny_eqBool_int h
      · rw [key_lr] at h; exact SeqAt.EqAt.int_str i t y u _ _ _ _ h
    · rcases keyIs_shape hv with ⟨j, u, rfl, rfl⟩ | ⟨y, u, rfl, rfl⟩
      · rw [key_rl] at h; exact SeqAt.EqAt.str_int x t j u _ _ _ _ h
      · rw [key_rr] at h; exact wpAny_eqBool_str h
  «strs» := fun k x t v h => by
    rcases keyIs_shape h with ⟨i, u, rfl, e⟩ | ⟨y, u, rfl, e⟩
    · exact nomatch e
    · injection e with e1 _
      subst e1
      cases v <;> rfl

end L2

namespace L2
open PySem PySem.Spec PyProof.Rows

/-- a value, without the heap -/
inductive V where
  | non | bl (b : Bool) | int (i : Int) | str (x : Str) | byt (b : Array UInt8) | flt (b : UInt64) | ref (a : Addr) | ty (n : String)
  deriving DecidableEq

def RelV : V → Value → Prop
  | .non, u => u = Value.none
  | .bl b, u => u = Value.bool b
  | .int i, u => ∃ t, u = Value.int i t
  | .str x, u => ∃ t, u = Value.str x t
  | .byt b, u => ∃ t, u = Value.bytes b t
  | .flt b, u => ∃ t, u = Value.float b t
  | .ref a, u => u = Value.ref a
  | .ty n, u => u = Value.type n

abbrev Vals : List V → List Value → Prop := Paired RelV
theorem Vals.length {xs : List V} {us : List Value} (r : Vals xs us) : xs.length = us.length := Paired.length r
theorem Vals.get : ∀ {xs : List V} {us : List Value} {i : Nat} {x : V}, Vals xs us → xs[i]? = some x → ∃ u, us[i]? = some u ∧ RelV x u
  | _, _, _, _, .nil, e => by simp at e
  | _, _, 0, _, .cons r _, e => by simp at e; subst e; exact ⟨_, rfl, r⟩
  | _, _, i + 1, x, .cons _ t, e => by
    obtain ⟨u, h1, h2⟩ := Vals.get (i := i) (x := x) t (by simpa using e)
    exact ⟨u, by simpa using h1, h2⟩
theorem Vals.set {x : V} {u : Value} (r : RelV x u) : ∀ {xs : List V} {us : List Value} (i : Nat), Vals xs us → Vals (xs.set i x) (us.set i u)
  | _, _, _, .nil => .nil
  | _, _, 0, .cons _ t => .cons r t
  | _, _, i + 1, .cons q t => .cons q (Vals.set r i t)
theorem Vals.append : ∀ {xs ys : List V} {us ws : List Value}, Vals xs us → Vals ys ws → Vals (xs ++ ys) (us ++ ws)
  | _, _, _, _, .nil, s => s
  | _, _, _, _, .cons r t, s => .cons r (Vals.append t s)
theorem Vals.take : ∀ {xs : List V} {us : List Value} (n : Nat), Vals xs us → Vals (xs.take n) (us.take n)
  | _, _, 0, _ => .nil
  | _, _, _ + 1, .nil => .nil
  | _, _, n + 1, .cons r t => .cons r (Vals.take n t)
theorem Vals.drop : ∀ {xs : List V} {us : List Value} (n : Nat), Vals xs us → Vals (xs.drop n) (us.drop n)
  | _, _, 0, r => r
  | _, _, _ + 1, .nil => .nil
  | _, _, n + 1, .cons _ t => Vals.drop n t
def RelO : Option V → Option Value → Prop
  | some v, some u => RelV v u
  | none, none => True
  | _, _ => False
def KV {κ : Type} : List (κ × V) → List (κ × Value) → Prop := Paired fun (p : κ × V) (q : κ × Value) => p.1 = q.1 ∧ RelV p.2 q.2

/-- a key of a dict (00_mix): an int or a text -/
def kV : Key → V
  | .inl i => .int i
  | .inr x => .str x

/-- what stands at a tracked address -/
inductive HO where
  /-- a list -/
  | lst (xs : List V)
  /-- a tuple (never changes) -/
  | tup (xs : List V)
  /-- a dict whose keys are ints and texts; one whose keys are tuples of ints and texts (the empty one is both) -/
  | dK (kvs : List (Key × V)) | dT (kvs : List (List Key × V))
  /-- a set of ints: its members, its size -/
  | set (S : Int → Bool) (n : Nat)
  /-- an instance of the class at C, its dict at dx, its attributes -/
  | ins (C dx : Addr) (fs : List (Str × V))
  /-- the dict of the instance at x -/
  | own (x : Addr)
  /-- the dict of an exception -/
  | xd (fs : List (Str × V))
  /-- a bound method, f of x -/
  | met (f x : Addr)
  /-- a range object lo, lo + 1, .. below hi -/
  | rng (lo hi : Int)
  /-- a thing that is known to the object (the script; a dict while a loop walks it): read, never written while it is so -/
  | frz (o : Obj) (u : HO)
  /-- a code object's table -/
  | tbl (ps : Array Value)
  /-- any other thing, by what is true of its one object (a def of one's own: SetO a S n := HO.ext fun h => ..) -/
  | ext (φ : Heap → Prop)

abbrev Hp := Addr → Option HO
def upd (H : Hp) (a : Addr) (o : HO) : Hp := fun b => if b = a then some o else H b
theorem upd_same {H : Hp} {a : Addr} {o : HO} : upd H a o a = some o := by unfold upd; rw [if_pos rfl]
theorem upd_ne {H : Hp} {a b : Addr} {o : HO} (h : b ≠ a) : upd H a o b = H b := by unfold upd; rw [if_neg h]
theorem upd_upd {H : Hp} {a : Addr} {o u : HO} : upd (upd H a o) a u = upd H a u := by
  funext b; unfold upd; split <;> rfl
/-- two objects of different content stand apart -/
theorem ne_of {H : Hp} {a b : Addr} {o u : HO} (h : H a = some o) (h' : H b = some u) (d : o ≠ u) : a ≠ b := by
  intro e; subst e; rw [h] at h'; exact d (Option.some.inj h')
theorem ne_of_none {H : Hp} {a b : Addr} {o : HO} (h : H a = some o) (h' : H b = none) : a ≠ b := by
  intro e; subst e; rw [h] at h'; cases h'

section
variable (P : Program) (w : World)
def ObjOk (H : Hp) (h : Heap) (a : Addr) : HO → Prop
  | .lst xs => xs.length ≤ sizeLine ∧ ∃ (its : List Value) (n : Nat), Vals xs its ∧ h.get? a = some { cls := .type "list", data := .seq its.toArray n }
  | .tup xs => xs.length ≤ sizeLine ∧ ∃ its : List Value, Vals xs its ∧ IsTup h a its.toArray
  | .dK kvs => kvs.length ≤ sizeLine ∧ (a == sysModules) = false ∧ ∃ vs, KV kvs vs ∧ h.DictOf (mixKind P w) a vs
  | .dT kvs => kvs.length ≤ sizeLine ∧ (a == sysModules) = false ∧ ∃ xs : List (List Key × Addr × Value),
      Paired (fun (p : List Key × V) (q : List Key × Addr × Value) => p.1 = q.1 ∧ H q.2.1 = some (.tup (p.1.map kV)) ∧ RelV p.2 q.2.2) kvs xs ∧
      ∃ o es ep, h.get? a = some o ∧ o.ExactDict ∧ o.data = .dict es ep ∧ es.toList = xs.map (entryOfKey (tupleKind (mixKind P w))) ∧ (xs.map (·.1)).Nodup
  | .set S n => h.SetOf (intKind P w) a S n
  | .ins C dx fs => H dx = some (.own a) ∧ fs.length ≤ 1000 ∧ dx ≠ a ∧ h.get? a = some (PySem.W.instObj C dx) ∧
      ∃ mA, h.Ns1 dx mA ∧ (∀ f, RelO (fs.lookup f) (mA f)) ∧ PySem.Within mA (fs.map (·.1))
  | .own _ => ∃ o, h.get? a = some o
  | .xd fs => ∃ mA, h.Ns1 a mA ∧ ∀ f, RelO (fs.lookup f) (mA f)
  | .rng lo hi => ∃ t u v, h.get? a = some { cls := .type "range", data := .fields #[.int lo t, .int hi u, .int 1 v] }
  | .frz o u => h.get? a = some o ∧ ObjOk H h a u
  | .tbl ps => h.get? a = some { cls := .none, data := .fields ps }
  | .met f x => h.get? a = some (PySem.W.methodObj (.ref f) (.ref x))
  | .ext φ => φ h ∧ (∃ o, h.get? a = some o) ∧ ∀ h1 h2 : Heap, φ h1 → (∀ o, h1.get? a = some o → h2.get? a = some o) → φ h2
/-- the abstract heap is held -/
def HOk (H : Hp) (h : Heap) : Prop := ∀ a o, H a = some o → ObjOk P w H h a o
end

section
variable {P : Program} {w : World} {H H' : Hp} {h h' : Heap} {a : Addr} {o : HO}
theorem ObjOk.lt (x : ObjOk P w H h a o) : a < h.objs.size := by
  cases o with
  | lst xs => obtain ⟨_, _, _, _, e⟩ := x; exact Heap.lt_size e
  | tup xs => obtain ⟨_, _, _, p⟩ := x; exact p.lt
  | dK kvs => obtain ⟨_, _, _, _, o, _, _, e, _⟩ := x; exact Heap.lt_size e
  | dT kvs => obtain ⟨_, _, _, _, o, _, _, e, _⟩ := x; exact Heap.lt_size e
  | set S n => obtain ⟨o, _, _, _, e, _⟩ := x; exact Heap.lt_size e
  | ins C dx fs => obtain ⟨_, _, _, e, _⟩ := x; exact Heap.lt_size e
  | own y => obtain ⟨_, e⟩ := x; exact Heap.lt_size e
  | xd fs => obtain ⟨_, ⟨_, _, _, e, _⟩, _⟩ := x; exact Heap.lt_size e
  | rng lo hi => obtain ⟨_, _, _, e⟩ := x; exact Heap.lt_size e
  | frz ob u => obtain ⟨e, _⟩ := x; exact Heap.lt_size e
  | tbl ps => exact Heap.lt_size (show h.get? a = some _ from x)
  | met f y => exact Heap.lt_size (show h.get? a = some _ from x)
  | ext φ => obtain ⟨_, ⟨_, e⟩, _⟩ := x; exact Heap.lt_size e
theorem Paired.mapP {α β : Type} {F G : α → β → Prop} : ∀ {l₁ : List α} {l₂ : List β}, Paired F l₁ l₂ → (∀ a b, F a b → G a b) → Paired G l₁ l₂
  | _, _, .nil, _ => .nil
  | _, _, .cons r t, f => .cons (f _ _ r) (Paired.mapP t f)
/-- what an object's description leans on: its own object, its own dict, the tuples -/
theorem ObjOk.stay (x : ObjOk P w H h a o) (k : ∀ b u, (b = a ∨ H b = some (.own a)) → h.get? b = some u → h'.get? b = some u)
    (ho : ∀ b, H b = some (.own a) → H' b = some (.own a)) (ht : ∀ b xs, H b = some (.tup xs) → H' b = some (.tup xs)) : ObjOk P w H' h' a o := by
  induction o with
  | lst xs => obtain ⟨z, its, n, r, e⟩ := x; exact ⟨z, its, n, r, k _ _ (.inl rfl) e⟩
  | tup xs => obtain ⟨z, its, r, ob, e, c⟩ := x; exact ⟨z, its, r, ob, k _ _ (.inl rfl) e, c⟩
  | dK kvs => obtain ⟨z, y, vs, r, ob, es, ep, e, c⟩ := x; exact ⟨z, y, vs, r, ob, es, ep, k _ _ (.inl rfl) e, c⟩
  | dT kvs =>
    obtain ⟨z, y, xs, r, ob, es, ep, e, c⟩ := x
    exact ⟨z, y, xs, Paired.mapP r fun p q z => ⟨z.1, ht _ _ z.2.1, z.2.2⟩, ob, es, ep, k _ _ (.inl rfl) e, c⟩
  | set S n => obtain ⟨ob, es, ep, t, e, c⟩ := x; exact ⟨ob, es, ep, t, k _ _ (.inl rfl) e, c⟩
  | ins C dx fs =>
    obtain ⟨d, z, ne, e, mA, ⟨od, es, ep, e2, c⟩, r⟩ := x
    exact ⟨ho _ d, z, ne, k _ _ (.inl rfl) e, mA, ⟨od, es, ep, k _ _ (.inr d) e2, c⟩, r⟩
  | own y => obtain ⟨ob, e⟩ := x; exact ⟨ob, k _ _ (.inl rfl) e⟩
  | xd fs => obtain ⟨mA, ⟨od, es, ep, e, c⟩, r⟩ := x; exact ⟨mA, ⟨od, es, ep, k _ _ (.inl rfl) e, c⟩, r⟩
  | rng lo hi => obtain ⟨t, u, v, e⟩ := x; exact ⟨t, u, v, k _ _ (.inl rfl) e⟩
  | frz ob u ih => obtain ⟨e, q⟩ := x; exact ⟨k _ _ (.inl rfl) e, ih q⟩
  | tbl ps =>
    have e : h.get? a = some { cls := .none, data := .fields ps } := x
    show h'.get? a = some { cls := .none, data := .fields ps }
    exact k a _ (.inl rfl) e
  | met f y =>
    have e : h.get? a = some (PySem.W.methodObj (.ref f) (.ref y)) := x
    show h'.get? a = some (PySem.W.methodObj (.ref f) (.ref y))
    exact k a _ (.inl rfl) e
  | ext φ => obtain ⟨p, ⟨o, e⟩, st⟩ := x; exact ⟨st _ _ p fun o q => k _ _ (.inl rfl) q, ⟨o, k _ _ (.inl rfl) e⟩, st⟩
theorem HOk.lt (x : HOk P w H h) (e : H a = some o) : a < h.objs.size := (x a o e).lt
theorem HOk.fresh (x : HOk P w H h) (e : h.objs.size ≤ a) : H a = none := by
  cases q : H a with
  | none => rfl
  | some u => exact absurd (Nat.lt_of_lt_of_le (x.lt q) e) (Nat.lt_irrefl _)
/-- every object of the heap is kept -/
theorem HOk.kept (x : HOk P w H h) (k : ∀ b u, h.get? b = some u → h'.get? b = some u) : HOk P w H h' := fun a o e =>
  (x a o e).stay (fun b u _ q => k b u q) (fun _ q => q) fun _ _ q => q
/-- a new object is laid and tracked -/
theorem HOk.laid (x : HOk P w H h) (k : ∀ b u, h.get? b = some u → h'.get? b = some u) (hp : h.objs.size ≤ a) (new : ObjOk P w (upd H a o) h' a o) : HOk P w (upd H a o) h' := fun b u e => by
  have hn := x.fresh hp
  by_cases hb : b = a
  · subst hb; rw [upd_same] at e; cases e; exact new
  · rw [upd_ne hb] at e
    exact (x b u e).stay (fun c v _ q => k c v q) (fun c q => by rw [upd_ne (ne_of_none q hn)]; exact q) fun c xs q => by rw [upd_ne (ne_of_none q hn)]; exact q
end

/-- what may be read as u: it is u, or a known u -/
def Rd (H : Hp) (a : Addr) (u : HO) : Prop := H a = some u ∨ ∃ o, H a = some (.frz o u)
theorem Rd.ok {P : Program} {w : World} {H : Hp} {h : Heap} {a : Addr} {u : HO} (r : Rd H a u) (x : HOk P w H h) : ObjOk P w H h a u := by
  rcases r with r | ⟨o, r⟩
  · exact x a u r
  · obtain ⟨_, q⟩ := x a _ r
    exact q
/-- what may be written -/
def Mut : Option HO → Prop
  | some (.lst _) => True
  | some (.dK _) => True
  | some (.dT _) => True
  | some (.set _ _) => True
  | some (.ins _ _ _) => True
  | some (.ext _) => True
  | _ => False
section
variable {P : Program} {w : World} {H : Hp} {h h' : Heap} {x e : Addr} {o' : HO}
/-- the object at e is changed: x itself, or the dict of the instance x -/
theorem HOk.write (ok : HOk P w H h) (mu : Mut (H x)) (he : e = x ∨ H e = some (.own x)) (k : ∀ b u, b ≠ e → h.get? b = some u → h'.get? b = some u) (heo : ∃ u, h'.get? e = some u)
    (new : ObjOk P w (upd H x o') h' x o') : HOk P w (upd H x o') h' := fun b u q => by
  have nown : ∀ c y, H c = some (.own y) → c ≠ x := fun c y r z => by subst z; rw [r] at mu; exact mu
  have ntup : ∀ c xs, H c = some (.tup xs) → c ≠ x := fun c xs r z => by subst z; rw [r] at mu; exact mu
  by_cases hb : b = x
  · subst hb; rw [upd_same] at q; cases q; exact new
  · rw [upd_ne hb] at q
    by_cases hbe : b = e
    · have q' : H b = some (.own x) := by
        rcases he with z | z
        · exact absurd (hbe.trans z) hb
        · rw [hbe]; exact z
      rw [q] at q'; cases q'
      obtain ⟨v, hv⟩ := heo
      exact ⟨v, by rw [hbe]; exact hv⟩
    · refine (ok b u q).stay (fun c v hc r => k c v ?_ r) (fun c r => by rw [upd_ne (nown c b r)]; exact r) fun c xs r => by rw [upd_ne (ntup c xs r)]; exact r
      rcases hc with rfl | hc
      · exact hbe
      · rintro rfl
        rcases he with z | z
        · exact nown c b hc z
        · rw [hc] at z; cases z; exact hb rfl
end

/-! ### kept unless tracked; of the frames at fs (the callers') the slots may change (an exception that passes writes there); of the records at ex (iterators) nothing is said -/
structure Un (fs ex : List Addr) (H H' : Hp) (h h' : Heap) : Prop where
  keep : ∀ b o, h.get? b = some o → H b = none → b ∉ fs → b ∉ ex → h'.get? b = some o
  slot : ∀ b o, h.get? b = some o → H b = none → b ∈ fs → b ∉ ex → ∃ sl, h'.get? b = some { o with slots := sl }
  free : ∀ b o, h.get? b = some o → H b = none → b ∉ ex → H' b = none
  there : ∀ b o, h.get? b = some o → b ∉ ex → ∃ o', h'.get? b = some o'
  tups : ∀ b xs, H b = some (.tup xs) → H' b = some (.tup xs)
  frzs : ∀ b o u, H b = some (.frz o u) → H' b = some (.frz o u)
  tbls : ∀ b ps, H b = some (.tbl ps) → ∃ more, H' b = some (.tbl (ps ++ more))
section
variable {fs fs' ex ex' : List Addr} {H H1 H2 : Hp} {h h1 h2 h' : Heap} {a x e : Addr} {o : HO}
theorem Un.any (u : Un fs ex H H1 h h1) {b : Addr} {ob : Obj} (q : h.get? b = some ob) (n : H b = none) (hx : b ∉ ex) : ∃ sl, h1.get? b = some { ob with slots := sl } := by
  by_cases hb : b ∈ fs
  · exact u.slot b ob q n hb hx
  · exact ⟨ob.slots, u.keep b ob q n hb hx⟩
theorem Un.kept (k : ∀ b u, h.get? b = some u → h'.get? b = some u) : Un fs ex H H h h' :=
  ⟨fun b ob q _ _ _ => k b ob q, fun b ob q _ _ _ => ⟨ob.slots, k b ob q⟩, fun _ _ _ n _ => n, fun b ob q _ => ⟨ob, k b ob q⟩, fun _ _ q => q, fun _ _ _ q => q, fun _ ps q => ⟨#[], by rw [q]; simp⟩⟩
theorem Un.refl : Un fs ex H H h h := Un.kept fun _ _ q => q
theorem Un.laid (k : ∀ b u, h.get? b = some u → h'.get? b = some u) (hp : h.objs.size ≤ a) (hn : H a = none) : Un fs ex H (upd H a o) h h' where
  keep := fun b u q _ _ _ => k b u q
  slot := fun b u q _ _ _ => ⟨u.slots, k b u q⟩
  free := fun b u q n _ => by rw [upd_ne (Nat.ne_of_lt (Nat.lt_of_lt_of_le (Heap.lt_size q) hp))]; exact n
  there := fun b u q _ => ⟨u, k b u q⟩
  tups := fun b xs q => by rw [upd_ne (ne_of_none q hn)]; exact q
  frzs := fun b u xs q => by rw [upd_ne (ne_of_none q hn)]; exact q
  tbls := fun b ps q => ⟨#[], by rw [upd_ne (ne_of_none q hn), q]; simp⟩
theorem Un.write (mu : Mut (H x)) (he : e = x ∨ H e = some (.own x)) (k : ∀ b u, b ≠ e → h.get? b = some u → h'.get? b = some u) (heo : ∃ u, h'.get? e = some u) : Un fs ex H (upd H x o) h h' := by
  have hx : ∀ b, H b = none → b ≠ x := fun b n z => by subst z; rw [n] at mu; exact mu
  have hb : ∀ b, H b = none → b ≠ e := fun b n z => by
    subst z
    rcases he with r | r
    · exact hx b n r
    · rw [n] at r; cases r
  have hm : ∀ b u, H b = some u → ¬ Mut (some u) → b ≠ x := fun b u q nm z => by subst z; rw [q] at mu; exact nm mu
  refine ⟨fun b u q n _ _ => k b u (hb b n) q, fun b u q n _ _ => ⟨u.slots, k b u (hb b n) q⟩, fun b u q n _ => by rw [upd_ne (hx b n)]; exact n, fun b u q _ => ?_,
    fun b xs q => by rw [upd_ne (hm b _ q fun z => z)]; exact q, fun b u xs q => by rw [upd_ne (hm b _ q fun z => z)]; exact q, fun b ps q => ⟨#[], by rw [upd_ne (hm b _ q fun z => z), q]; simp⟩⟩
  by_cases hbe : b = e
  · subst hbe; exact heo
  · exact ⟨u, k b u hbe q⟩
end

/-! ### the heap without what is tracked -/
def trk (h : Heap) (H : Hp) : List Addr := (List.range h.objs.size).filter fun a => (H a).isSome
def hidT (h : Heap) (H : Hp) : Heap := PySem.W.hideAll h (trk h H)
theorem hidT_size (h : Heap) (H : Hp) : (hidT h H).objs.size = h.objs.size := PySem.W.hideAll_size _ _
theorem hidT_get {h : Heap} {H : Hp} {b : Addr} {o : Obj} (e : h.get? b = some o) (n : H b = none) : (hidT h H).get? b = some o :=
  PySem.W.hideAll_get _ e fun hm => by
    have q : (H b).isSome = true := (List.mem_filter.mp hm).2
    rw [n] at q; simp at q
theorem of_hidT {h : Heap} {H : Hp} {b : Addr} {o : Obj} (e : (hidT h H).get? b = some o) : h.get? b = some o ∧ H b = none := by
  have e' : h.get? b = some o := PySem.W.of_hideAll (trk h H) e
  refine ⟨e', ?_⟩
  cases q : H b with
  | none => rfl
  | some x =>
    have hm : b ∈ trk h H := List.mem_filter.mpr ⟨List.mem_range.mpr (Heap.lt_size e'), by simp [q]⟩
    have z : (hidT h H).get? b = none := PySem.W.hideAll_none (trk h H) hm
    rw [z] at e; cases e

/-! ### OpenK's ledger, filled with every new object but one -/
def allNews (g h : Heap) (L : Addr) : List (Addr × Obj) := (List.range h.objs.size).filterMap fun a => if a = L ∨ (g.get? a).isSome = true then none else (h.get? a).map fun o => (a, o)
def rest (g h : Heap) (L d : Addr) : List (Addr × Obj) := (allNews g h L).filter fun p => decide (p.1 ≠ d)
end L2

namespace L2
open PySem PySem.Spec PyProof.Rows

/-- the module's facts, over the base: the heap at the law's entry without what is tracked there -/
structure Mod (K : PySem.W.Frag) (mg : Str → Option Value) (base : Heap) : Prop where
  kin : K.In base
  glob : base.Ns mainGlobals mg
  blt : ∃ mb, base.Ns builtinsNs mb ∧ ∀ x : Str, x ≠ "__name__" → mb x = bootBuiltins x
  nolimit : base.NoLimit

/-- the context: a def's body (or a comprehension's block) running. base: fixed through the whole law; s₀, H₀: the entry; outer: the frames whose slots others may change (a def's callers); stack: all frames that run;
   ex: iterators that were made ahead of the entry and are walked here (a comprehension's); fn: the names whose cells were made at the entry (a def: all; a comprehension's block: its own); calm: not within an except suite; pn: pins that every state bears; xe: what is wanted of an exception that leaves the code -/
structure Cx where
  prog : Program
  w : World
  K : PySem.W.Frag
  mg : Str → Option Value
  base : Heap
  A : Around
  N : List Str
  s₀ : Shared
  H₀ : Hp
  env : Env
  outer : List Env
  stack : List Env
  ex : List Addr
  fn : Str → Bool
  calm : Bool
  pn : List (Addr × Obj)
  xe : Value → Shared → Prop
/-- the callers' frames -/
def frs (l : List Env) : List Addr := l.filterMap (·.frame)
abbrev Cx.fs (X : Cx) : List Addr := frs X.outer

def Vis (sc : Scope) (x : Str) : Prop := sc.names.lookup x = some .local ∨ sc.names.lookup x = some .cell ∨ sc.names.lookup x = some .free
def Loc (sc : Scope) (x : Str) : Prop := sc.names.lookup x = some .local ∨ sc.names.lookup x = some .cell
def Look (env : Env) (h : Heap) (m : Str → Option Value) (x : Str) (u : Value) : Prop :=
  (env.kindOf x = some .local ∧ m x = some u) ∨ ((env.kindOf x = some .cell ∨ env.kindOf x = some .free) ∧ ∃ c, env.cells.lookup x = some c ∧ h.IsCell c (some u))

structure Cx.Ok (X : Cx) : Prop where
  mod : Mod X.K X.mg X.base
  kind : X.env.scope.kind = .function
  glob : X.env.globals = mainGlobals
  blt : X.env.builtins = builtinsNs
  above : X.s₀.heap.objs.size ≤ X.env.locals
  inj : ∀ x y c, X.env.cells.lookup x = some c → X.env.cells.lookup y = some c → x = y
  has : ∀ x, (X.env.kindOf x = some .cell ∨ X.env.kindOf x = some .free) → ∃ c, X.env.cells.lookup x = some c
  cab : ∀ x c, X.fn x = true → X.env.cells.lookup x = some c → X.s₀.heap.objs.size ≤ c
  hd : X.calm = true → X.A.handled = none
  frames : X.A.frames = some X.stack
  stk : X.stack = X.outer ∨ (X.stack = X.env :: X.outer ∧ X.env.frame = some X.env.locals)
  exf : ∀ b ∈ X.ex, b ≠ X.env.locals ∧ ∀ x c, X.env.cells.lookup x = some c → c ≠ b
  bs : ∀ b o, X.base.get? b = some o → X.s₀.heap.get? b = some o ∧ X.H₀ b = none
  bsz : X.base.objs.size ≤ X.s₀.heap.objs.size
  noex : ∀ b o, X.base.get? b = some o → b ∉ X.ex
  exfs : ∀ b ∈ X.ex, b ∉ X.fs
  funs : X.s₀.heap.FunFrames X.base X.outer
  frf : ∀ b ∈ X.fs, X.H₀ b = none

structure Inv (X : Cx) (pins : List (Addr × Obj)) (σ : List (Option V)) (H : Hp) (s : Shared) : Prop where
  ok : X.Ok
  os : s.os = X.s₀.os
  bare : AllBare s.gens
  base : Un X.fs X.ex X.H₀ H X.s₀.heap s.heap
  loc : ∃ m, s.heap.Ns X.env.locals m ∧ ∀ (i : Nat) (x : Str) (v : V), X.N[i]? = some x → σ[i]? = some (some v) → Vis X.env.scope x → ∃ u, RelV v u ∧ Look X.env s.heap m x u
  cell : ∀ x c, X.env.cells.lookup x = some c → ∃ v, s.heap.IsCell c v
  free : H X.env.locals = none
  freeC : ∀ x c, X.env.cells.lookup x = some c → H c = none
  pin : ∀ p ∈ X.pn ++ pins, s.heap.get? p.1 = some p.2 ∧ H p.1 = none ∧ p.1 ≠ X.env.locals ∧ p.1 ∉ X.fs ∧ ∀ v, p.2.data ≠ .cell v
  hok : HOk X.prog X.w H s.heap
  len : σ.length = X.N.length

section
variable {X : Cx} {pins : List (Addr × Obj)} {σ : List (Option V)} {H H' : Hp} {s : Shared} {h' : Heap}

theorem Cx.Ok.nofr (ok : X.Ok) {b : Addr} {o : Obj} (e : X.base.get? b = some o) : b ∉ X.fs := fun hb => by
  have := (ok.funs.mem hb).1
  rw [e] at this; cases this
theorem Inv.bs (I : Inv X pins σ H s) : ∀ b o, X.base.get? b = some o → s.heap.get? b = some o ∧ H b = none := fun b o e =>
  ⟨I.base.keep b o (I.ok.bs b o e).1 (I.ok.bs b o e).2 (I.ok.nofr e) (I.ok.noex b o e), I.base.free b o (I.ok.bs b o e).1 (I.ok.bs b o e).2 (I.ok.noex b o e)⟩
theorem Inv.bk (I : Inv X pins σ H s) : ∀ b o, X.base.get? b = some o → s.heap.get? b = some o := fun b o e => (I.bs b o e).1
theorem Inv.mod (I : Inv X pins σ H s) : Mod X.K X.mg X.base := I.ok.mod
theorem Inv.kIn (I : Inv X pins σ H s) : X.K.In s.heap := I.ok.mod.kin.keeps I.bk
theorem Inv.lt (I : Inv X pins σ H s) : X.env.locals < s.heap.objs.size := let ⟨_, hn, _⟩ := I.loc; hn.lt
theorem Inv.sz (I : Inv X pins σ H s) : X.s₀.heap.objs.size ≤ s.heap.objs.size := Nat.le_trans I.ok.above (Nat.le_of_lt I.lt)
theorem Inv.nofs (I : Inv X pins σ H s) {a : Addr} (h : s.heap.objs.size ≤ a) : a ∉ X.fs := fun hb => by
  obtain ⟨_, o, ho, _⟩ := I.ok.funs.mem hb
  exact absurd (Nat.lt_of_lt_of_le (Heap.lt_size ho) (Nat.le_trans I.sz h)) (Nat.lt_irrefl _)
theorem Inv.cne (I : Inv X pins σ H s) : ∀ x c, X.env.cells.lookup x = some c → c ≠ X.env.locals := fun x c e z => by
  obtain ⟨v, o, ho, hd⟩ := I.cell x c e
  obtain ⟨m, ⟨o', es, ep, ho', hd', _⟩, _⟩ := I.loc
  rw [z, ho'] at ho; cases ho; rw [hd'] at hd; cases hd
theorem Inv.funs (I : Inv X pins σ H s) : s.heap.FunFrames X.base X.outer := by
  have all : ∀ (l : List Env), (∀ b ∈ frs l, b ∈ X.fs) → X.s₀.heap.FunFrames X.base l → s.heap.FunFrames X.base l := by
    intro l
    induction l with
    | nil => intro _ _; trivial
    | cons env r ih =>
      intro hs hl
      obtain ⟨hk, ⟨L, o, hf, hn, ho, hd⟩, hr⟩ := hl
      have hL : L ∈ X.fs := hs L (by unfold frs; rw [List.filterMap_cons, hf]; exact List.mem_cons_self)
      obtain ⟨sl, e⟩ := I.base.slot L o ho (I.ok.frf L hL) hL fun z => I.ok.exfs L z hL
      exact ⟨hk, ⟨L, _, hf, hn, e, hd⟩, ih (fun b hb => hs b (by unfold frs; rw [List.filterMap_cons, hf]; exact List.mem_cons_of_mem _ hb)) hr⟩
  exact all X.outer (fun _ hb => hb) I.ok.funs

/-- the frames that run, for a call -/
theorem Inv.stack (I : Inv X pins σ H s) : s.heap.FunFrames X.base X.stack := by
  rcases I.ok.stk with e | ⟨e, hf⟩
  · rw [e]; exact I.funs
  · rw [e]
    obtain ⟨m, hn, _⟩ := I.loc
    refine .cons (by rw [I.ok.kind]; decide) hf hn ?_ I.funs
    exact Heap.get?_none_of_le (Nat.le_trans I.ok.bsz I.ok.above)
theorem Inv.stkSub (I : Inv X pins σ H s) : ∀ b ∈ frs X.stack, b ∈ X.env.locals :: X.fs := fun b hb => by
  rcases I.ok.stk with e | ⟨e, hf⟩
  · rw [e] at hb; exact List.mem_cons_of_mem _ hb
  · rw [e] at hb
    unfold frs at hb
    rw [List.filterMap_cons, hf] at hb
    exact hb
theorem Inv.stkFree (I : Inv X pins σ H s) : ∀ b ∈ frs X.stack, H b = none := fun b hb => by
  rcases List.mem_cons.mp (I.stkSub b hb) with e | hb
  · rw [e]; exact I.free
  · obtain ⟨_, o, ho, _⟩ := I.ok.funs.mem hb
    exact I.base.free b o ho (I.ok.frf b hb) fun z => I.ok.exfs b z hb

/-- THE STEP: the untracked objects but the frame and the records at ch are kept (the callers' frames up to slots), the frame's map is kept, the new abstract heap is held -/
theorem Inv.step {g' : Array GenState} {t' : Nat} {d' : Drawn} {ch : List Addr} (I : Inv X pins σ H s)
    (hch : ∀ b ∈ ch, (b ∈ X.ex ∨ X.s₀.heap.objs.size ≤ b) ∧ b ≠ X.env.locals ∧ (∀ x c, X.env.cells.lookup x = some c → c ≠ b) ∧ ∀ p ∈ X.pn ++ pins, p.1 ≠ b)
    (keep : ∀ b o, b ≠ X.env.locals → b ∉ X.fs → b ∉ ch → s.heap.get? b = some o → H b = none → h'.get? b = some o)
    (slot : ∀ b o, b ≠ X.env.locals → b ∈ X.fs → b ∉ ch → s.heap.get? b = some o → H b = none → ∃ sl, h'.get? b = some { o with slots := sl }) (free : ∀ b o, b ∉ ch → s.heap.get? b = some o → H b = none → H' b = none)
    (there : ∀ b o, b ∉ ch → s.heap.get? b = some o → ∃ o', h'.get? b = some o')
    (tups : ∀ b xs, H b = some (.tup xs) → H' b = some (.tup xs)) (frzs : ∀ b o u, H b = some (.frz o u) → H' b = some (.frz o u)) (tbls : ∀ b ps, H b = some (.tbl ps) → ∃ more, H' b = some (.tbl (ps ++ more)))
    (ns : ∀ m, s.heap.Ns X.env.locals m → h'.Ns X.env.locals m) (hok : HOk X.prog X.w H' h') (hg : AllBare g') :
    Inv X pins σ H' { s with heap := h', gens := g', drawn := d', toks := t' } := by
  have neL : ∀ b o, X.s₀.heap.get? b = some o → b ≠ X.env.locals := fun b o e => Nat.ne_of_lt (Nat.lt_of_lt_of_le (Heap.lt_size e) I.ok.above)
  have neC : ∀ b o, X.s₀.heap.get? b = some o → b ∉ X.ex → b ∉ ch := fun b o e hx hb => by
    rcases (hch b hb).1 with z | z
    · exact hx z
    · exact absurd (Nat.lt_of_lt_of_le (Heap.lt_size e) z) (Nat.lt_irrefl _)
  have cellK : ∀ x c, X.env.cells.lookup x = some c → ∀ v, s.heap.IsCell c v → h'.IsCell c v := fun x c e v ⟨o, ho, hd⟩ => by
    have nch : c ∉ ch := fun z => (hch c z).2.2.1 x c e rfl
    by_cases hc : c ∈ X.fs
    · obtain ⟨sl, q⟩ := slot c o (I.cne x c e) hc nch ho (I.freeC x c e)
      exact ⟨_, q, hd⟩
    · exact ⟨o, keep c o (I.cne x c e) hc nch ho (I.freeC x c e), hd⟩
  refine ⟨I.ok, I.os, hg, ⟨fun b o e n hb hx => ?_, fun b o e n hb hx => ?_, fun b o e n hx => ?_, fun b o e hx => ?_, fun b xs e => tups b xs (I.base.tups b xs e), fun b o xs e => frzs b o xs (I.base.frzs b o xs e), fun b ps e => ?_⟩, ?_, fun x c e => ?_, ?_, fun x c e => ?_, fun p hp => ?_, hok, I.len⟩
  · exact keep b o (neL b o e) hb (neC b o e hx) (I.base.keep b o e n hb hx) (I.base.free b o e n hx)
  · obtain ⟨sl, e1⟩ := I.base.slot b o e n hb hx
    obtain ⟨sl', e2⟩ := slot b _ (neL b o e) hb (neC b o e hx) e1 (I.base.free b o e n hx)
    exact ⟨sl', e2⟩
  · obtain ⟨o', e1⟩ := I.base.there b o e hx
    exact free b o' (neC b o e hx) e1 (I.base.free b o e n hx)
  · obtain ⟨o', e1⟩ := I.base.there b o e hx
    exact there b o' (neC b o e hx) e1
  · obtain ⟨m1, e1⟩ := I.base.tbls b ps e
    obtain ⟨m2, e2⟩ := tbls b _ e1
    exact ⟨m1 ++ m2, by rw [e2, Array.append_assoc]⟩
  · obtain ⟨m, hn, hl⟩ := I.loc
    refine ⟨m, ns m hn, fun i x v e1 e2 e3 => ?_⟩
    obtain ⟨u, r, l⟩ := hl i x v e1 e2 e3
    refine ⟨u, r, ?_⟩
    rcases l with l | ⟨k, c, e, z⟩
    · exact .inl l
    · exact .inr ⟨k, c, e, cellK x c e _ z⟩
  · obtain ⟨v, z⟩ := I.cell x c e
    exact ⟨v, cellK x c e v z⟩
  · obtain ⟨m, ⟨o, _, _, ho, _⟩, _⟩ := I.loc
    exact free _ o (fun z => (hch _ z).2.1 rfl) ho I.free
  · obtain ⟨v, o, ho, hd⟩ := I.cell x c e
    exact free c o (fun z => (hch c z).2.2.1 x c e rfl) ho (I.freeC x c e)
  · obtain ⟨e, n, ne, nf, d⟩ := I.pin p hp
    have nch : p.1 ∉ ch := fun z => (hch p.1 z).2.2.2 p hp rfl
    exact ⟨keep p.1 p.2 ne nf nch e n, free p.1 p.2 nch e n, ne, nf, d⟩
/-- .. where the frame's own object is kept too -/
theorem Inv.un {t' : Nat} (I : Inv X pins σ H s) (u : Un X.fs [] H H' s.heap h') (hok : HOk X.prog X.w H' h') : Inv X pins σ H' { s with heap := h', toks := t' } := by
  obtain ⟨m, ⟨o, es, ep, ho, r⟩, _⟩ := id I.loc
  obtain ⟨sl, hL⟩ := u.any ho I.free (by simp)
  exact I.step (g' := s.gens) (d' := s.drawn) (ch := []) (fun _ z => nomatch z) (fun b o _ hb _ e n => u.keep b o e n hb (by simp)) (fun b o _ hb _ e n => u.slot b o e n hb (by simp)) (fun b o _ e n => u.free b o e n (by simp)) (fun b o _ e => u.there b o e (by simp)) u.tups u.frzs u.tbls (fun m' hm => by
    obtain ⟨o', es', ep', ho', r'⟩ := hm
    rw [ho] at ho'; cases ho'
    exact ⟨_, es', ep', hL, r'⟩) hok I.bare
/-- behind a call (or a comprehension's block): the slots of this frame may have changed too, the records at ch may have turned -/
theorem Inv.call {g' : Array GenState} {t' : Nat} {d' : Drawn} {ch : List Addr} (I : Inv X pins σ H s) (u : Un (frs X.stack) ch H H' s.heap h') (hok : HOk X.prog X.w H' h') (hg : AllBare g')
    (hch : ∀ b ∈ ch, (b ∈ X.ex ∨ X.s₀.heap.objs.size ≤ b) ∧ b ≠ X.env.locals ∧ (∀ x c, X.env.cells.lookup x = some c → c ≠ b) ∧ ∀ p ∈ X.pn ++ pins, p.1 ≠ b) :
    Inv X pins σ H' { s with heap := h', gens := g', drawn := d', toks := t' } := by
  obtain ⟨m, ⟨o, es, ep, ho, r⟩, _⟩ := id I.loc
  obtain ⟨sl, hL⟩ := u.any ho I.free fun z => (hch _ z).2.1 rfl
  exact I.step (ch := ch) hch (fun b o hL hb hc e n => u.keep b o e n (fun z => (List.mem_cons.mp (I.stkSub b z)).elim hL hb) hc) (fun b o _ _ hc e n => u.any e n hc) (fun b o hc e n => u.free b o e n hc) (fun b o hc e => u.there b o e hc) u.tups u.frzs u.tbls (fun m' hm => by
    obtain ⟨o', es', ep', ho', r'⟩ := hm
    rw [ho] at ho'; cases ho'
    exact ⟨_, es', ep', hL, r'⟩) hok hg
/-- an untracked record of ours (an iterator) has turned -/
theorem Inv.turned {t' : Nat} {it : Addr} (I : Inv X pins σ H s) (k : ∀ b o, b ≠ it → s.heap.get? b = some o → h'.get? b = some o) (hn : H it = none) (hL : it ≠ X.env.locals)
    (h1 : it ∈ X.ex ∨ X.s₀.heap.objs.size ≤ it) (h2 : ∀ x c, X.env.cells.lookup x = some c → c ≠ it) (h3 : ∀ p ∈ X.pn ++ pins, p.1 ≠ it) : Inv X pins σ H { s with heap := h', toks := t' } := by
  have nit : ∀ b u, H b = some u → b ≠ it := fun b u e z => by rw [z, hn] at e; cases e
  refine I.step (g' := s.gens) (d' := s.drawn) (ch := [it]) (fun b hb => ?_) (fun b o _ _ hc e _ => k b o (fun z => hc (by simp [z])) e) (fun b o _ _ hc e _ => ⟨o.slots, k b o (fun z => hc (by simp [z])) e⟩) (fun _ _ _ _ n => n)
    (fun b o hc e => ⟨o, k b o (fun z => hc (by simp [z])) e⟩) (fun _ _ e => e) (fun _ _ _ e => e) (fun b ps e => ⟨#[], by rw [e]; simp⟩) (fun m hm => ?_) (fun b u e => ?_) I.bare
  · have e : b = it := by simpa using hb
    subst e
    exact ⟨h1, hL, h2, h3⟩
  · obtain ⟨o, es, ep, ho, r⟩ := hm
    exact ⟨o, es, ep, k _ o (Ne.symm hL) ho, r⟩
  · refine (I.hok b u e).stay (fun c v hc q => k c v ?_ q) (fun _ q => q) fun _ _ q => q
    rcases hc with z | z
    · rw [z]; exact nit b u e
    · exact nit c _ z
theorem Inv.tok (I : Inv X pins σ H s) (t : Nat) : Inv X pins σ H { s with toks := t } := I.un (h' := s.heap) (t' := t) Un.refl I.hok
/-- all objects kept -/
theorem Inv.kept {t' : Nat} (I : Inv X pins σ H s) (k : ∀ b u, s.heap.get? b = some u → h'.get? b = some u) : Inv X pins σ H { s with heap := h', toks := t' } := I.un (Un.kept k) (I.hok.kept k)
/-- a new object laid and tracked -/
theorem Inv.laid {a : Addr} {o : HO} {t' : Nat} (I : Inv X pins σ H s) (k : ∀ b u, s.heap.get? b = some u → h'.get? b = some u) (hp : s.heap.objs.size ≤ a) (new : ObjOk X.prog X.w (upd H a o) h' a o) :
    Inv X pins σ (upd H a o) { s with heap := h', toks := t' } := I.un (Un.laid k hp (I.hok.fresh hp)) (I.hok.laid k hp new)
/-- an object written -/
theorem Inv.write {x e : Addr} {o : HO} {t' : Nat} (I : Inv X pins σ H s) (mu : Mut (H x)) (he : e = x ∨ H e = some (.own x)) (k : ∀ b u, b ≠ e → s.heap.get? b = some u → h'.get? b = some u) (heo : ∃ u, h'.get? e = some u)
    (new : ObjOk X.prog X.w (upd H x o) h' x o) : Inv X pins σ (upd H x o) { s with heap := h', toks := t' } := I.un (Un.write mu he k heo) (I.hok.write mu he k heo new)
theorem Inv.pins_of {pins' : List (Addr × Obj)} (I : Inv X pins σ H s) (h : ∀ p ∈ pins', s.heap.get? p.1 = some p.2 ∧ H p.1 = none ∧ p.1 ≠ X.env.locals ∧ p.1 ∉ X.fs ∧ ∀ v, p.2.data ≠ .cell v) : Inv X pins' σ H s :=
  ⟨I.ok, I.os, I.bare, I.base, I.loc, I.cell, I.free, I.freeC, fun p hp => (List.mem_append.mp hp).elim (fun z => I.pin p (List.mem_append_left _ z)) (h p), I.hok, I.len⟩

theorem nodup_ix {N : List Str} (hN : N.Nodup) {i j : Nat} {x : Str} (a : N[i]? = some x) (b : N[j]? = some x) : i = j := by
  obtain ⟨h1, e1⟩ := List.getElem?_eq_some_iff.mp a
  obtain ⟨h2, e2⟩ := List.getElem?_eq_some_iff.mp b
  exact (List.getElem_inj hN).mp (e1.trans e2.symm)

/-- a name is stored; what changed -/
theorem store_ok2 {M : Model} {A : Around} {E : Value → Shared → Prop} {i : Nat} {x : Str} {v : V} {u : Value} {Q : Unit → Shared → Prop} (I : Inv X pins σ H s) (hN : X.N.Nodup) (hi : X.N[i]? = some x) (hx : Loc X.env.scope x) (r : RelV v u)
    (h : ∀ s', Inv X pins (σ.set i (some v)) H s' → (∃ a, Heap.SameBut a s.heap s'.heap ∧ (a = X.env.locals ∨ X.env.cells.lookup x = some a)) → Q () s') (hf : X.fn x = true ∨ X.env.scope.names.lookup x = some .local := by first | exact .inl rfl | exact .inr rfl | assumption) : wpAny M A (storeName X.env x u) Q E s := by
  obtain ⟨m, hn, hl⟩ := id I.loc
  have hcls : (X.env.scope.kind == .class || (X.env.scope.kind == .module && X.env.locals != X.env.globals)) = false := by rw [I.ok.kind]; rfl
  have hiσ : i < σ.length := by rw [I.len]; exact (List.getElem?_eq_some_iff.mp hi).1
  have cne := I.cne
  have tracked : ∀ {a : Addr} {h' : Heap}, (∃ o, s.heap.get? a = some o ∧ H a = none) → Heap.SameBut a s.heap h' → HOk X.prog X.w H h' := fun {a h'} ha hs b ob e => by
    obtain ⟨_, _, hfree⟩ := ha
    refine (I.hok b ob e).stay (fun c w' hc q => (hs.2 c ?_).trans q) (fun _ q => q) fun _ _ q => q
    rintro rfl
    rcases hc with rfl | hc
    · rw [hfree] at e; cases e
    · rw [hfree] at hc; cases hc
  rcases hx with hk | hk
  · refine wpAny_storeName_local hk hn (fun h' hn' hs => ?_) hcls
    obtain ⟨oL, _, _, hoL, _⟩ := id hn
    refine h _ ⟨I.ok, I.os, I.bare, ⟨fun b o e n hb hx => ?_, fun b o e n hb hx => ?_, I.base.free, fun b o e hx => ?_, I.base.tups, I.base.frzs, I.base.tbls⟩, ⟨_, hn', fun j y v' e1 e2 e3 => ?_⟩, fun y c e => ?_, I.free, I.freeC, fun p hp => ?_, tracked ⟨oL, hoL, I.free⟩ hs, by simpa using I.len⟩ ⟨_, hs, .inl rfl⟩
    · exact (hs.2 b (Nat.ne_of_lt (Nat.lt_of_lt_of_le (Heap.lt_size e) I.ok.above))).trans (I.base.keep b o e n hb hx)
    · obtain ⟨sl, e1⟩ := I.base.slot b o e n hb hx
      exact ⟨sl, (hs.2 b (Nat.ne_of_lt (Nat.lt_of_lt_of_le (Heap.lt_size e) I.ok.above))).trans e1⟩
    · obtain ⟨o', e1⟩ := I.base.there b o e hx
      exact ⟨o', (hs.2 b (Nat.ne_of_lt (Nat.lt_of_lt_of_le (Heap.lt_size e) I.ok.above))).trans e1⟩
    · by_cases hj : j = i
      · subst hj
        rw [hi] at e1; cases e1
        rw [List.getElem?_set_self hiσ] at e2
        cases e2
        exact ⟨u, r, .inl ⟨hk, by simp⟩⟩
      · rw [List.getElem?_set_ne (Ne.symm hj)] at e2
        obtain ⟨u', r', q⟩ := hl j y v' e1 e2 e3
        refine ⟨u', r', ?_⟩
        rcases q with ⟨k, e⟩ | ⟨k, c, e, z⟩
        · refine .inl ⟨k, ?_⟩
          have : y ≠ x := fun e => hj (nodup_ix hN e1 (e ▸ hi))
          simp [this, e]
        · exact .inr ⟨k, c, e, z.sameBut hs (cne y c e)⟩
    · obtain ⟨w', z⟩ := I.cell y c e
      exact ⟨w', z.sameBut hs (cne y c e)⟩
    · obtain ⟨e, n, ne, nf, d⟩ := I.pin p hp
      exact ⟨(hs.2 p.1 ne).trans e, n, ne, nf, d⟩
  · have hfn : X.fn x = true := by
      rcases hf with z | z
      · exact z
      · rw [z] at hk; cases hk
    obtain ⟨c, hc⟩ := I.ok.has x (.inl hk)
    obtain ⟨w', z⟩ := I.cell x c hc
    refine wpAny_storeName_cell I.ok.kind hk hc z (fun h' hc' hs => ?_)
    obtain ⟨oc, hoc, hocd⟩ := id z
    refine h { s with heap := h' } ⟨I.ok, I.os, I.bare, ⟨fun b o e n hb hx => ?_, fun b o e n hb hx => ?_, I.base.free, fun b o e hx => ?_, I.base.tups, I.base.frzs, I.base.tbls⟩, ⟨m, hn.sameBut hs (Ne.symm (cne x c hc)), fun j y v' e1 e2 e3 => ?_⟩, fun y c' e => ?_, I.free, I.freeC, fun p hp => ?_, tracked ⟨oc, hoc, I.freeC x c hc⟩ hs, by simpa using I.len⟩ ⟨c, hs, .inr hc⟩
    · exact (hs.2 b (Nat.ne_of_lt (Nat.lt_of_lt_of_le (Heap.lt_size e) (I.ok.cab x c hfn hc)))).trans (I.base.keep b o e n hb hx)
    · obtain ⟨sl, e1⟩ := I.base.slot b o e n hb hx
      exact ⟨sl, (hs.2 b (Nat.ne_of_lt (Nat.lt_of_lt_of_le (Heap.lt_size e) (I.ok.cab x c hfn hc)))).trans e1⟩
    · obtain ⟨o', e1⟩ := I.base.there b o e hx
      exact ⟨o', (hs.2 b (Nat.ne_of_lt (Nat.lt_of_lt_of_le (Heap.lt_size e) (I.ok.cab x c hfn hc)))).trans e1⟩
    · by_cases hj : j = i
      · subst hj
        rw [hi] at e1; cases e1
        rw [List.getElem?_set_self hiσ] at e2
        cases e2
        exact ⟨u, r, .inr ⟨.inl hk, c, hc, hc'⟩⟩
      · rw [List.getElem?_set_ne (Ne.symm hj)] at e2
        obtain ⟨u', r', q⟩ := hl j y v' e1 e2 e3
        refine ⟨u', r', ?_⟩
        rcases q with q | ⟨k, c', e, z'⟩
        · exact .inl q
        · refine .inr ⟨k, c', e, z'.sameBut hs ?_⟩
          rintro rfl
          exact hj (nodup_ix hN e1 (I.ok.inj _ _ _ e hc ▸ hi))
    · by_cases hcc : c' = c
      · subst hcc; exact ⟨_, hc'⟩
      · obtain ⟨w2, z2⟩ := I.cell y c' e
        exact ⟨w2, z2.sameBut hs hcc⟩
    · obtain ⟨e, n, ne, nf, d⟩ := I.pin p hp
      refine ⟨(hs.2 p.1 ?_).trans e, n, ne, nf, d⟩
      intro q
      rw [q, hoc] at e
      have q' : oc = p.2 := Option.some.inj e
      exact d w' (by rw [← q']; exact hocd)
theorem store_ok {M : Model} {A : Around} {E : Value → Shared → Prop} {i : Nat} {x : Str} {v : V} {u : Value} {Q : Unit → Shared → Prop} (I : Inv X pins σ H s) (hN : X.N.Nodup) (hi : X.N[i]? = some x) (hx : Loc X.env.scope x) (r : RelV v u)
    (h : ∀ s', Inv X pins (σ.set i (some v)) H s' → Q () s') (hf : X.fn x = true ∨ X.env.scope.names.lookup x = some .local := by first | exact .inl rfl | exact .inr rfl | assumption) : wpAny M A (storeName X.env x u) Q E s :=
  store_ok2 I hN hi hx r (fun s' I' _ => h s' I') hf
/-- behind a call or a block, the state as it is -/
theorem Inv.call' {s' : Shared} {ch : List Addr} (I : Inv X pins σ H s) (ho : s'.os = s.os) (u : Un (frs X.stack) ch H H' s.heap s'.heap) (hok : HOk X.prog X.w H' s'.heap) (hg : AllBare s'.gens)
    (hch : ∀ b ∈ ch, (b ∈ X.ex ∨ X.s₀.heap.objs.size ≤ b) ∧ b ≠ X.env.locals ∧ (∀ x c, X.env.cells.lookup x = some c → c ≠ b) ∧ ∀ p ∈ X.pn ++ pins, p.1 ≠ b) : Inv X pins σ H' s' := by
  obtain ⟨h', g', d', t', o'⟩ := s'
  have e : o' = s.os := ho
  subst e
  exact I.call (g' := g') (t' := t') (d' := d') u hok hg hch
end

/-! ### the judgements -/
/-- an exception: its class, its own dict's address (where it has one), the abstract heap behind it -/
abbrev XK := Value → Option Addr → Hp → Prop
abbrev St := List (Option V)
abbrev VK := V → Hp → Prop
/-- an expression's reading; a test's; an argument list's -/
abbrev TE := St → Hp → VK → Prop
abbrev TT := St → Hp → (Bool → Hp → Prop) → Prop
abbrev TA := St → Hp → (List V → Hp → Prop) → Prop
/-- what is wanted behind a statement -/
structure Ends where
  nx : St → Hp → Prop
  rt : VK
  bk : St → Hp → Prop := fun _ _ => False
  ct : St → Hp → Prop := fun _ _ => False
abbrev TS := Ends → St → Hp → Prop

def EP (X : Cx) (pins : List (Addr × Obj)) (σ : St) (Q : VK) (u : Value) (s' : Shared) : Prop := ∃ v H', Inv X pins σ H' s' ∧ RelV v u ∧ Q v H'
def TP (X : Cx) (pins : List (Addr × Obj)) (σ : St) (Q : Bool → Hp → Prop) (b : Bool) (s' : Shared) : Prop := ∃ H', Inv X pins σ H' s' ∧ Q b H'
def AP (X : Cx) (pins : List (Addr × Obj)) (σ : St) (Q : List V → Hp → Prop) (us : List Value) (s' : Shared) : Prop := ∃ vs H', Inv X pins σ H' s' ∧ Vals vs us ∧ Q vs H'
def SP (X : Cx) (pins : List (Addr × Obj)) (D : Ends) (f : Flow) (s' : Shared) : Prop :=
  match f with
  | .next => ∃ σ' H', Inv X pins σ' H' s' ∧ D.nx σ' H'
  | .brk => ∃ σ' H', Inv X pins σ' H' s' ∧ D.bk σ' H'
  | .cont => ∃ σ' H', Inv X pins σ' H' s' ∧ D.ct σ' H'
  | .ret u => ∃ v σ' H', Inv X pins σ' H' s' ∧ RelV v u ∧ D.rt v H'

def PE (X : Cx) (e : Expr) (t : TE) : Prop :=
  ∀ (pins : List (Addr × Obj)) (s : Shared) (σ : St) (H : Hp) (Q : VK), Inv X pins σ H s → t σ H Q → wpAny (model X.prog X.w) X.A (eval e X.env) (EP X pins σ Q) X.xe s
def PT (X : Cx) (e : Expr) (t : TT) : Prop :=
  ∀ (pins : List (Addr × Obj)) (s : Shared) (σ : St) (H : Hp) (Q : Bool → Hp → Prop), Inv X pins σ H s → t σ H Q → wpAny (model X.prog X.w) X.A (isTrue e X.env (eval e X.env)) (TP X pins σ Q) X.xe s
/-- a test whatever its 'whole' is (and, or) -/
def PW (X : Cx) (e : Expr) (t : TT) : Prop :=
  ∀ (whole : Sem Value) (pins : List (Addr × Obj)) (s : Shared) (σ : St) (H : Hp) (Q : Bool → Hp → Prop), Inv X pins σ H s → t σ H Q → wpAny (model X.prog X.w) X.A (isTrue e X.env whole) (TP X pins σ Q) X.xe s
theorem PW.pt {X : Cx} {e : Expr} {t : TT} (h : PW X e t) : PT X e t := h _
/-- an argument list (no star), from the left -/
def PA (X : Cx) (es : List Expr) (t : TA) : Prop :=
  ∀ (pos : Pos) (pins : List (Addr × Obj)) (s : Shared) (σ : St) (H : Hp) (Q : List V → Hp → Prop), Inv X pins σ H s → t σ H Q → wpAny (model X.prog X.w) X.A (spliced (backTo pos (starEach es X.env))) (AP X pins σ Q) X.xe s
def PS (X : Cx) (st : Stmt) (t : TS) : Prop :=
  ∀ (pins : List (Addr × Obj)) (s : Shared) (σ : St) (H : Hp) (D : Ends), Inv X pins σ H s → t D σ H → wpAny (model X.prog X.w) X.A (exec st X.env) (SP X pins D) X.xe s
def PSs (X : Cx) (st : List Stmt) (t : TS) : Prop :=
  ∀ (pins : List (Addr × Obj)) (s : Shared) (σ : St) (H : Hp) (D : Ends), Inv X pins σ H s → t D σ H → wpAny (model X.prog X.w) X.A (execs st X.env) (SP X pins D) X.xe s
/-- weaken the end -/
theorem thn {α : Type} {t : Sem α} {Q Q' : α → Shared → Prop} {M : Model} {A : Around} {E : Value → Shared → Prop} {s : Shared} (h : wpAny M A t Q E s) (hQ : ∀ a s, Q a s → Q' a s) : wpAny M A t Q' E s := wpAny_mono h hQ fun _ _ x => x
end L2

namespace L2
open PySem PySem.Spec PyProof.Rows
section
variable {X : Cx}

/-- two expressions in a row -/
theorem bin {a b : Expr} {ta tb : TE} (ha : PE X a ta) (hb : PE X b tb) {pins : List (Addr × Obj)} {s : Shared} {σ : St} {H : Hp} {R : V → V → Hp → Prop} (I : Inv X pins σ H s) (h : ta σ H fun x H1 => tb σ H1 fun y H2 => R x y H2)
    {α : Type} {Q : α → Shared → Prop} {f : Value → Value → Sem α}
    (hf : ∀ v u s2 x y H2, Inv X pins σ H2 s2 → RelV x v → RelV y u → R x y H2 → wpAny (model X.prog X.w) X.A (f v u) Q X.xe s2) :
    wpAny (model X.prog X.w) X.A (eval a X.env) (fun v s₁ => wpAny (model X.prog X.w) X.A (eval b X.env) (fun u s₂ => wpAny (model X.prog X.w) X.A (f v u) Q X.xe s₂) X.xe s₁) X.xe s := by
  refine thn (ha pins s σ H _ I h) fun v s1 ⟨x, H1, I1, r1, q1⟩ => ?_
  refine thn (hb pins s1 σ H1 _ I1 q1) fun u s2 ⟨y, H2, I2, r2, q2⟩ => ?_
  exact hf v u s2 x y H2 I2 r1 r2 q2

/-! ### names and constants -/
def tVar (i : Nat) : TE := fun σ H Q => ∃ v, σ[i]? = some (some v) ∧ Q v H
def tC (v : V) : TE := fun _ H Q => Q v H
theorem pe_var {i : Nat} {x : Str} {pos : Pos} (hN : X.N[i]? = some x) (hv : Vis X.env.scope x) (hd : (x == ("__debug__" : Str)) = false := by decide) (hcd : (x == ("__classdict__" : Str)) = false := by decide) : PE X (.Name x pos) (tVar i) := by
  intro pins s σ H Q I h
  obtain ⟨v, e, h⟩ := h
  obtain ⟨m, hn, hl⟩ := I.loc
  obtain ⟨u, r, l⟩ := hl i x v hN e hv
  have fin : EP X pins σ Q u s := ⟨v, H, I, r, h⟩
  rcases l with ⟨hk, hm⟩ | ⟨hk, c, hc, hcell⟩
  · exact wpAny_Name (wpAny_loadName_local I.ok.kind hk hn hm fin) hd
  · rcases hk with hk | hk
    · exact wpAny_Name (wpAny_loadName_cell I.ok.kind hk hc hcell fin) hd
    · exact wpAny_Name (wpAny_loadName_free I.ok.kind hk hc hcell fin hcd) hd
theorem pe_int {i j pos} : PE X (.Constant (.int i) j pos) (tC (.int i)) := fun _ _ _ H _ I h => wpAny_Constant_int ⟨.int i, H, I.tok _, ⟨_, rfl⟩, h⟩
theorem pe_bl {b j pos} : PE X (.Constant (.bool b) j pos) (tC (.bl b)) := fun _ _ _ H _ I h => Constant_bool ⟨.bl b, H, I, rfl, h⟩
theorem pe_non {j pos} : PE X (.Constant .none j pos) (tC .non) := fun _ _ _ H _ I h => Constant_none ⟨.non, H, I, rfl, h⟩
theorem pe_str {x j pos} : PE X (.Constant (.str x) j pos) (tC (.str x)) := fun _ _ _ H _ I h => Calls.Constant_str ⟨.str x, H, I.tok _, ⟨_, rfl⟩, h⟩

/-- a global name of the def -/
def Gl (X : Cx) (x : Str) : Prop := X.env.kindOf x = some .globalImplicit
theorem ld_glob {E : Value → Shared → Prop} {pins : List (Addr × Obj)} {s : Shared} {σ : St} {H : Hp} {x : Str} {u : Value} {pos : Pos} {Q : Value → Shared → Prop} (I : Inv X pins σ H s) (hg : Gl X x) (hm : X.mg x = some u) (h : Q u s)
    (hd : (x == ("__debug__" : Str)) = false := by decide) : wpAny (model X.prog X.w) X.A (eval (.Name x pos) X.env) Q E s :=
  Calls.Name_function_global I.ok.kind hg (Calls.loadGlobal_global (by rw [I.ok.glob]; exact I.mod.glob.keeps I.bk) hm h) hd
theorem ld_blt {E : Value → Shared → Prop} {pins : List (Addr × Obj)} {s : Shared} {σ : St} {H : Hp} {x : Str} {u : Value} {pos : Pos} {Q : Value → Shared → Prop} (I : Inv X pins σ H s) (hg : Gl X x) (hm : X.mg x = none) (hv : bootBuiltins x = some u) (h : Q u s)
    (hn : x ≠ "__name__" := by decide) (hd : (x == ("__debug__" : Str)) = false := by decide) : wpAny (model X.prog X.w) X.A (eval (.Name x pos) X.env) Q E s := by
  obtain ⟨mb, h1, h2⟩ := I.mod.blt
  exact Calls.Name_function_global I.ok.kind hg (Calls.loadGlobal_builtin (by rw [I.ok.glob]; exact I.mod.glob.keeps I.bk) hm (by rw [I.ok.blt]; exact h1.keeps I.bk) ((h2 x hn).trans hv) h) hd
/-- a module's constant, a class, a function, as a value -/
theorem pe_glob {x : Str} {v : V} {u : Value} {pos : Pos} (hg : Gl X x) (hm : X.mg x = some u) (r : RelV v u) (hd : (x == ("__debug__" : Str)) = false := by decide) : PE X (.Name x pos) (tC v) :=
  fun _ _ _ H _ I h => ld_glob I hg hm ⟨v, H, I, r, h⟩ hd
theorem pe_bltn {x : Str} {v : V} {u : Value} {pos : Pos} (hg : Gl X x) (hm : X.mg x = none) (hv : bootBuiltins x = some u) (r : RelV v u) (hn : x ≠ "__name__" := by decide) (hd : (x == ("__debug__" : Str)) = false := by decide) : PE X (.Name x pos) (tC v) :=
  fun _ _ _ H _ I h => ld_blt I hg hm hv ⟨v, H, I, r, h⟩ hn hd

/-! ### arithmetic -/
variable {a b : Expr} {ta tb : TE} {pos : Pos}
/-! ### comparisons -/
/-- a comparison as a value, as a test -/
def tB (t : TE) : TT := fun σ H Q => t σ H fun x H1 => ∃ c, x = .bl c ∧ Q c H1
/-- an expression whose value is a bool, as a test -/
theorem pt_val {e : Expr} {t : TE} (h : PE X e t) (he : ∀ whole, isTrue e X.env whole = (do let v ← whole; standAt e.pos; holding [v] (truthy v)) := by intro _; rfl) : PT X e (tB t) := by
  intro pins s σ H Q I hw
  refine isTrue_plain (thn (h pins s σ H _ I hw) fun v s1 ⟨x, H1, I1, r1, q1⟩ => ?_) (he _)
  obtain ⟨d, rfl, q⟩ := q1
  cases r1
  exact wpAny_truthy_bool ⟨H1, I1, q⟩

/-! ### and, or, not -/
variable {tA tB' : TT} {rest : List Expr}
def tAnd (t u : TT) : TT := fun σ H Q => t σ H fun c H1 => if c = true then u σ H1 Q else Q false H1
def tOr (t u : TT) : TT := fun σ H Q => t σ H fun c H1 => if c = true then Q true H1 else u σ H1 Q
def tNot (t : TT) : TT := fun σ H Q => t σ H fun c H1 => Q (!c) H1
theorem pw_and1 (ha : PT X a tA) : PW X (.BoolOp .And [a] pos) tA := by
  intro wh pins s σ H Q I h
  refine isTrue_and (thn (ha pins s σ H Q I h) fun c s1 e => ?_)
  cases c with
  | true => exact isTrue_and_nil e
  | false => exact e
theorem pw_or1 (ha : PT X a tA) : PW X (.BoolOp .Or [a] pos) tA := by
  intro wh pins s σ H Q I h
  refine isTrue_or (thn (ha pins s σ H Q I h) fun c s1 e => ?_)
  cases c with
  | false => exact isTrue_or_nil e
  | true => exact e
theorem pw_and (ha : PT X a tA) (hb : PW X (.BoolOp .And (b :: rest) pos) tB') : PW X (.BoolOp .And (a :: b :: rest) pos) (tAnd tA tB') := by
  intro wh pins s σ H Q I h
  refine isTrue_and (thn (ha pins s σ H _ I h) fun c s1 ⟨H1, I1, q1⟩ => ?_)
  cases c with
  | true => exact hb wh pins s1 σ H1 Q I1 q1
  | false => exact ⟨H1, I1, q1⟩
theorem pw_or (ha : PT X a tA) (hb : PW X (.BoolOp .Or (b :: rest) pos) tB') : PW X (.BoolOp .Or (a :: b :: rest) pos) (tOr tA tB') := by
  intro wh pins s σ H Q I h
  refine isTrue_or (thn (ha pins s σ H _ I h) fun c s1 ⟨H1, I1, q1⟩ => ?_)
  cases c with
  | true => exact ⟨H1, I1, q1⟩
  | false => exact hb wh pins s1 σ H1 Q I1 q1
theorem pt_not (ha : PT X a tA) : PT X (.UnaryOp .Not a pos) (tNot tA) := by
  intro pins s σ H Q I h
  exact isTrue_not (ha pins s σ H (fun c H1 => Q (!c) H1) I h)
/-- .. as values (bools) -/
def tAndV (ta tb : TE) : TE := fun σ H Q => ta σ H fun x H1 => ∃ c, x = .bl c ∧ if c = true then tb σ H1 Q else Q (.bl false) H1
def tOrV (ta tb : TE) : TE := fun σ H Q => ta σ H fun x H1 => ∃ c, x = .bl c ∧ if c = true then Q (.bl true) H1 else tb σ H1 Q
def tNotV (ta : TE) : TE := fun σ H Q => ta σ H fun x H1 => ∃ c, x = .bl c ∧ Q (.bl (!c)) H1
theorem pe_one {op} {t : TE} (h : PE X a t) : PE X (.BoolOp op [a] pos) t := fun pins s σ H Q I hw => BoolOp_one (h pins s σ H Q I hw)
theorem pe_and (ha : PE X a ta) (hb : PE X (.BoolOp .And (b :: rest) pos) tb) : PE X (.BoolOp .And (a :: b :: rest) pos) (tAndV ta tb) := by
  intro pins s σ H Q I h
  refine BoolOp_and (thn (ha pins s σ H _ I h) fun v s1 ⟨x, H1, I1, r1, q1⟩ => ?_)
  obtain ⟨c, rfl, q1⟩ := q1
  cases r1
  refine wpAny_truthy_bool ?_
  cases c with
  | true => exact hb pins s1 σ H1 Q I1 q1
  | false => exact ⟨.bl false, H1, I1, rfl, q1⟩
theorem pe_or (ha : PE X a ta) (hb : PE X (.BoolOp .Or (b :: rest) pos) tb) : PE X (.BoolOp .Or (a :: b :: rest) pos) (tOrV ta tb) := by
  intro pins s σ H Q I h
  refine BoolOp_or (thn (ha pins s σ H _ I h) fun v s1 ⟨x, H1, I1, r1, q1⟩ => ?_)
  obtain ⟨c, rfl, q1⟩ := q1
  cases r1
  refine wpAny_truthy_bool ?_
  cases c with
  | false => exact hb pins s1 σ H1 Q I1 q1
  | true => exact ⟨.bl true, H1, I1, rfl, q1⟩
theorem pe_not (ha : PE X a ta) : PE X (.UnaryOp .Not a pos) (tNotV ta) := by
  intro pins s σ H Q I h
  refine UnaryOp_ (thn (ha pins s σ H _ I h) fun v s1 ⟨x, H1, I1, r1, q1⟩ => ?_)
  obtain ⟨c, rfl, q1⟩ := q1
  cases r1
  exact not_of (wpAny_truthy_bool ⟨.bl (!c), H1, I1, rfl, q1⟩)
/-- a if t else b -/
def tIf (t : TT) (ta tb : TE) : TE := fun σ H Q => t σ H fun c H1 => if c = true then ta σ H1 Q else tb σ H1 Q
end
end L2

namespace L2
open PySem PySem.Spec PyProof.Rows

/-! ### a list, a tuple that is read: tracked, frozen, or an object of the module -/
def SqL (K : PySem.W.Frag) (H : Hp) (a : Addr) (xs : List V) : Prop :=
  Rd H a (.lst xs) ∨
    ∃ (o : Obj) (its : Array Value) (n : Nat), K.lookup a = some o ∧ o.cls = .type "list" ∧ o.dict = none ∧ o.data = .seq its n ∧ its.size ≤ sizeLine ∧ Vals xs its.toList
def SqT (K : PySem.W.Frag) (H : Hp) (a : Addr) (xs : List V) : Prop :=
  Rd H a (.tup xs) ∨
    ∃ (o : Obj) (its : Array Value) (n : Nat), K.lookup a = some o ∧ o.cls = .type "tuple" ∧ o.data = .seq its n ∧ its.size ≤ sizeLine ∧ Vals xs its.toList
def absV : Value → Option V
  | .none => some .non
  | .bool b => some (.bl b)
  | .int i _ => some (.int i)
  | .str x _ => some (.str x)
  | .bytes b _ => some (.byt b)
  | .float b _ => some (.flt b)
  | .ref a => some (.ref a)
  | .type n => some (.ty n)
  | _ => none
theorem RelV.abs {x : V} {u : Value} (r : RelV x u) : absV u = some x := by
  cases x with
  | non => cases r; rfl
  | bl _ => cases r; rfl
  | int _ => obtain ⟨t, rfl⟩ := r; rfl
  | str _ => obtain ⟨t, rfl⟩ := r; rfl
  | byt _ => obtain ⟨t, rfl⟩ := r; rfl
  | flt _ => obtain ⟨t, rfl⟩ := r; rfl
  | ref _ => cases r; rfl
  | ty _ => cases r; rfl
theorem RelV.inj {x y : V} {u : Value} (r : RelV x u) (q : RelV y u) : x = y := Option.some.inj (r.abs.symm.trans q.abs)
theorem Vals.inj : ∀ {xs ys : List V} {us : List Value}, Vals xs us → Vals ys us → xs = ys
  | _, _, _, .nil, .nil => rfl
  | _, _, _, .cons r t, .cons r' t' => by rw [r.inj r', Vals.inj t t']
section
variable {X : Cx} {pins : List (Addr × Obj)} {σ : St} {H : Hp} {s : Shared} {a : Addr} {xs ys : List V}
theorem SqL.of {K : PySem.W.Frag} (h : H a = some (.lst xs)) : SqL K H a xs := .inl (.inl h)
theorem SqT.of {K : PySem.W.Frag} (h : H a = some (.tup xs)) : SqT K H a xs := .inl (.inl h)
theorem Inv.list (I : Inv X pins σ H s) (h : SqL X.K H a xs) : ∃ its : List Value, Vals xs its ∧ PlainL s.heap a its.toArray ∧ xs.length ≤ sizeLine := by
  rcases h with h | ⟨o, its, n, hk, hc, hd, hs, hz, r⟩
  · obtain ⟨z, its, n, r, e⟩ := h.ok I.hok
    exact ⟨its, r, ⟨_, n, e, rfl, rfl, rfl⟩, z⟩
  · refine ⟨its.toList, r, ⟨o, n, I.kIn a o hk, hc, hd, by simpa using hs⟩, ?_⟩
    have e := r.length
    simp only [Array.length_toList] at e
    omega
theorem Inv.tuple (I : Inv X pins σ H s) (h : SqT X.K H a xs) : ∃ its : List Value, Vals xs its ∧ IsTup s.heap a its.toArray ∧ xs.length ≤ sizeLine := by
  rcases h with h | ⟨o, its, n, hk, hc, hs, hz, r⟩
  · obtain ⟨z, its, r, p⟩ := h.ok I.hok
    exact ⟨its, r, p, z⟩
  · refine ⟨its.toList, r, ⟨o, I.kIn a o hk, hc, n, by simpa using hs⟩, ?_⟩
    have e := r.length
    simp only [Array.length_toList] at e
    omega
theorem Inv.list_inj (I : Inv X pins σ H s) (h : SqL X.K H a xs) (h' : SqL X.K H a ys) : xs = ys := by
  obtain ⟨its, r, ⟨o, n, e, _, _, d⟩, _⟩ := I.list h
  obtain ⟨its', r', ⟨o', n', e', _, _, d'⟩, _⟩ := I.list h'
  rw [e] at e'; cases e'
  rw [d] at d'
  injection d' with d1 _
  have : its = its' := by simpa using congrArg Array.toList d1
  subst this
  exact r.inj r'
end

/-! ### another wish about exceptions -/
abbrev Cx.wish (X : Cx) (E : Value → Shared → Prop) : Cx := { X with xe := E }
/-- no exception leaves -/
abbrev Cx.nox (X : Cx) : Cx := X.wish fun _ _ => False
theorem Cx.Ok.wish {X : Cx} (ok : X.Ok) (E : Value → Shared → Prop) : (X.wish E).Ok :=
  ⟨ok.mod, ok.kind, ok.glob, ok.blt, ok.above, ok.inj, ok.has, ok.cab, ok.hd, ok.frames, ok.stk, ok.exf, ok.bs, ok.bsz, ok.noex, ok.exfs, ok.funs, ok.frf⟩
theorem Cx.Ok.unwish {X : Cx} {E : Value → Shared → Prop} (ok : (X.wish E).Ok) : X.Ok :=
  ⟨ok.mod, ok.kind, ok.glob, ok.blt, ok.above, ok.inj, ok.has, ok.cab, ok.hd, ok.frames, ok.stk, ok.exf, ok.bs, ok.bsz, ok.noex, ok.exfs, ok.funs, ok.frf⟩
section
variable {X : Cx} {pins : List (Addr × Obj)} {σ : St} {H : Hp} {s : Shared} {E : Value → Shared → Prop}
theorem Inv.wish (I : Inv X pins σ H s) (E : Value → Shared → Prop) : Inv (X.wish E) pins σ H s := ⟨I.ok.wish E, I.os, I.bare, I.base, I.loc, I.cell, I.free, I.freeC, I.pin, I.hok, I.len⟩
theorem Inv.unwish (I : Inv (X.wish E) pins σ H s) : Inv X pins σ H s := ⟨I.ok.unwish, I.os, I.bare, I.base, I.loc, I.cell, I.free, I.freeC, I.pin, I.hok, I.len⟩
theorem SP.unwish {D : Ends} {f : Flow} {s' : Shared} (h : SP (X.wish E) pins D f s') : SP X pins D f s' := by
  cases f with
  | next => obtain ⟨σ', H', I, q⟩ := h; exact ⟨σ', H', I.unwish, q⟩
  | brk => obtain ⟨σ', H', I, q⟩ := h; exact ⟨σ', H', I.unwish, q⟩
  | cont => obtain ⟨σ', H', I, q⟩ := h; exact ⟨σ', H', I.unwish, q⟩
  | ret u => obtain ⟨v, σ', H', I, r, q⟩ := h; exact ⟨v, σ', H', I.unwish, r, q⟩
theorem PSs.nox {st : List Stmt} {t : TS} (h : PSs X.nox st t) : PSs X st t := fun pins s σ H D I hw =>
  wpAny_mono (h pins s σ H D (I.wish _) hw) (fun _ _ q => q.unwish) fun _ _ z => False.elim z
end

/-! ### blocks and small statements -/
section
variable {X : Cx} {st : Stmt} {rest : List Stmt} {t u : TS} {e : Expr} {te : TE} {pos : Pos}
def tNext : TS := fun D σ H => D.nx σ H
def tSeq (t u : TS) : TS := fun D σ H => t { D with nx := u D } σ H
theorem pss_nil : PSs X [] tNext := fun _ _ σ H _ I h => wpAny_execs_nil ⟨σ, H, I, h⟩
theorem pss_cons (h1 : PS X st t) (h2 : PSs X rest u) : PSs X (st :: rest) (tSeq t u) := by
  intro pins s σ H D I h
  refine wpAny_execs_cons (thn (h1 pins s σ H { D with nx := u D } I h) fun f s1 q => ?_)
  cases f with
  | next =>
    obtain ⟨σ', H', I', q⟩ := q
    exact h2 pins s1 σ' H' D I' q
  | ret v => exact q
  | brk => exact q
  | cont => exact q
theorem pss_one (h1 : PS X st t) : PSs X [st] t := by
  intro pins s σ H D I h
  refine wpAny_execs_cons (thn (h1 pins s σ H D I h) fun f s1 q => ?_)
  cases f with
  | next => exact wpAny_execs_nil q
  | ret v => exact q
  | brk => exact q
  | cont => exact q
def tBreak : TS := fun D σ H => D.bk σ H
def tCont : TS := fun D σ H => D.ct σ H
/-- in a def's body nothing is shown -/
theorem Inv.quiet {pins : List (Addr × Obj)} {σ : St} {H : Hp} {s : Shared} (I : Inv X pins σ H s) : interactive X.env = false := by simp [interactive, I.ok.kind]
/-- an expression whose value is dropped -/
def tDrop (te : TE) : TS := fun D σ H => te σ H fun _ H1 => D.nx σ H1
theorem ps_expr (he : PE X e te) (hs : swapsWith e none pos.line X.env = pure false := by rfl) : PS X (.Expr e pos) (tDrop te) := by
  intro pins s σ H D I h
  exact wpAny_Expr_any (thn (he pins s σ H _ I h) fun v s1 ⟨x, H1, I1, r1, q1⟩ => ⟨σ, H1, I1, q1⟩) I.quiet hs
def tRet (te : TE) : TS := fun D σ H => te σ H D.rt
theorem ps_ret (he : PE X e te) : PS X (.Return (some e) pos) (tRet te) := by
  intro pins s σ H D I h
  exact wpAny_Return_some (thn (he pins s σ H _ I h) fun v s1 ⟨x, H1, I1, r1, q1⟩ => ⟨x, σ, H1, I1, r1, q1⟩)
def tRetN : TS := fun D _ H => D.rt .non H
def tIfS (c : TT) (t u : TS) : TS := fun D σ H => c σ H fun b H1 => if b = true then t D σ H1 else u D σ H1
theorem ps_if {c : Expr} {a b : List Stmt} {tc : TT} (hc : PT X c tc) (ha : PSs X a t) (hb : PSs X b u) : PS X (.If c a b pos) (tIfS tc t u) := by
  intro pins s σ H D I h
  refine wpAny_If (thn (hc pins s σ H _ I h) fun d s1 ⟨H1, I1, q1⟩ => ?_)
  cases d with
  | true => exact ha pins s1 σ H1 D I1 q1
  | false => exact hb pins s1 σ H1 D I1 q1
end

/-! ### targets -/
abbrev TG := V → St → Hp → (St → Hp → Prop) → Prop
abbrev TGs := List V → St → Hp → (St → Hp → Prop) → Prop
def PG (X : Cx) (target : Expr) (t : TG) : Prop :=
  ∀ (pins : List (Addr × Obj)) (s : Shared) (σ : St) (H : Hp) (v : V) (u : Value) (Q : St → Hp → Prop), Inv X pins σ H s → RelV v u → t v σ H Q →
    wpAny (model X.prog X.w) X.A (assign target X.env u) (fun _ s' => ∃ σ' H', Inv X pins σ' H' s' ∧ Q σ' H') X.xe s
/-- several targets, one after another -/
def PGs (X : Cx) (ts : List Expr) (t : TGs) : Prop :=
  ∀ (pins : List (Addr × Obj)) (s : Shared) (σ : St) (H : Hp) (vs : List V) (us : List Value) (Q : St → Hp → Prop), Inv X pins σ H s → Vals vs us → t vs σ H Q →
    wpAny (model X.prog X.w) X.A (assignInOrder ((assignEach ts X.env).map (·.2)) us) (fun _ s' => ∃ σ' H', Inv X pins σ' H' s' ∧ Q σ' H') X.xe s
/-- o[i] = v, by values -/
abbrev TSet := V → V → V → Hp → (Hp → Prop) → Prop
def PSet (X : Cx) (t : TSet) : Prop :=
  ∀ (pins : List (Addr × Obj)) (s : Shared) (σ : St) (H : Hp) (o i v : V) (ov iv u : Value) (Q : Hp → Prop), Inv X pins σ H s → RelV o ov → RelV i iv → RelV v u → t o i v H Q →
    wpAny (model X.prog X.w) X.A (setItem ov iv u) (fun _ s' => ∃ H', Inv X pins σ H' s' ∧ Q H') X.xe s
/-- a op= b, by values -/
abbrev TIp := V → V → Hp → VK → Prop
section
variable {X : Cx} {pos : Pos}
def gName (i : Nat) : TG := fun v σ H Q => Q (σ.set i (some v)) H
theorem pg_name {i : Nat} {x : Str} (hN : X.N.Nodup) (hi : X.N[i]? = some x) (hx : Loc X.env.scope x) (hf : X.fn x = true ∨ X.env.scope.names.lookup x = some .local := by first | exact .inl rfl | exact .inr rfl | assumption) : PG X (.Name x pos) (gName i) := by
  intro pins s σ H v u Q I r h
  exact wpAny_assign_Name (store_ok I hN hi hx r (fun s' I' => ⟨_, H, I', h⟩) hf)
def gNil : TGs := fun vs σ H Q => vs = [] ∧ Q σ H
def gCons (t : TG) (u : TGs) : TGs := fun vs σ H Q => ∃ v r, vs = v :: r ∧ t v σ H fun σ' H' => u r σ' H' Q
theorem pgs_nil : PGs X [] gNil := by
  intro pins s σ H vs us Q I r h
  obtain ⟨e, h⟩ := h
  subst e
  cases r
  exact assignInOrder_nil ⟨σ, H, I, h⟩
theorem pgs_cons {e : Expr} {es : List Expr} {t : TG} {u : TGs} (h1 : PG X e t) (h2 : PGs X es u)
    (hs : (assignEach (e :: es) X.env).map (·.2) = assign e X.env :: (assignEach es X.env).map (·.2) := by rfl) : PGs X (e :: es) (gCons t u) := by
  intro pins s σ H vs us Q I r h
  obtain ⟨v, vr, e1, h⟩ := h
  subst e1
  cases r with
  | cons r rr =>
    rw [hs]
    refine assignInOrder_cons (thn (h1 pins s σ H _ _ _ I r h) fun _ s1 ⟨σ1, H1, I1, q1⟩ => ?_)
    exact h2 pins s1 σ1 H1 _ _ Q I1 rr q1
/-- (a, b, ..) = a tuple of that length -/
def gTup (K : PySem.W.Frag) (n : Nat) (t : TGs) : TG := fun v σ H Q => ∃ a xs, v = .ref a ∧ SqT K H a xs ∧ xs.length = n ∧ t xs σ H Q
theorem pg_tup {es : List Expr} {k : Nat} {t : TGs} {n : Nat} (hc : X.calm = true) (h : PGs X es t)
    (hn : (assignEach es X.env).length = n := by rfl) (hst : (assignEach es X.env).findIdx? (·.1) = none := by rfl) : PG X (.Tuple es k pos) (gTup X.K n t) := by
  intro pins s σ H v u Q I r hw
  obtain ⟨a, xs, e1, hq, hl, hw⟩ := hw
  subst e1
  cases r
  obtain ⟨its, rv, ht, hz⟩ := I.tuple hq
  refine assign_Tuple_tuple (I.ok.hd hc) ht (by simp [hn, ← hl, rv.length]) hst fun h' hx => ?_
  have I1 : Inv X pins σ H { s with heap := h' } := I.kept (t' := s.toks) fun b o e => hx b o (Nat.ne_of_lt (Heap.lt_size e)) e
  exact h pins _ σ H xs _ Q I1 (by simpa using rv) hw
/-- o[i] = .. -/
def gSub (to ti : TE) (t : TSet) : TG := fun v σ H Q => to σ H fun o H1 => ti σ H1 fun i H2 => t o i v H2 fun H3 => Q σ H3
theorem pg_sub {o i : Expr} {to ti : TE} {t : TSet} (ho : PE X o to) (hi : PE X i ti) (hs : PSet X t)
    (ha : ∀ v, assign (.Subscript o i pos) X.env v = (do
      let ov ← holding [v] (eval o X.env)
      let iv ← holding [v, ov] (eval i X.env)
      standAt pos
      holding [v, ov, iv] (setItem ov iv v)
      release [v, ov, iv] []) := by intro _; rfl) : PG X (.Subscript o i pos) (gSub to ti t) := by
  intro pins s σ H v u Q I r h
  rw [ha]
  refine wpAny_bind (wpAny_holding (thn (ho pins s σ H _ I h) fun ov s1 ⟨x, H1, I1, r1, q1⟩ => ?_))
  refine wpAny_bind (wpAny_holding (thn (hi pins s1 σ H1 _ I1 q1) fun iv s2 ⟨y, H2, I2, r2, q2⟩ => ?_))
  refine wpAny_bind (wpAny_standAt (wpAny_bind (wpAny_holding (thn (hs pins s2 σ H2 x y v ov iv u _ I2 r1 r2 r q2) fun _ s3 ⟨H3, I3, q3⟩ => ?_))))
  exact wpAny_release ⟨σ, H3, I3, q3⟩
/-- target = value -/
def tAsg (te : TE) (g : TG) : TS := fun D σ H => te σ H fun x H1 => g x σ H1 D.nx
theorem ps_asg {tg e : Expr} {te : TE} {g : TG} (he : PE X e te) (hg : PG X tg g) (hs : swapsWithSole [tg] e pos.line X.env = pure false := by rfl) (hw : swappedStores [tg] e X.env = pure none := by rfl)
    (h1 : (assignEach [tg] X.env).map (·.2) = [assign tg X.env] := by rfl) : PS X (.Assign [tg] e pos) (tAsg te g) := by
  intro pins s σ H D I h
  refine wpAny_Assign_stores (thn (he pins s σ H _ I h) fun v s1 ⟨x, H1, I1, r1, q1⟩ => ?_) hs hw
  rw [h1]
  exact thn (hg pins s1 σ H1 x v _ I1 r1 q1) fun _ s2 q => q
/-- name = value -/
theorem ps_set {i : Nat} {x : Str} {e : Expr} {te : TE} {pos' : Pos} (hN : X.N.Nodup) (hi : X.N[i]? = some x) (hx : Loc X.env.scope x) (he : PE X e te) (hs : swapsWith e (some (.Name x pos')) pos.line X.env = pure false := by rfl) (hf : X.fn x = true ∨ X.env.scope.names.lookup x = some .local := by first | exact .inl rfl | exact .inr rfl | assumption) :
    PS X (.Assign [.Name x pos'] e pos) (tAsg te (gName i)) := by
  intro pins s σ H D I h
  refine wpAny_Assign_Name (thn (he pins s σ H _ I h) fun v s1 ⟨y, H1, I1, r1, q1⟩ => ?_) hs
  exact store_ok I1 hN hi hx r1 (fun s2 I2 => ⟨_, H1, I2, q1⟩) hf
/-- name op= e -/
def tAug (i : Nat) (te : TE) (ti : TIp) : TS := fun D σ H => ∃ x, σ[i]? = some (some x) ∧ te σ H fun y H1 => ti x y H1 fun z H2 => D.nx (σ.set i (some z)) H2
end

/-! ### while -/
section
variable {X : Cx} {pos : Pos}
/-- the invariant W with its measure -/
def tWhile (c : TT) (tb : TS) : TS := fun D σ H => ∃ W : Nat → St → Hp → Prop, (∃ m, W m σ H) ∧ ∀ m σ H, W m σ H →
  c σ H fun b H1 => if b = true then ∃ N : St → Hp → Prop, (∀ σ' H', N σ' H' → ∃ m', m' < m ∧ W m' σ' H') ∧ tb { D with nx := N, ct := N, bk := D.nx } σ H1 else D.nx σ H1
theorem ps_while {c : Expr} {body : List Stmt} {tc : TT} {tb : TS} (hp : PassesOwn (model X.prog X.w) X.A X.env X.xe) (hc : PT X c tc) (hb : PSs X body tb) : PS X (.While c body [] pos) (tWhile tc tb) := by
  intro pins s σ H D I h
  obtain ⟨W, ⟨m0, w0⟩, turn⟩ := h
  refine wpAny_While (codeAny_whileLoop (fun n s' => ∃ σ' H', Inv X pins σ' H' s' ∧ W n σ' H') ?_ m0 ⟨σ, H, I, w0⟩)
  rintro n s1 ⟨σ1, H1, I1, w1⟩
  refine wpAny_passesOwn hp (thn (hc pins s1 σ1 H1 _ I1 (turn n σ1 H1 w1)) fun b s2 ⟨H2, I2, q2⟩ => ?_)
  cases b with
  | true =>
    obtain ⟨N, hN, q2⟩ := q2
    rw [if_pos rfl]
    refine wpAny_passesOwn hp (thn (hb pins s2 σ1 H2 _ I2 q2) fun f s3 q3 => ?_)
    cases f with
    | next =>
      obtain ⟨σ3, H3, I3, n3⟩ := q3
      obtain ⟨m', hm, w3⟩ := hN σ3 H3 n3
      exact ⟨m', hm, σ3, H3, I3, w3⟩
    | cont =>
      obtain ⟨σ3, H3, I3, n3⟩ := q3
      obtain ⟨m', hm, w3⟩ := hN σ3 H3 n3
      exact ⟨m', hm, σ3, H3, I3, w3⟩
    | brk => exact q3
    | ret v => exact q3
  | false =>
    rw [if_neg Bool.false_ne_true]
    exact wpAny_execs_nil ⟨σ1, H2, I2, q2⟩
end

/-! ### what a loop or a comprehension walks -/
/-- at turn i: it yields x (the heap may grow), or it stops -/
structure It where
  go : Nat → Hp → Prop
  yld : Nat → Hp → V → Hp → Prop
  stop : Nat → Hp → Prop
/-- the iterator's own objects may turn: they are not the frame's, not pinned, younger than the entry (or a comprehension's own) -/
def FpOk (X : Cx) (pins : List (Addr × Obj)) (H : Hp) (b : Addr) : Prop :=
  H b = none ∧ b ≠ X.env.locals ∧ b ∉ X.fs ∧ (b ∈ X.ex ∨ X.s₀.heap.objs.size ≤ b) ∧ (∀ x c, X.env.cells.lookup x = some c → c ≠ b) ∧ ∀ p ∈ X.pn ++ pins, p.1 ≠ b
theorem Inv.fpOk {X : Cx} {pins : List (Addr × Obj)} {σ : St} {H H' : Hp} {s : Shared} {b : Addr} (I : Inv X pins σ H s) (hb : s.heap.objs.size ≤ b) (hn : H' b = none) : FpOk X pins H' b := by
  refine ⟨hn, Nat.ne_of_gt (Nat.lt_of_lt_of_le I.lt hb), I.nofs hb, .inr (Nat.le_trans I.sz hb), fun x c e z => ?_, fun p hp z => ?_⟩
  · obtain ⟨v, q⟩ := I.cell x c e
    exact absurd (Nat.lt_of_lt_of_le q.lt (by rw [z]; exact hb)) (Nat.lt_irrefl _)
  · exact absurd (Nat.lt_of_lt_of_le (Heap.lt_size (I.pin p hp).1) (by rw [z]; exact hb)) (Nat.lt_irrefl _)
structure Turn (P : Program) (w : World) (K : PySem.W.Frag) (tg : Expr) (J : It) (fp : List Addr) (it : Addr) (tn : Nat → Heap → Prop) : Prop where
  mem : it ∈ fp
  obj : ∀ i h, tn i h → ∀ b ∈ fp, ∃ o, h.get? b = some o ∧ ∀ v, o.data ≠ .cell v
  keep : ∀ i h h', tn i h → (∀ b ∈ fp, ∀ o, h.get? b = some o → h'.get? b = some o) → tn i h'
  item : ∀ (X : Cx), X.prog = P → X.w = w → X.K = K → X.calm = true → ∀ (i : Nat) (pins : List (Addr × Obj)) (s : Shared) (σ : St) (H : Hp) (E : Value → Shared → Prop), Inv X pins σ H s → (∀ b ∈ fp, FpOk X pins H b) → tn i s.heap → J.go i H →
    wpAny (model P w) X.A (pyNext (.ref it)) (fun r s1 => ∃ u, r = some u ∧
      wpAny (model P w) X.A (letOwnedTupleGo tg (.ref it) u) (fun _ s2 => ∃ x H', Inv X pins σ H' s2 ∧ RelV x u ∧ J.yld i H x H' ∧ tn (i + 1) s2.heap ∧ ∀ b ∈ fp, H' b = none) E s1) E s
  done : ∀ (X : Cx), X.prog = P → X.w = w → X.K = K → X.calm = true → ∀ (i : Nat) (pins : List (Addr × Obj)) (s : Shared) (σ : St) (H : Hp) (E : Value → Shared → Prop), Inv X pins σ H s → (∀ b ∈ fp, FpOk X pins H b) → tn i s.heap → J.stop i H →
    wpAny (model P w) X.A (pyNext (.ref it)) (fun r s1 => r = none ∧ Inv X pins σ H s1) E s
  self : ∀ (A : Around) (i : Nat) (s : Shared) (Q : Value → Shared → Prop) (E : Value → Shared → Prop), tn i s.heap → Q (.ref it) s → wpAny (model P w) A (pyIter (.ref it)) Q E s
abbrev TI := St → Hp → (It → Hp → Prop) → Prop
/-- an iterator has come -/
def PIE (X : Cx) (pins : List (Addr × Obj)) (σ : St) (tg : Expr) (R : It → Hp → Prop) (itv : Value) (s2 : Shared) : Prop :=
  ∃ (it : Addr) (fp : List Addr) (tn : Nat → Heap → Prop) (J : It) (H' : Hp), itv = .ref it ∧ Inv X pins σ H' s2 ∧ Turn X.prog X.w X.K tg J fp it tn ∧ tn 0 s2.heap ∧ (∀ b ∈ fp, FpOk X pins H' b) ∧ R J H'
def PI (X : Cx) (tg iter : Expr) (wi : TI) : Prop :=
  ∀ (pins : List (Addr × Obj)) (s : Shared) (σ : St) (H : Hp) (R : It → Hp → Prop), Inv X pins σ H s → wi σ H R →
    wpAny (model X.prog X.w) X.A (eval iter X.env) (fun v s1 => wpAny (model X.prog X.w) X.A (pyIter v) (PIE X pins σ tg R) X.xe s1) X.xe s

/-- the step ahead of the store is nothing for an iterator that keeps no tuple -/
theorem go_of {M : Model} {A : Around} {E : Value → Shared → Prop} {s : Shared} {tg : Expr} {it : Addr} {u : Value} {o : Obj} {n : String} {vs : Array Value} {Q : Unit → Shared → Prop} (ho : s.heap.get? it = some o) (hc : o.cls = .type n) (hd : o.data = .fields vs)
    (hn : ["enumerate", "zip", "dict_itemiterator", "dict_reverseitemiterator", "odict_iterator", "itertools.zip_longest", "itertools.pairwise"].contains n = false) (hQ : Q () s) : wpAny M A (letOwnedTupleGo tg (.ref it) u) Q E s := by
  unfold letOwnedTupleGo
  cases tg <;> first
    | exact wpAny_pure hQ
    | (cases u <;> first
        | exact wpAny_pure hQ
        | (refine wpAny_bind (wpAny_load ho ?_)
           rw [hc, hd]
           show wpAny M A (if (["enumerate", "zip", "dict_itemiterator", "dict_reverseitemiterator", "odict_iterator", "itertools.zip_longest", "itertools.pairwise"].contains n && vs[0]? == some (rawInt _)) = true then _ else _) Q E s
           rw [if_neg (by intro h; rw [hn, Bool.false_and] at h; cases h)]
           exact wpAny_pure hQ))

/-- the list at a, as it stands at each turn (a loop may append to it) -/
def Itl (K : PySem.W.Frag) (a : Addr) : It :=
  ⟨fun i H => ∃ xs x, SqL K H a xs ∧ xs[i]? = some x, fun i H x H' => H' = H ∧ ∀ xs, SqL K H a xs → xs[i]? = some x, fun i H => ∃ xs, SqL K H a xs ∧ xs.length ≤ i⟩
/-- lo, lo + 1, .. (n of them) -/
def Itr (lo : Int) (n : Nat) : It := ⟨fun i _ => i < n, fun i H x H' => H' = H ∧ x = .int (lo + i), fun i _ => n ≤ i⟩
theorem turn_range {P : Program} {w : World} {K : PySem.W.Frag} {tg : Expr} (it : Addr) (lo : Int) (n : Nat) : Turn P w K tg (Itr lo n) [it] it (fun i h => IsRangeIter h it (lo + (i : Nat) * 1) ((n : Int) - (i : Nat)) 1) where
  mem := by simp
  obj := fun i h st b hb => by
    have e : b = it := by simpa using hb
    subst e
    exact ⟨_, st, fun v z => by
      have z' : Data.fields _ = Data.cell v := z
      cases z'⟩
  keep := fun i h h' st k => k it (by simp) _ st
  item := by
    intro X hP hw hK hc i pins s σ H E I hf st hg
    subst hP hw hK
    obtain ⟨f0, f1, f2, f3, f4, f5⟩ := hf it (by simp)
    have W := Walks.range (prog := X.prog) (w := X.w) (I.ok.hd hc) it lo 1 n
    refine W.item i s _ _ hg st fun v h' tk hv st' kk => ?_
    obtain ⟨t, rfl⟩ := hv
    have I1 : Inv X pins σ H { s with heap := h', toks := tk } := I.turned (fun b o hb e => kk b o (by simpa using hb) e) f0 f1 f3 f4 f5
    refine ⟨_, rfl, go_of (s := { s with heap := h', toks := tk }) (n := "range_iterator") st' rfl rfl (by decide) ⟨.int (lo + i), H, I1, ⟨t, ?_⟩, ⟨rfl, rfl⟩, st', fun b hb => (hf b hb).1⟩⟩
    rw [Int.mul_one]
  done := by
    intro X hP hw hK hc i pins s σ H E I hf st hg
    subst hP hw hK
    obtain ⟨f0, f1, f2, f3, f4, f5⟩ := hf it (by simp)
    exact wpAny_pyNext_range_end (I.ok.hd hc) st (by have : n ≤ i := hg; omega) fun h' eb => ⟨rfl, I.turned (t' := s.toks) (fun b o hb e => eb b o hb e) f0 f1 f3 f4 f5⟩
  self := fun _ _ _ _ _ st h => wpAny_pyIter_rangeiter st h
end L2

namespace L2
open PySem PySem.Spec PyProof.Rows
section
variable {X : Cx} {tg : Expr}
def iList (K : PySem.W.Frag) (tl : TE) : TI := fun σ H R => tl σ H fun x H1 => ∃ a, x = .ref a ∧ (∃ xs, SqL K H1 a xs) ∧ R (Itl K a) H1
/-- a range object just made, walked -/
theorem range_it {pins : List (Addr × Obj)} {σ : St} {H : Hp} {s : Shared} {R : It → Hp → Prop} {E : Value → Shared → Prop} {lo hi : Int} {t u v : Tok} {tk : Nat} (I : Inv X pins σ H s) (h1 : -(2 ^ 62) ≤ lo) (h2 : lo < 2 ^ 62) (h3 : -(2 ^ 62) ≤ hi) (h4 : hi < 2 ^ 62)
    (q : R (Itr lo (hi - lo).toNat) H) : wpAny (model X.prog X.w) X.A (pyIter (.ref s.heap.objs.size)) (PIE X pins σ tg R) E { s with heap := s.heap.push { cls := .type "range", data := .fields #[.int lo t, .int hi u, .int 1 v] }, toks := tk } := by
  refine wpAny_pyIter_range (IsRange.new ..) (small_one h1 h2 h3 h4) ?_
  have I1 : Inv X pins σ H { s with heap := s.heap.push { cls := .type "range", data := .fields #[.int lo t, .int hi u, .int 1 v] }, toks := tk } := I.kept fun b o e => Heap.get?_push_of_some _ e
  refine ⟨(s.heap.push { cls := .type "range", data := .fields #[.int lo t, .int hi u, .int 1 v] }).objs.size, [(s.heap.push { cls := .type "range", data := .fields #[.int lo t, .int hi u, .int 1 v] }).objs.size], _, _, H, rfl,
    I1.kept (t' := tk) fun b o e => Heap.get?_push_of_some _ e, turn_range _ lo (hi - lo).toNat, ?_, fun b hb => ?_, q⟩
  · have e1 : lo + ((0 : Nat) : Int) * 1 = lo := by simp
    have e2 : (((hi - lo).toNat : Nat) : Int) - ((0 : Nat) : Int) = Builtin.Range.rangeSize lo hi 1 := by rw [rangeSize_one]; split <;> omega
    show IsRangeIter _ _ (lo + ((0 : Nat) : Int) * 1) ((((hi - lo).toNat : Nat) : Int) - ((0 : Nat) : Int)) 1
    rw [e1, e2]
    exact Heap.get?_push_size _ rfl
  · have e : b = (s.heap.push { cls := .type "range", data := .fields #[.int lo t, .int hi u, .int 1 v] }).objs.size := by simpa using hb
    subst e
    exact I1.fpOk (Nat.le_refl _) (I1.hok.fresh (Nat.le_refl _))
def iRng1 (ta : TA) : TI := fun σ H R => ta σ H fun vs H1 => ∃ j : Int, vs = [.int j] ∧ -(2 ^ 62) ≤ j ∧ j < 2 ^ 62 ∧ R (Itr 0 j.toNat) H1
def iRng2 (ta : TA) : TI := fun σ H R => ta σ H fun vs H1 => ∃ i j : Int, vs = [.int i, .int j] ∧ (-(2 ^ 62) ≤ i ∧ i < 2 ^ 62 ∧ -(2 ^ 62) ≤ j ∧ j < 2 ^ 62) ∧ R (Itr i (j - i).toNat) H1
theorem pi_range1 {a : Expr} {ta : TA} {p pos : Pos} (hg : Gl X "range") (hm : X.mg "range" = none) (ha : PA X [a] ta) (hs : starEach [a] X.env = [(false, eval a X.env)] := by rfl) : PI X tg (.Call (.Name "range" p) [a] [] pos) (iRng1 ta) := by
  intro pins s σ H R I h
  refine Call_ (ld_blt I hg hm boot_range (PyProof.Rows.callWith_type1 (thn (ha pos pins s σ H _ I h) fun us s1 ⟨vs, H1, I1, r1, q1⟩ => ?_) hs rfl))
  obtain ⟨j, e, q1, q2, q⟩ := q1
  subst e
  cases r1 with
  | cons r rr =>
    cases rr
    obtain ⟨t, rfl⟩ := r
    exact call_range_1 (range_it I1 (by omega) (by omega) q1 q2 (by simpa using q))
/-! ### for -/
/-- W: the invariant by the turn and a measure; N: what the body is to reach -/
def tFor (wi : TI) (g : TG) (tb : TS) : TS := fun D σ H => wi σ H fun J H1 => ∃ W : Nat → Nat → St → Hp → Prop, (∃ m, W 0 m σ H1) ∧ ∀ i m σ H, W i m σ H →
  (J.stop i H ∧ D.nx σ H) ∨ (J.go i H ∧ ∃ N : St → Hp → Prop, (∀ σ' H', N σ' H' → ∃ m', m' < m ∧ W (i + 1) m' σ' H') ∧ ∀ x H', J.yld i H x H' → g x σ H' fun σ2 H2 => tb { D with nx := N, ct := N, bk := D.nx } σ2 H2)
/-- the records at fp as they stand -/
def pinsAt (fp : List Addr) (h : Heap) : List (Addr × Obj) := fp.filterMap fun b => (h.get? b).map fun o => (b, o)
theorem mem_pinsAt {fp : List Addr} {h : Heap} {b : Addr} {o : Obj} (hb : b ∈ fp) (e : h.get? b = some o) : (b, o) ∈ pinsAt fp h := List.mem_filterMap.mpr ⟨b, hb, by rw [e]; rfl⟩
theorem of_pinsAt {fp : List Addr} {h : Heap} {p : Addr × Obj} (hp : p ∈ pinsAt fp h) : p.1 ∈ fp ∧ h.get? p.1 = some p.2 := by
  obtain ⟨b, hb, e⟩ := List.mem_filterMap.mp hp
  cases q : h.get? b with
  | none => rw [q] at e; cases e
  | some o =>
    rw [q] at e
    have e' : (b, o) = p := Option.some.inj e
    subst e'
    exact ⟨hb, q⟩
theorem Inv.pinned {pins : List (Addr × Obj)} {σ : St} {H : Hp} {s : Shared} {fp : List Addr} (I : Inv X pins σ H s) (hf : ∀ b ∈ fp, FpOk X pins H b) (ho : ∀ b ∈ fp, ∃ o, s.heap.get? b = some o ∧ ∀ v, o.data ≠ .cell v) : Inv X (pins ++ pinsAt fp s.heap) σ H s :=
  I.pins_of fun p hp => (List.mem_append.mp hp).elim (fun z => I.pin p (List.mem_append_right _ z)) fun z => by
    obtain ⟨hb, e⟩ := of_pinsAt z
    obtain ⟨f0, f1, f2, _⟩ := hf p.1 hb
    obtain ⟨o, e', d⟩ := ho p.1 hb
    rw [e] at e'; cases e'
    exact ⟨e, f0, f1, f2, d⟩
theorem Inv.unpinned {pins pl : List (Addr × Obj)} {σ : St} {H : Hp} {s : Shared} (I : Inv X (pins ++ pl) σ H s) : Inv X pins σ H s := I.pins_of fun p hp => I.pin p (List.mem_append_right _ (List.mem_append_left _ hp))
theorem ps_for {iter : Expr} {body : List Stmt} {wi : TI} {g : TG} {tb : TS} {pos : Pos} (hp : PassesOwn (model X.prog X.w) X.A X.env X.xe) (hc : X.calm = true) (hi : PI X tg iter wi) (hg : PG X tg g) (hb : PSs X body tb)
    (hs : ∀ x, foldedSetIterable iter X.env x = pure x := by intro _; rfl) : PS X (.For tg iter body [] pos) (tFor wi g tb) := by
  intro pins s σ H D I h
  refine wpAny_For (thn (hi pins s σ H _ I h) fun v s1 h1 => thn h1 fun itv s2 h2 => ?_) hs
  obtain ⟨it, fp, tn, J, H2, e, I2, T, st2, f2, W, ⟨m0, w0⟩, turn⟩ := h2
  subst e
  -- what stays true of the iterator's objects through the loop
  have stat : ∀ {H' : Hp}, (∀ b ∈ fp, H' b = none) → ∀ b ∈ fp, FpOk X pins H' b := fun hn b hb => ⟨hn b hb, (f2 b hb).2⟩
  refine codeAny_forLoop_any (fun n s' => ∃ i σ' H', Inv X pins σ' H' s' ∧ tn i s'.heap ∧ (∀ b ∈ fp, H' b = none) ∧ W i n σ' H') ?_ m0 ⟨0, σ, H2, I2, st2, fun b hb => (f2 b hb).1, w0⟩
  rintro n s3 ⟨i, σ3, H3, I3, st3, fr3, w3⟩
  rcases turn i n σ3 H3 w3 with ⟨stop, qn⟩ | ⟨go, N, hN, step⟩
  · refine wpAny_passesOwn hp (thn (T.done X rfl rfl rfl hc i pins s3 σ3 H3 X.xe I3 (stat fr3) st3 stop) fun r s4 ⟨hr, I4⟩ => ?_)
    subst hr
    exact wpAny_execs_nil ⟨σ3, H3, I4, qn⟩
  · refine wpAny_passesOwn hp (thn (T.item X rfl rfl rfl hc i pins s3 σ3 H3 X.xe I3 (stat fr3) st3 go) fun r s4 ⟨u, hr, h4⟩ => ?_)
    subst hr
    refine wpAny_passesOwn hp (thn h4 fun _ s5 ⟨x, H5, I5, r5, y5, st5, fr5⟩ => ?_)
    have I5' := I5.pinned (stat fr5) (T.obj _ _ st5)
    refine wpAny_passesOwn hp (thn (hg _ s5 σ3 H5 x u _ I5' r5 (step x H5 y5)) fun _ s6 ⟨σ6, H6, I6, q6⟩ => ?_)
    refine wpAny_passesOwn hp (thn (hb _ s6 σ6 H6 _ I6 q6) fun f s7 q7 => ?_)
    have again : ∀ {σ7 : St} {H7 : Hp}, Inv X (pins ++ pinsAt fp s5.heap) σ7 H7 s7 → N σ7 H7 → ∃ m, m < n ∧ ∃ i σ' H', Inv X pins σ' H' s7 ∧ tn i s7.heap ∧ (∀ b ∈ fp, H' b = none) ∧ W i m σ' H' := fun {σ7 H7} I7 n7 => by
      obtain ⟨m', hm, w7⟩ := hN σ7 H7 n7
      refine ⟨m', hm, i + 1, σ7, H7, I7.unpinned, T.keep _ _ _ st5 fun b hb o e => (I7.pin (b, o) (List.mem_append_right _ (List.mem_append_right _ (mem_pinsAt hb e)))).1, fun b hb => ?_, w7⟩
      obtain ⟨o, e, d⟩ := T.obj _ _ st5 b hb
      exact (I7.pin (b, o) (List.mem_append_right _ (List.mem_append_right _ (mem_pinsAt hb e)))).2.1
    cases f with
    | next => obtain ⟨σ7, H7, I7, n7⟩ := q7; exact again I7 n7
    | cont => obtain ⟨σ7, H7, I7, n7⟩ := q7; exact again I7 n7
    | brk => obtain ⟨σ7, H7, I7, q7⟩ := q7; exact ⟨σ7, H7, I7.unpinned, q7⟩
    | ret v => obtain ⟨x7, σ7, H7, I7, r7, q7⟩ := q7; exact ⟨x7, σ7, H7, I7.unpinned, r7, q7⟩
end

/-! ### the forms one uses -/
end L2

namespace L2
open PySem PySem.Spec PyProof.Rows

abbrev R2 := V → V → Hp → VK → Prop
/-- a two-place operation on values: f is binaryOp op, inplaceOp op or compareOp op -/
def OpR (X : Cx) (f : Value → Value → Sem Value) (r : R2) : Prop :=
  ∀ (pins : List (Addr × Obj)) (s : Shared) (σ : St) (H : Hp) (x y : V) (v u : Value) (Q : VK), Inv X pins σ H s → RelV x v → RelV y u → r x y H Q →
    wpAny (model X.prog X.w) X.A (f v u) (EP X pins σ Q) X.xe s
/-- a one-place operation -/
def UnR (X : Cx) (f : Value → Sem Value) (r : V → Hp → VK → Prop) : Prop :=
  ∀ (pins : List (Addr × Obj)) (s : Shared) (σ : St) (H : Hp) (x : V) (v : Value) (Q : VK), Inv X pins σ H s → RelV x v → r x H Q →
    wpAny (model X.prog X.w) X.A (f v) (EP X pins σ Q) X.xe s
/-- a call of a value that is known (a builtin, a type) with values -/
def CallR (X : Cx) (f : Value) (r : List V → Hp → VK → Prop) : Prop :=
  ∀ (pins : List (Addr × Obj)) (s : Shared) (σ : St) (H : Hp) (xs : List V) (us : List Value) (Q : VK), Inv X pins σ H s → Vals xs us → r xs H Q →
    wpAny (model X.prog X.w) X.A (call f us) (EP X pins σ Q) X.xe s
def tOp (r : R2) (ta tb : TE) : TE := fun σ H Q => ta σ H fun x H1 => tb σ H1 fun y H2 => r x y H2 Q
def tUn (r : V → Hp → VK → Prop) (ta : TE) : TE := fun σ H Q => ta σ H fun x H1 => r x H1 Q
/-- ints in, under C, and a value out -/
def rI (C : Int → Int → Prop) (g : Int → Int → V) : R2 := fun x y H Q => ∃ i j, x = .int i ∧ y = .int j ∧ C i j ∧ Q (g i j) H
def rI0 (g : Int → Int → V) : R2 := fun x y H Q => ∃ i j, x = .int i ∧ y = .int j ∧ Q (g i j) H
def rU (g : Int → V) : V → Hp → VK → Prop := fun x H Q => ∃ i, x = .int i ∧ Q (g i) H

section
variable {X : Cx} {a b c : Expr} {ta tb tc : TE} {pos : Pos}

theorem binT (ha : PE X a ta) (hb : PE X b tb) {pins : List (Addr × Obj)} {s : Shared} {σ : St} {H : Hp} {R : V → V → Hp → Prop} (I : Inv X pins σ H s)
    (h : ta σ H fun x H1 => tb σ H1 fun y H2 => R x y H2) {Q : Value → Shared → Prop} {f : Value → Value → Sem Value}
    (hf : ∀ v u s2 x y H2, Inv X pins σ H2 s2 → RelV x v → RelV y u → R x y H2 → wpAny (model X.prog X.w) X.A (f v u) Q X.xe s2) :
    wpAny (model X.prog X.w) X.A (eval a X.env) (fun v s₁ => wpAny (model X.prog X.w) X.A (eval b X.env) (fun u s₂ => wpAny (model X.prog X.w) X.A (f v u) Q X.xe s₂) X.xe s₁) X.xe s := by
  refine thn (ha pins s σ H _ I h) fun v s1 ⟨x, H1, I1, r1, q1⟩ => ?_
  refine thn (hb pins s1 σ H1 _ I1 q1) fun u s2 ⟨y, H2, I2, r2, q2⟩ => ?_
  exact hf v u s2 x y H2 I2 r1 r2 q2

theorem pe_op {op : Operator} {r : R2} (ho : OpR X (binaryOp op) r) (ha : PE X a ta) (hb : PE X b tb) : PE X (.BinOp a op b pos) (tOp r ta tb) := by
  intro pins s σ H Q I h
  exact wpAny_BinOp (binT ha hb I h fun v u s2 x y H2 I2 rx ry q => ho pins s2 σ H2 x y v u Q I2 rx ry q)
theorem pe_un {op : UnaryOp} {r : V → Hp → VK → Prop} (ho : UnR X (unaryOp op) r) (ha : PE X a ta) : PE X (.UnaryOp op a pos) (tUn r ta) := by
  intro pins s σ H Q I h
  exact UnaryOp_ (thn (ha pins s σ H _ I h) fun v s1 ⟨x, H1, I1, r1, q1⟩ => ho pins s1 σ H1 x v Q I1 r1 q1)
/-! ### ints -/
theorem opI {f : Value → Value → Sem Value} {C : Int → Int → Prop} {g : Int → Int → Int}
    (rule : ∀ (i j : Int) (t u : Tok) (s : Shared) (Q : Value → Shared → Prop) (E : Value → Shared → Prop), C i j → Q (.int (g i j) s.toks) { s with toks := s.toks + 1 } → wpAny (model X.prog X.w) X.A (f (.int i t) (.int j u)) Q E s) :
    OpR X f (rI C fun i j => .int (g i j)) := by
  intro pins s σ H x y v u Q I rx ry h
  obtain ⟨i, j, rfl, rfl, hc, q⟩ := h
  obtain ⟨t, rfl⟩ := rx
  obtain ⟨t', rfl⟩ := ry
  exact rule i j t t' s _ _ hc ⟨.int (g i j), H, I.tok _, ⟨_, rfl⟩, q⟩
theorem opI0 {f : Value → Value → Sem Value} {g : Int → Int → Int}
    (rule : ∀ (i j : Int) (t u : Tok) (s : Shared) (Q : Value → Shared → Prop) (E : Value → Shared → Prop), Q (.int (g i j) s.toks) { s with toks := s.toks + 1 } → wpAny (model X.prog X.w) X.A (f (.int i t) (.int j u)) Q E s) :
    OpR X f (rI0 fun i j => .int (g i j)) := by
  intro pins s σ H x y v u Q I rx ry h
  obtain ⟨i, j, rfl, rfl, q⟩ := h
  obtain ⟨t, rfl⟩ := rx
  obtain ⟨t', rfl⟩ := ry
  exact rule i j t t' s _ _ ⟨.int (g i j), H, I.tok _, ⟨_, rfl⟩, q⟩
theorem opB0 {f : Value → Value → Sem Value} {g : Int → Int → Bool}
    (rule : ∀ (i j : Int) (t u : Tok) (s : Shared) (Q : Value → Shared → Prop) (E : Value → Shared → Prop), Q (.bool (g i j)) s → wpAny (model X.prog X.w) X.A (f (.int i t) (.int j u)) Q E s) :
    OpR X f (rI0 fun i j => .bl (g i j)) := by
  intro pins s σ H x y v u Q I rx ry h
  obtain ⟨i, j, rfl, rfl, q⟩ := h
  obtain ⟨t, rfl⟩ := rx
  obtain ⟨t', rfl⟩ := ry
  exact rule i j t t' s _ _ ⟨.bl (g i j), H, I, rfl, q⟩

def CDiv (i j : Int) : Prop := 0 < j ∧ j < 1073741824
def CPow (i j : Int) : Prop := 0 ≤ j ∧ j ≤ 1000000 ∧ i.natAbs < 2 ^ 64
def CMul (i j : Int) : Prop := (-(2 ^ 64) < i ∧ i < 2 ^ 64) ∨ (-(2 ^ 64) < j ∧ j < 2 ^ 64)
theorem CMul.ok {i j : Int} (h : CMul i j) : IntMulOk i j := by
  rcases h with ⟨h1, h2⟩ | ⟨h1, h2⟩
  · exact .of_left (intBits_le_64 h1 h2)
  · exact .of_right (intBits_le_64 h1 h2)
theorem two_pow_nn (k : Nat) : (0 : Int) ≤ 2 ^ k := by
  rw [two_pow_cast]
  exact Int.natCast_nonneg _

theorem op_add : OpR X (binaryOp .Add) (rI0 fun i j => .int (i + j)) := opI0 fun _ _ _ _ _ _ _ q => add_int q
theorem op_sub : OpR X (binaryOp .Sub) (rI0 fun i j => .int (i - j)) := opI0 fun _ _ _ _ _ _ _ q => sub_int q
theorem op_mul : OpR X (binaryOp .Mult) (rI CMul fun i j => .int (i * j)) := opI fun _ _ _ _ _ _ _ hc q => mul_int q hc.ok
/-- // by a positive divisor -/
theorem op_fdiv : OpR X (binaryOp .FloorDiv) (rI CDiv fun i j => .int (i / j)) := opI fun i j _ _ _ _ _ hc q => by
  have h1 : (0 : Int) < j := hc.1
  have h2 : j < 1073741824 := hc.2
  exact floordiv_int (by omega) (by rw [Int.fdiv_eq_ediv_of_nonneg i (by omega)]; exact q) (.inl (PyProof.noPylong_small (by omega)))
/-- % by a positive divisor of any size -/
theorem op_mod : OpR X (binaryOp .Mod) (rI (fun _ j => 0 < j) fun i j => .int (i % j)) := opI fun i j _ _ _ _ _ hc q => by
  have h1 : (0 : Int) < j := hc
  exact mod_int' (by omega) (by rw [Int.fmod_eq_emod_of_nonneg i (by omega)]; exact q)
theorem op_pow : OpR X (binaryOp .Pow) (rI CPow fun i j => .int (i ^ j.toNat)) := opI fun _ _ _ _ _ _ _ hc q => pow_int_small hc.1 hc.2.1 hc.2.2 q
theorem op_shr : OpR X (binaryOp .RShift) (rI (fun _ j => 0 ≤ j) fun i j => .int (i / 2 ^ j.toNat)) := opI fun i j _ _ _ _ _ hc q =>
  rshift_int hc (by rw [Int.fdiv_eq_ediv_of_nonneg i (two_pow_nn _)]; exact q)
theorem unI {f : Value → Sem Value} {g : Int → Int}
    (rule : ∀ (i : Int) (t : Tok) (s : Shared) (Q : Value → Shared → Prop) (E : Value → Shared → Prop), Q (.int (g i) s.toks) { s with toks := s.toks + 1 } → wpAny (model X.prog X.w) X.A (f (.int i t)) Q E s) :
    UnR X f (rU fun i => .int (g i)) := by
  intro pins s σ H x v Q I rx h
  obtain ⟨i, rfl, q⟩ := h
  obtain ⟨t, rfl⟩ := rx
  exact rule i t s _ _ ⟨.int (g i), H, I.tok _, ⟨_, rfl⟩, q⟩
theorem un_neg : UnR X (unaryOp .USub) (rU fun i => .int (-i)) := unI fun _ _ _ _ _ q => neg_int q
/-! ### bools among ints: n += (a < b) -/
end

/-! ### comparisons -/
/-- the scalars that == tells apart as data does -/
def scal : V → V → Bool
  | .non, .non => true | .non, .int _ => true | .int _, .non => true | .non, .bl _ => true | .bl _, .non => true | .non, .str _ => true | .str _, .non => true
  | .int _, .int _ => true | .bl _, .bl _ => true | .str _, .str _ => true | .byt _, .byt _ => true
  | .int _, .str _ => true | .str _, .int _ => true | .bl _, .str _ => true | .str _, .bl _ => true
  | _, _ => false
def rEq : R2 := fun x y H Q => scal x y = true ∧ Q (.bl (decide (x = y))) H
def rNe : R2 := fun x y H Q => scal x y = true ∧ Q (.bl (!decide (x = y))) H

theorem dec_int {i j : Int} : decide (V.int i = V.int j) = (i == j) := by
  rw [Bool.eq_iff_iff]
  simp
theorem dec_bl {i j : Bool} : decide (V.bl i = V.bl j) = (i == j) := by
  rw [Bool.eq_iff_iff]
  simp
theorem dec_str {i j : Str} : decide (V.str i = V.str j) = (i == j) := by
  rw [Bool.eq_iff_iff]
  simp
theorem dec_byt {i j : Array UInt8} : decide (V.byt i = V.byt j) = (i.toList == j.toList) := by
  rw [Bool.eq_iff_iff]
  cases i
  cases j
  simp

section
variable {X : Cx} {a b c : Expr} {ta tb tc : TE} {pos : Pos}
theorem fin_bl {pins : List (Addr × Obj)} {σ : St} {H : Hp} {s : Shared} {Q : VK} {k k' : Bool} (I : Inv X pins σ H s) (q : Q (.bl k) H) (e : k = k') : EP X pins σ Q (.bool k') s := by
  subst e
  exact ⟨.bl k, H, I, rfl, q⟩
theorem op_eq : OpR X (compareOp .Eq) rEq := by
  intro pins s σ H x y v u Q I rx ry h
  obtain ⟨hs, q⟩ := h
  cases x with
  | non =>
    cases rx
    cases y with
    | non => cases ry; exact PySem.EqNone.eq_none_none (fin_bl I q (by simp))
    | bl j => cases ry; exact PySem.EqNone.eq_none_bool (fin_bl I q (by simp))
    | int j => obtain ⟨t', rfl⟩ := ry; exact PySem.EqNone.eq_none_int (fin_bl I q (by simp))
    | str j => obtain ⟨t', rfl⟩ := ry; exact PySem.EqNone.eq_none_str (fin_bl I q (by simp))
    | _ => exact absurd (show false = true from hs) Bool.false_ne_true
  | bl i =>
    cases rx
    cases y with
    | non => cases ry; exact PySem.EqNone.eq_bool_none (fin_bl I q (by simp))
    | bl j => cases ry; exact eq_bool (fin_bl I q dec_bl)
    | str j => obtain ⟨t', rfl⟩ := ry; exact PySem.EqMixed.eq_bool_str (fin_bl I q (by simp))
    | _ => exact absurd (show false = true from hs) Bool.false_ne_true
  | int i =>
    obtain ⟨t, rfl⟩ := rx
    cases y with
    | non => cases ry; exact PySem.EqNone.eq_int_none (fin_bl I q (by simp))
    | int j => obtain ⟨t', rfl⟩ := ry; exact eq_int (fin_bl I q dec_int)
    | str j => obtain ⟨t', rfl⟩ := ry; exact PySem.EqMixed.eq_int_str (fin_bl I q (by simp))
    | _ => exact absurd (show false = true from hs) Bool.false_ne_true
  | str i =>
    obtain ⟨t, rfl⟩ := rx
    cases y with
    | non => cases ry; exact PySem.EqNone.eq_str_none (fin_bl I q (by simp))
    | bl j => cases ry; exact PySem.EqMixed.eq_str_bool (fin_bl I q (by simp))
    | int j => obtain ⟨t', rfl⟩ := ry; exact PySem.EqMixed.eq_str_int (fin_bl I q (by simp))
    | str j => obtain ⟨t', rfl⟩ := ry; exact eq_str (fin_bl I q dec_str)
    | _ => exact absurd (show false = true from hs) Bool.false_ne_true
  | byt i =>
    obtain ⟨t, rfl⟩ := rx
    cases y with
    | byt j => obtain ⟨t', rfl⟩ := ry; exact PySem.W.eq_bytes (fin_bl I q dec_byt)
    | _ => exact absurd (show false = true from hs) Bool.false_ne_true
  | _ => cases y <;> exact absurd (show false = true from hs) Bool.false_ne_true
theorem op_ne : OpR X (compareOp .NotEq) rNe := by
  intro pins s σ H x y v u Q I rx ry h
  obtain ⟨hs, q⟩ := h
  cases x with
  | non =>
    cases rx
    cases y with
    | non => cases ry; exact PySem.EqNone.ne_none_none (fin_bl I q (by simp))
    | bl j => cases ry; exact PySem.EqNone.ne_none_bool (fin_bl I q (by simp))
    | int j => obtain ⟨t', rfl⟩ := ry; exact PySem.EqNone.ne_none_int (fin_bl I q (by simp))
    | str j => obtain ⟨t', rfl⟩ := ry; exact PySem.EqNone.ne_none_str (fin_bl I q (by simp))
    | _ => exact absurd (show false = true from hs) Bool.false_ne_true
  | bl i =>
    cases rx
    cases y with
    | non => cases ry; exact PySem.EqNone.ne_bool_none (fin_bl I q (by simp))
    | bl j => cases ry; exact ne_bool (fin_bl I q (congrArg not dec_bl))
    | str j => obtain ⟨t', rfl⟩ := ry; exact PySem.EqMixed.ne_bool_str (fin_bl I q (by simp))
    | _ => exact absurd (show false = true from hs) Bool.false_ne_true
  | int i =>
    obtain ⟨t, rfl⟩ := rx
    cases y with
    | non => cases ry; exact PySem.EqNone.ne_int_none (fin_bl I q (by simp))
    | int j => obtain ⟨t', rfl⟩ := ry; exact ne_int (fin_bl I q (congrArg not dec_int))
    | str j => obtain ⟨t', rfl⟩ := ry; exact PySem.EqMixed.ne_int_str (fin_bl I q (by simp))
    | _ => exact absurd (show false = true from hs) Bool.false_ne_true
  | str i =>
    obtain ⟨t, rfl⟩ := rx
    cases y with
    | non => cases ry; exact PySem.EqNone.ne_str_none (fin_bl I q (by simp))
    | bl j => cases ry; exact PySem.EqMixed.ne_str_bool (fin_bl I q (by simp))
    | int j => obtain ⟨t', rfl⟩ := ry; exact PySem.EqMixed.ne_str_int (fin_bl I q (by simp))
    | str j => obtain ⟨t', rfl⟩ := ry; exact ne_str (fin_bl I q (congrArg not dec_str))
    | _ => exact absurd (show false = true from hs) Bool.false_ne_true
  | byt i =>
    obtain ⟨t, rfl⟩ := rx
    cases y with
    | byt j => obtain ⟨t', rfl⟩ := ry; exact PySem.W.ne_bytes (fin_bl I q (congrArg not dec_byt))
    | _ => exact absurd (show false = true from hs) Bool.false_ne_true
  | _ => cases y <;> exact absurd (show false = true from hs) Bool.false_ne_true

theorem op_lt : OpR X (compareOp .Lt) (rI0 fun i j => .bl (decide (i < j))) := opB0 fun _ _ _ _ _ _ _ q => lt_int q
theorem op_le : OpR X (compareOp .LtE) (rI0 fun i j => .bl (decide (i ≤ j))) := opB0 fun _ _ _ _ _ _ _ q => le_int q
theorem op_gt : OpR X (compareOp .Gt) (rI0 fun i j => .bl (decide (j < i))) := opB0 fun _ _ _ _ _ _ _ q => gt_int q
theorem op_ge : OpR X (compareOp .GtE) (rI0 fun i j => .bl (decide (j ≤ i))) := opB0 fun _ _ _ _ _ _ _ q => ge_int q
/-- the one string within the other -/
theorem op_in_str : OpR X (compareOp .In) (fun x y H Q => ∃ i j, x = .str i ∧ y = .str j ∧ Q (.bl (!(Builtin.Str.occurrences j i 0 j.length 1).isEmpty)) H) := by
  intro pins s σ H x y v u Q I rx ry h
  obtain ⟨i, j, rfl, rfl, q⟩ := h
  obtain ⟨t, rfl⟩ := rx
  obtain ⟨t', rfl⟩ := ry
  exact in_str (fin_bl I q rfl)

/-- is None, is not None: the right side a value none -/
theorem op_isN : OpR X (compareOp .Is) (fun x y H Q => y = .non ∧ Q (.bl (decide (x = .non))) H) := by
  intro pins s σ H x y v u Q I rx ry h
  obtain ⟨rfl, q⟩ := h
  cases ry
  refine is_none_gen (fin_bl I q ?_)
  cases x <;> first
    | (cases rx; rfl)
    | (obtain ⟨t, rfl⟩ := rx; rfl)
theorem op_notin_str : OpR X (compareOp .NotIn) (fun x y H Q => ∃ i j, x = .str i ∧ y = .str j ∧ Q (.bl (!(!(Builtin.Str.occurrences j i 0 j.length 1).isEmpty))) H) := by
  intro pins s σ H x y v u Q I rx ry h
  obtain ⟨i, j, rfl, rfl, q⟩ := h
  obtain ⟨t, rfl⟩ := rx
  obtain ⟨t', rfl⟩ := ry
  exact notIn_str (fin_bl I q rfl)
theorem nomark (b : Expr) {op : CmpOp} (h : op ≠ .In := by decide) (h2 : op ≠ .NotIn := by decide) : behindInMarks op b = false := by
  have e1 : (op == CmpOp.In) = false := by cases op <;> first | rfl | exact absurd rfl h
  have e2 : (op == CmpOp.NotIn) = false := by cases op <;> first | rfl | exact absurd rfl h2
  cases b <;> simp [behindInMarks, e1, e2]
/-- a comparison as a value; hm: nomark b, or (for in, not in) by with_unfolding_all rfl -/
theorem pe_cmpR {op : CmpOp} {r : R2} (ho : OpR X (compareOp op) r) (ha : PE X a ta) (hb : PE X b tb) (hm : behindInMarks op b = false) : PE X (.Compare a [op] [b] pos) (tOp r ta tb) := by
  intro pins s σ H Q I h
  exact wpAny_Compare1 (binT ha hb I h fun v u s2 x y H2 I2 rx ry q => ho pins s2 σ H2 x y v u Q I2 rx ry q) hm
/-- a reading of a value as a test -/
def tTest (t : TE) : TT := fun σ H Q => t σ H fun x H' => ∃ k, x = .bl k ∧ Q k H'
theorem pt_cmpR {op : CmpOp} {r : R2} (ho : OpR X (compareOp op) r) (ha : PE X a ta) (hb : PE X b tb) (hm : behindInMarks op b = false) : PT X (.Compare a [op] [b] pos) (tTest (tOp r ta tb)) := by
  intro pins s σ H Q I h
  refine wpAny_isTrue_Compare1 (thn (ha pins s σ H _ I h) fun v s1 ⟨x, H1, I1, r1, q1⟩ => thn (hb pins s1 σ H1 _ I1 q1) fun u s2 ⟨y, H2, I2, r2, q2⟩ =>
    thn (ho pins s2 σ H2 x y v u _ I2 r1 r2 q2) fun c s3 ⟨z, H3, I3, r3, k, e, q3⟩ => ?_) hm
  subst e
  cases r3
  exact wpAny_truthy_bool ⟨H3, I3, q3⟩
/-- a op1 b op2 c -/
def tChain (r r' : R2) (ta tb tc : TE) : TE := fun σ H Q => ta σ H fun x H1 => tb σ H1 fun y H2 => r x y H2 fun z H3 => ∃ k, z = .bl k ∧
  (if k = true then tc σ H3 fun w' H4 => r' y w' H4 Q else Q (.bl false) H3)
theorem pe_chain {op op' : CmpOp} {r r' : R2} (ho : OpR X (compareOp op) r) (ho' : OpR X (compareOp op') r') (ha : PE X a ta) (hb : PE X b tb) (hc : PE X c tc)
    (hm : lastMarks [op, op'] [b, c] = false := by with_unfolding_all rfl) : PE X (.Compare a [op, op'] [b, c] pos) (tChain r r' ta tb tc) := by
  intro pins s σ H Q I h
  refine Compare_chain (thn (ha pins s σ H _ I h) fun v s1 ⟨x, H1, I1, r1, q1⟩ => chain_link (thn (hb pins s1 σ H1 _ I1 q1) fun u s2 ⟨y, H2, I2, r2, q2⟩ =>
    thn (ho pins s2 σ H2 x y v u _ I2 r1 r2 q2) fun d s3 ⟨z, H3, I3, r3, k, e, q3⟩ => ?_)) hm
  subst e
  cases r3
  refine wpAny_truthy_bool ?_
  cases k with
  | false => exact ite_ff ⟨.bl false, H3, I3, rfl, q3⟩
  | true => exact ite_tt (chain_last (thn (hc pins s3 σ H3 _ I3 q3) fun w' s4 ⟨z', H4, I4, r4, q4⟩ => ho' pins s4 σ H4 y z' u w' Q I4 r2 r4 q4))
theorem pt_chain {op op' : CmpOp} {r r' : R2} (ho : OpR X (compareOp op) r) (ho' : OpR X (compareOp op') r') (ha : PE X a ta) (hb : PE X b tb) (hc : PE X c tc)
    (hm : lastMarks [op, op'] [b, c] = false := by with_unfolding_all rfl) : PT X (.Compare a [op, op'] [b, c] pos) (tTest (tChain r r' ta tb tc)) := by
  intro pins s σ H Q I h
  refine isTrue_chain (thn (ha pins s σ H _ I h) fun v s1 ⟨x, H1, I1, r1, q1⟩ => test_link (thn (hb pins s1 σ H1 _ I1 q1) fun u s2 ⟨y, H2, I2, r2, q2⟩ =>
    thn (ho pins s2 σ H2 x y v u _ I2 r1 r2 q2) fun d s3 ⟨z, H3, I3, r3, k, e, q3⟩ => ?_)) hm
  subst e
  cases r3
  refine wpAny_truthy_bool ?_
  cases k with
  | false =>
    obtain ⟨k', e', q'⟩ := q3
    cases e'
    exact ite_ff ⟨H3, I3, q'⟩
  | true =>
    refine ite_tt (test_last (thn (hc pins s3 σ H3 _ I3 q3) fun w' s4 ⟨z', H4, I4, r4, q4⟩ => thn (ho' pins s4 σ H4 y z' u w' _ I4 r2 r4 q4) fun d' s5 ⟨z2, H5, I5, r5, k2, e2, q5⟩ => ?_))
    subst e2
    cases r5
    exact wpAny_truthy_bool ⟨H5, I5, q5⟩

/-! ### truth -/
theorem line63 : (sizeLine : Nat) < 2 ^ 63 := by rw [sizeLine_eq]; decide
/-! ### strs and bytes -/
theorem op_add_str : OpR X (binaryOp .Add) (fun x y H Q => ∃ i j, x = .str i ∧ y = .str j ∧ i.length + j.length ≤ sizeLine ∧ Q (.str (i ++ j)) H) := by
  intro pins s σ H x y v u Q I rx ry h
  obtain ⟨i, j, rfl, rfl, hz, q⟩ := h
  obtain ⟨t, rfl⟩ := rx
  obtain ⟨t', rfl⟩ := ry
  exact add_str (fun t' tk => ⟨.str (i ++ j), H, I.tok _, ⟨_, rfl⟩, q⟩) hz
/-! ### scalar builtins, by CallR -/
theorem vals1 {x : V} {us : List Value} (r : Vals [x] us) : ∃ u, us = [u] ∧ RelV x u := by
  cases r with
  | cons r1 r2 => cases r2; exact ⟨_, rfl, r1⟩
theorem vals2 {x y : V} {us : List Value} (r : Vals [x, y] us) : ∃ u w', us = [u, w'] ∧ RelV x u ∧ RelV y w' := by
  cases r with
  | cons r1 r2 =>
    cases r2 with
    | cons r3 r4 => cases r4; exact ⟨_, _, rfl, r1, r3⟩
theorem call_str_int : CallR X (.type "str") (fun xs H Q => ∃ i, xs = [.int i] ∧ i.natAbs.log2 < 1920 ∧ Q (.str (toString i)) H) := by
  intro pins s σ H xs us Q I r h
  obtain ⟨i, rfl, hz, q⟩ := h
  obtain ⟨u, rfl, t, rfl⟩ := vals1 r
  exact PySem.P.str_of_int hz ⟨.str _, H, I.tok _, ⟨_, rfl⟩, q⟩
end
end L2

namespace L2
open PySem PySem.Spec PyProof.Rows

/-! ### an instance, its attributes a map -/
structure ObjM (h : Heap) (x dx C : Addr) (mA : Str → Option Value) : Prop where
  obj : h.get? x = some (PySem.W.instObj C dx)
  ns : h.Ns1 dx mA
  ne : dx ≠ x

theorem lookIn_ns {h : Heap} {dx : Addr} {mA : Str → Option Value} (n : h.Ns1 dx mA) : ∃ od, h.get? dx = some od ∧ ∀ name, PySem.W.lookIn name od = some (mA name) := by
  obtain ⟨o, es, ep, ho, hd, hk, _, hm⟩ := n
  refine ⟨o, ho, fun name => ?_⟩
  have e := hm name
  unfold nsFind findBy at e
  rw [← Array.find?_toList] at e
  unfold PySem.W.lookIn
  rw [hd]
  dsimp only
  split
  · rename_i y q
    rw [q] at e
    exact congrArg some e
  · rename_i q
    rw [q] at e
    have a : es.toList.any (·.refKey) = false := by
      rw [List.any_eq_false]
      intro y hy
      obtain ⟨z, t, hkey⟩ := hk y (Array.mem_toList_iff.mp hy)
      simp [DictEntry.refKey, hkey]
    have a' : ¬ es.toList.any (·.refKey) = true := by rw [a]; exact Bool.false_ne_true
    rw [if_neg a']
    exact congrArg some e

theorem ObjM.look {h : Heap} {x dx C : Addr} {mA : Str → Option Value} (I : ObjM h x dx C mA) : ∃ od, PySem.W.InstAt h x (PySem.W.instObj C dx) C (some od) ∧ ∀ name, PySem.W.lookIn name od = some (mA name) :=
  let ⟨od, ho, hl⟩ := lookIn_ns I.ns
  ⟨od, ⟨I.obj, rfl, rfl, ho⟩, hl⟩

section
variable {prog : Program} {w : World} {A : Around} {E : Value → Shared → Prop} {s : Shared} {K : PySem.W.Frag} {x dx C f : Addr} {mA : Str → Option Value} {name : Str} {v : Value}

theorem get_map {expr : Bool} {Q : Value → Shared → Prop} (X : K.In s.heap) (I : ObjM s.heap x dx C mA) (hg : PySem.W.plainGet K C name = true) (hh : PySem.W.hasDictIn K C = true)
    (ha : PySem.W.findIn K (.ref C) name = some none) (hv : mA name = some v) (hv' : PySem.W.handedIn v = true) (h : Q v { s with toks := s.toks + 1 }) :
    wpAny (model prog w) A (getAttr (.ref x) name expr) Q E s := by
  obtain ⟨od, J, hl⟩ := I.look
  exact PySem.W.get_value X J (PySem.W.plainGet_of hg).1 (PySem.W.findObj_own hh ha rfl (by rw [hl, hv])) hv' h

theorem get_meth {pl : Sem Bool} {Q : Value × List Value → Shared → Prop} (X : K.In s.heap) (I : ObjM s.heap x dx C mA) (hg : PySem.W.plainGet K C name = true)
    (hf : PySem.W.findIn K (.ref C) name = some (some (.ref f))) (ht : PySem.W.isFn K (.ref f) = true) (hv : mA name = none) (h : Q (.ref f, [.ref x]) s) :
    wpAny (model prog w) A (getMethod (.ref x) name pl) Q E s := by
  obtain ⟨od, J, hl⟩ := I.look
  exact PySem.W.method_fn X J (PySem.W.plainGet_of hg).1 (PySem.W.plainGet_of hg).2 hf (beq_iff_eq.mp ht) (by show (PySem.W.lookIn name od).map (·.isSome) = some false; rw [hl, hv]; rfl) h

theorem set_map {ns : List Str} {Q : Unit → Shared → Prop} (X : K.In s.heap) (I : ObjM s.heap x dx C mA)
    (hs : PySem.W.findIn K (.ref C) "__setattr__" = some (some (.builtin "object.__setattr__"))) (hp : PySem.W.plainOver K C = true) (ht : PySem.W.takerIn K C name = some none) (hh : PySem.W.hasDictIn K C = true)
    (hw : PySem.Within mA ns) (hsz : ns.length ≤ sizeLine)
    (h : ∀ h', ObjM h' x dx C (fun y => if y = name then some v else mA y) → Heap.SameBut dx s.heap h' → Q () { s with heap := h', toks := s.toks + 2 }) :
    wpAny (model prog w) A (setAttr (.ref x) name v) Q E s := by
  obtain ⟨od, J, hl⟩ := I.look
  refine PySem.W.set_plain X J hs (PySem.W.osa_open (s := { s with toks := s.toks + 1 }) (r := none) X J hp ht fun b => ?_)
  obtain ⟨cd, hc, hd'⟩ := PySem.W.any_some hh
  have hx : s.heap.get? x = some ⟨.ref C, some dx, .plain, #[]⟩ := I.obj
  refine wpAny_bind (wpAny_pure (wpAny_bind (wpAny_bind (wpAny_loadPart hx (wpAny_bind (PySem.W.Looks.here (s := { s with toks := s.toks + 1 }) (PySem.W.looks_clsIn X hc) ?_))))))
  rw [hd']
  refine wpAny_pure (a := some dx) (wpAny_bind (wpAny_pure (wpAny_bind ?_)))
  refine wpAny_nsSet1 (s := { s with toks := s.toks + 1 }) I.ns fun h' hn2 hs2 => ?_
  obtain ⟨oD, esD, epD, hoD, hdD, hcD⟩ := hn2.count (PySem.Within.cons name v hw)
  refine wpAny_bind (wpAny_lookBehind hoD (by rw [hdD]; exact pastItsLine_dict (Nat.le_trans hcD (by rw [List.length_cons]; omega))) ?_)
  exact wpAny_pure (h _ ⟨(hs2.2 _ (Ne.symm I.ne)).trans I.obj, hn2, I.ne⟩ hs2)

/-- C(..): the dict at the heap's end, the instance behind it; then its __init__ -/
theorem make_map {R : Result → Shared → Prop} {vs : List Value} {kw : List (Str × Value)} (X : K.In s.heap) (hm : PySem.W.makesIn K C = true)
    (hi : PySem.W.findIn K (.ref C) "__init__" = some (some (.ref f))) (hf : PySem.W.typeIn K (.ref f) = some (.type "function"))
    (h : codeAny (model prog w) (A.under (.builtin "type.__call__" ⟨.ref C :: vs, kw⟩)) (.call (.ref f) ⟨.ref (s.heap.objs.size + 1) :: vs, kw⟩) (PySem.W.InitBack (s.heap.objs.size + 1) R)
      { s with heap := (s.heap.push PySem.W.emptyDict).push (PySem.W.instObj C s.heap.objs.size) }) :
    codeAny (model prog w) A (.call (.ref C) ⟨vs, kw⟩) R s := by
  obtain ⟨hh, g, d, t, os⟩ := s
  exact PySem.W.make_core (PySem.W.makes_of X hm) (PySem.W.looks_findIn X hi) (fun self => PySem.W.bind_fn X self hf) (.inl rfl) h
end

/-! ### the attributes as a list of pairs -/
def putF (f : Str) (v : V) : List (Str × V) → List (Str × V)
  | [] => [(f, v)]
  | (g, x) :: r => if g = f then (g, v) :: r else (g, x) :: putF f v r
theorem lookup_putF (f g : Str) (v : V) : ∀ fs : List (Str × V), (putF f v fs).lookup g = if g = f then some v else fs.lookup g
  | [] => by
    show List.lookup g [(f, v)] = _
    by_cases h : g = f
    · have hb : (g == f) = true := beq_iff_eq.mpr h
      simp only [List.lookup, hb, if_pos h]
    · have hb : (g == f) = false := beq_eq_false_iff_ne.mpr h
      simp only [List.lookup, hb, if_neg h]
  | (k, x) :: r => by
    have ih := lookup_putF f g v r
    rw [show putF f v ((k, x) :: r) = (if k = f then (k, v) :: r else (k, x) :: putF f v r) from rfl]
    by_cases hk : k = f
    · rw [if_pos hk]
      by_cases h : g = k
      · have hb : (g == k) = true := beq_iff_eq.mpr h
        simp only [List.lookup, hb, if_pos (h.trans hk)]
      · have hb : (g == k) = false := beq_eq_false_iff_ne.mpr h
        simp only [List.lookup, hb, if_neg (fun e : g = f => h (e.trans hk.symm))]
    · rw [if_neg hk]
      by_cases h : g = k
      · have hb : (g == k) = true := beq_iff_eq.mpr h
        simp only [List.lookup, hb, if_neg (fun e : g = f => hk (h.symm.trans e))]
      · have hb : (g == k) = false := beq_eq_false_iff_ne.mpr h
        simp only [List.lookup, hb]
        exact ih
theorem keys_putF (f : Str) (v : V) : ∀ fs : List (Str × V), f ∈ (putF f v fs).map (·.1) ∧ ∀ g, g ∈ fs.map (·.1) → g ∈ (putF f v fs).map (·.1)
  | [] => ⟨by simp [putF], fun g h => by simp at h⟩
  | (k, x) :: r => by
    obtain ⟨i1, i2⟩ := keys_putF f v r
    rw [show putF f v ((k, x) :: r) = (if k = f then (k, v) :: r else (k, x) :: putF f v r) from rfl]
    by_cases hk : k = f
    · rw [if_pos hk]
      subst hk
      exact ⟨by simp, fun g h => by simpa using h⟩
    · rw [if_neg hk]
      refine ⟨?_, fun g h => ?_⟩
      · rw [List.map_cons]
        exact List.mem_cons_of_mem _ i1
      · rw [List.map_cons] at h ⊢
        rcases List.mem_cons.mp h with e | e
        · exact List.mem_cons.mpr (.inl e)
        · exact List.mem_cons_of_mem _ (i2 g e)
theorem length_putF (f : Str) (v : V) : ∀ fs : List (Str × V), (putF f v fs).length ≤ fs.length + 1
  | [] => by simp [putF]
  | (k, x) :: r => by
    have ih := length_putF f v r
    rw [show putF f v ((k, x) :: r) = (if k = f then (k, v) :: r else (k, x) :: putF f v r) from rfl]
    by_cases hk : k = f
    · rw [if_pos hk, List.length_cons, List.length_cons]; omega
    · rw [if_neg hk, List.length_cons, List.length_cons]; omega

theorem RelO.some_of {v : V} {o : Option Value} (r : RelO (some v) o) : ∃ u, o = some u ∧ RelV v u := by
  cases o with
  | none => exact (show False from r).elim
  | some u => exact ⟨u, rfl, r⟩
theorem RelO.none_of {o : Option Value} (r : RelO none o) : o = none := by
  cases o with
  | none => rfl
  | some u => exact (show False from r).elim
theorem handed_of {v : V} {u : Value} (r : RelV v u) : PySem.W.handedIn u = true := by
  cases v with
  | non => cases (show u = Value.none from r); rfl
  | bl b => cases (show u = Value.bool b from r); rfl
  | int i => obtain ⟨t, e⟩ := (show ∃ t, u = Value.int i t from r); cases e; rfl
  | str x => obtain ⟨t, e⟩ := (show ∃ t, u = Value.str x t from r); cases e; rfl
  | byt b => obtain ⟨t, e⟩ := (show ∃ t, u = Value.bytes b t from r); cases e; rfl
  | flt b => obtain ⟨t, e⟩ := (show ∃ t, u = Value.float b t from r); cases e; rfl
  | ref a => cases (show u = Value.ref a from r); rfl
  | ty n => cases (show u = Value.type n from r); rfl

section
variable {P : Program} {w : World} {H H' : Hp} {h h' : Heap} {a C dx : Addr} {fs fs' : List (Str × V)}
theorem ins_get (hok : HOk P w H h) (e : H a = some (.ins C dx fs)) : ∃ mA, ObjM h a dx C mA ∧ (∀ f, RelO (fs.lookup f) (mA f)) ∧ PySem.Within mA (fs.map (·.1)) ∧ fs.length ≤ 1000 ∧ H dx = some (.own a) := by
  obtain ⟨d, z, ne, ob, mA, n, r, q⟩ := (show ObjOk P w H h a (.ins C dx fs) from hok a _ e)
  exact ⟨mA, ⟨ob, n, ne⟩, r, q, z, d⟩
end

/-! ### what of the text a class must have -/
structure Cls (K : PySem.W.Frag) (C : Addr) : Prop where
  pg : PySem.W.plainGet K C Str.empty = true
  hd : PySem.W.hasDictIn K C = true
  po : PySem.W.plainOver K C = true
  sa : PySem.W.findIn K (.ref C) "__setattr__" = some (some (.builtin "object.__setattr__"))
theorem Cls.get {K : PySem.W.Frag} {C : Addr} (c : Cls K C) (f : Str) : PySem.W.plainGet K C f = true := c.pg
/-- no class of it has the name -/
def NoAttr (K : PySem.W.Frag) (C : Addr) (f : Str) : Prop := PySem.W.findIn K (.ref C) f = some none
theorem NoAttr.taker {K : PySem.W.Frag} {C : Addr} {f : Str} (n : NoAttr K C f) : PySem.W.takerIn K C f = some none := by
  unfold PySem.W.takerIn
  rw [show PySem.W.findIn K (.ref C) f = some none from n]
  rfl
/-- a method: a plain def of the class or of one above it -/
structure Meth (K : PySem.W.Frag) (C : Addr) (m : Str) (f : Addr) : Prop where
  at_ : PySem.W.findIn K (.ref C) m = some (some (.ref f))
  fn : PySem.W.isFn K (.ref f) = true
  kp : PySem.W.keepIn K (.ref f) = true

section
variable {X : Cx} {pins : List (Addr × Obj)} {σ : St} {H : Hp} {s : Shared} {a C dx : Addr} {fs : List (Str × V)} {f : Str} {v : V} {A : Around} {E : Value → Shared → Prop}

theorem getattr_ok {b : Bool} {Q : Value → Shared → Prop} (I : Inv X pins σ H s) (e : H a = some (.ins C dx fs)) (c : Cls X.K C) (n : NoAttr X.K C f) (l : fs.lookup f = some v)
    (h : ∀ u s', Inv X pins σ H s' → RelV v u → Q u s') : wpAny (model X.prog X.w) A (getAttr (.ref a) f b) Q E s := by
  obtain ⟨mA, O, r, _, _, _⟩ := ins_get I.hok e
  obtain ⟨u, hu, ru⟩ := RelO.some_of (v := v) (o := mA f) (by rw [← l]; exact r f)
  exact get_map I.kIn O (c.get f) c.hd n hu (handed_of ru) (h u _ (I.tok _) ru)

theorem getmeth_ok {m : Str} {g : Addr} {pl : Sem Bool} {Q : Value × List Value → Shared → Prop} (I : Inv X pins σ H s) (e : H a = some (.ins C dx fs)) (c : Cls X.K C) (k : Meth X.K C m g) (l : fs.lookup m = none)
    (h : Q (.ref g, [.ref a]) s) : wpAny (model X.prog X.w) A (getMethod (.ref a) m pl) Q E s := by
  obtain ⟨mA, O, r, _, _, _⟩ := ins_get I.hok e
  have hn : mA m = none := RelO.none_of (by rw [← l]; exact r m)
  exact get_meth I.kIn O (c.get m) k.at_ k.fn hn h

theorem setattr_ok {y : V} {u : Value} {Q : Unit → Shared → Prop} (I : Inv X pins σ H s) (e : H a = some (.ins C dx fs)) (c : Cls X.K C) (n : NoAttr X.K C f) (hl : fs.length < 1000) (ry : RelV y u)
    (h : ∀ s', Inv X pins σ (upd H a (.ins C dx (putF f y fs))) s' → Q () s') : wpAny (model X.prog X.w) A (setAttr (.ref a) f u) Q E s := by
  obtain ⟨mA, O, r, wi, _, ho⟩ := ins_get I.hok e
  have hz : (fs.map (·.1)).length ≤ sizeLine := by rw [List.length_map, sizeLine_eq]; omega
  refine set_map I.kIn O c.sa c.po n.taker c.hd wi hz fun h' O' sb => h _ ?_
  have hd : ∃ o, h'.get? dx = some o := let ⟨o, _, _, e', _⟩ := O'.ns; ⟨o, e'⟩
  refine I.write (x := a) (e := dx) (by rw [e]; exact True.intro) (.inr ho) (fun b q hb z => (sb.2 b hb).trans z) hd ?_
  refine ⟨by rw [upd_ne O.ne]; exact ho, ?_, O.ne, O'.obj, _, O'.ns, fun g => ?_, fun g hg => ?_⟩
  · have := length_putF f y fs; omega
  · show RelO ((putF f y fs).lookup g) (if g = f then some u else mA g)
    rw [lookup_putF]
    by_cases q : g = f
    · rw [if_pos q, if_pos q]; exact ry
    · rw [if_neg q, if_neg q]; exact r g
  · by_cases q : g = f
    · rw [q]; exact (keys_putF f y fs).1
    · refine (keys_putF f y fs).2 g (wi g fun z => hg ?_)
      show (if g = f then some u else mA g) = none
      rw [if_neg q]; exact z

/-- a new instance, tracked, without attributes -/
theorem Inv.made (I : Inv X pins σ H s) : Inv X pins σ (upd (upd H s.heap.objs.size (.own (s.heap.objs.size + 1))) (s.heap.objs.size + 1) (.ins C s.heap.objs.size []))
    { s with heap := (s.heap.push PySem.W.emptyDict).push (PySem.W.instObj C s.heap.objs.size) } := by
  have e1 : (s.heap.push PySem.W.emptyDict).get? s.heap.objs.size = some PySem.W.emptyDict := Heap.get?_push_size s.heap rfl
  have e2 : ((s.heap.push PySem.W.emptyDict).push (PySem.W.instObj C s.heap.objs.size)).get? (s.heap.objs.size + 1) = some (PySem.W.instObj C s.heap.objs.size) := by
    have := Heap.get?_push_size (s.heap.push PySem.W.emptyDict) (o := PySem.W.instObj C s.heap.objs.size) rfl
    rwa [Heap.size_push] at this
  have e3 : (s.heap.push PySem.W.emptyDict).Ns s.heap.objs.size (fun _ => none) := ⟨PySem.W.emptyDict, #[], _, e1, rfl, (fun e he => absurd he (by simp)), fun _ => rfl⟩
  have I1 := I.laid (a := s.heap.objs.size) (o := .own (s.heap.objs.size + 1)) (h' := s.heap.push PySem.W.emptyDict) (t' := s.toks) (fun b u q => Heap.get?_push_of_some _ q) (Nat.le_refl _) ⟨_, e1⟩
  refine I1.laid (a := s.heap.objs.size + 1) (o := .ins C s.heap.objs.size []) (t' := s.toks) (fun b u q => Heap.get?_push_of_some _ q) (Nat.le_of_eq (Heap.size_push _ _)) ?_
  have ne : s.heap.objs.size ≠ s.heap.objs.size + 1 := Nat.ne_of_lt (Nat.lt_succ_self _)
  refine ⟨by rw [upd_ne ne, upd_same], Nat.zero_le _, ne, e2, fun _ => none, (Heap.Ns1.of_empty e3).at fun o q => Heap.get?_push_of_some _ q, fun _ => True.intro, fun y hy => absurd rfl hy⟩

/-- e.f where nothing but the object is asked: through attributeBase (super) and the last hold -/
theorem attr_of {prog : Program} {w : World} {env : Env} {e : Expr} {f : Str} {pos : Pos} {s : Shared} {Q : Value → Shared → Prop} (hb : attributeBase e f env (eval e env) = eval e env)
    (h : wpAny (model prog w) A (eval e env) (fun o s₁ => wpAny (model prog w) A (getAttr o f true) Q E s₁) E s) : wpAny (model prog w) A (eval (.Attribute e f pos) env) Q E s :=
  Attribute_any_ h (by rw [arm_eval_Attribute, hb])
end

/-! ### readings and rules -/
/-- e.f, an attribute of the instance -/
def tFld (K : PySem.W.Frag) (ta : TE) (f : Str) : TE := fun σ H Q => ta σ H fun x H1 => ∃ a C dx fs v, x = .ref a ∧ H1 a = some (.ins C dx fs) ∧ Cls K C ∧ NoAttr K C f ∧ fs.lookup f = some v ∧ Q v H1
/-- e.f = value -/
def sFld (K : PySem.W.Frag) (ta tv : TE) (f : Str) : TS := fun D σ H => tv σ H fun y H1 => ta σ H1 fun x H2 => ∃ a C dx fs, x = .ref a ∧ H2 a = some (.ins C dx fs) ∧ Cls K C ∧ NoAttr K C f ∧ fs.length < 1000 ∧
  D.nx σ (upd H2 a (.ins C dx (putF f y fs)))
/-- an augmented operator on two values -/
def InOp (X : Cx) (op : Operator) (rd : V → V → Hp → VK → Prop) : Prop :=
  ∀ (pins : List (Addr × Obj)) (s : Shared) (σ : St) (H : Hp) (x y : V) (u v : Value) (Q : VK), Inv X pins σ H s → RelV x u → RelV y v → rd x y H Q → wpAny (model X.prog X.w) X.A (inplaceOp op u v) (EP X pins σ Q) X.xe s
/-- e.f op= value -/
def sFldAug (K : PySem.W.Frag) (ta tv : TE) (rd : V → V → Hp → VK → Prop) (f : Str) : TS := fun D σ H => ta σ H fun x H1 => ∃ a C dx fs v, x = .ref a ∧ H1 a = some (.ins C dx fs) ∧ Cls K C ∧ NoAttr K C f ∧ fs.lookup f = some v ∧
  tv σ H1 fun y H2 => rd v y H2 fun z H3 => ∃ dx' fs', H3 a = some (.ins C dx' fs') ∧ fs'.length < 1000 ∧ D.nx σ (upd H3 a (.ins C dx' (putF f z fs')))

section
variable {X : Cx} {o e value : Expr} {f : Str} {pos pos' tpos : Pos} {ta tv : TE}
theorem pe_fld (he : PE X e ta) (hb : attributeBase e f X.env (eval e X.env) = eval e X.env) : PE X (.Attribute e f pos) (tFld X.K ta f) := by
  intro pins s σ H Q I h
  refine attr_of hb (thn (he pins s σ H _ I h) fun u s1 ⟨x, H1, I1, rx, a, C, dx, fs, v, ex, ea, c, n, l, q⟩ => ?_)
  subst ex
  obtain rfl : u = Value.ref a := rx
  exact getattr_ok I1 ea c n l fun u' s2 I2 ru => ⟨v, H1, I2, ru, q⟩
theorem ps_fld (ha : PE X o ta) (hv : PE X value tv) (hs : swapsWith value (some (.Attribute o f pos')) pos.line X.env = pure false) : PS X (.Assign [.Attribute o f pos'] value pos) (sFld X.K ta tv f) := by
  intro pins s σ H D I h
  refine plainObj_wpAny_Assign_Attribute (thn (hv pins s σ H _ I h) fun u s1 ⟨y, H1, I1, ry, q⟩ => thn (ha pins s1 σ H1 _ I1 q) fun ov s2 ⟨x, H2, I2, rx, a, C, dx, fs, ex, ea, c, n, l, q2⟩ => ?_) hs
  subst ex
  obtain rfl : ov = Value.ref a := rx
  exact setattr_ok I2 ea c n l ry fun s3 I3 => ⟨σ, _, I3, q2⟩
theorem ps_fldaug {op : Operator} {rd : V → V → Hp → VK → Prop} (ha : PE X o ta) (hv : PE X value tv) (hop : InOp X op rd) : PS X (.AugAssign (.Attribute o f tpos) op value pos) (sFldAug X.K ta tv rd f) := by
  intro pins s σ H D I h
  refine wpAny_AugAssign_AttributeAny (thn (ha pins s σ H _ I h) fun ov s1 ⟨x, H1, I1, rx, a, C, dx, fs, v, ex, ea, c, n, l, q⟩ => ?_)
  subst ex
  obtain rfl : ov = Value.ref a := rx
  refine getattr_ok I1 ea c n l fun u s2 I2 ru => thn (hv pins s2 σ H1 _ I2 q) fun w3 s3 ⟨y, H2, I3, ry, q3⟩ => thn (hop pins s3 σ H2 v y u w3 _ I3 ru ry q3) fun w4 s4 ⟨z, H3, I4, rz, dx', fs', ea', l', q4⟩ => ?_
  exact setattr_ok I4 ea' c n l' rz fun s5 I5 => ⟨σ, _, I5, q4⟩
def rAdd : V → V → Hp → VK → Prop := fun x y H Q => ∃ i j, x = .int i ∧ y = .int j ∧ Q (.int (i + j)) H
theorem in_add : InOp X .Add rAdd := by
  rintro pins s σ H x y u v Q I rx ry ⟨i, j, rfl, rfl, q⟩
  obtain ⟨t, rfl⟩ := (show ∃ t, u = Value.int i t from rx)
  obtain ⟨t', rfl⟩ := (show ∃ t', v = Value.int j t' from ry)
  exact PyProof.Rows.iadd_int ⟨.int (i + j), H, I.tok _, ⟨_, rfl⟩, q⟩
end

/-! ### isinstance -/
section
variable {X : Cx} {pins : List (Addr × Obj)} {σ : St} {H : Hp} {s : Shared} {A : Around} {E : Value → Shared → Prop} {Q : Value → Shared → Prop} {c : Value} {b : Bool}
/-- the type of a value, as the fragment's deciders take it; for an instance its class -/
inductive TyOf (K : PySem.W.Frag) (H : Hp) : V → Value → Prop where
  | non : TyOf K H .non (.type "NoneType")
  | bl (x : Bool) : TyOf K H (.bl x) (.type "bool")
  | int (i : Int) : TyOf K H (.int i) (.type "int")
  | str (x : Str) : TyOf K H (.str x) (.type "str")
  | flt (x : UInt64) : TyOf K H (.flt x) (.type "float")
  | lst {a : Addr} {xs : List V} (e : H a = some (.lst xs)) : TyOf K H (.ref a) (.type "list")
  | frz {a : Addr} {o : Obj} {xs : List V} (e : H a = some (.frz o (.lst xs))) : TyOf K H (.ref a) (.type "list")
  | tup {a : Addr} {xs : List V} (e : H a = some (.tup xs)) : TyOf K H (.ref a) (.type "tuple")
  | dK {a : Addr} {kvs : List (Key × V)} (e : H a = some (.dK kvs)) : TyOf K H (.ref a) (.type "dict")
  | dT {a : Addr} {kvs : List (List Key × V)} (e : H a = some (.dT kvs)) : TyOf K H (.ref a) (.type "dict")
  | ins {a C dx : Addr} {fs : List (Str × V)} (e : H a = some (.ins C dx fs)) (cl : Cls K C) (ha : PySem.W.findIn K (.ref C) "__class__" = some (some (.builtin "object.__class__")))
      (hn : PySem.W.specialIn K (.builtin "object.__class__") "__get__" = some (some (.builtin "getset_descriptor.__get__"))) (htk : PySem.W.takesIn K (.builtin "object.__class__") = some true)
      (hm : PySem.W.mroIn K C (.type "object") = some true) : TyOf K H (.ref a) (.ref C)
/-- isinstance(x, c) for one class c, a built-in or an own one: kitOne's answer -/
theorem isinst_ok {x : V} {u t : Value} (I : Inv X pins σ H s) (rx : RelV x u) (ty : TyOf X.K H x t) (e : PySem.W.kitOne X.K t c = some b) (h : ∀ tk, Q (.bool b) { s with toks := tk }) :
    wpAny (model X.prog X.w) A (call (.builtin "isinstance") [u, c]) Q E s := by
  cases ty with
  | non => cases (show u = Value.none from rx); exact PySem.W.kia_one PySem.W.kitx_none I.kIn True.intro e (fun z => nomatch z) h
  | bl y => cases (show u = Value.bool y from rx); exact PySem.W.kia_one PySem.W.kitx_bool I.kIn True.intro e (fun z => nomatch z) h
  | int i => obtain ⟨t, q⟩ := (show ∃ t, u = Value.int i t from rx); cases q; exact PySem.W.kia_one PySem.W.kitx_int I.kIn True.intro e (fun z => nomatch z) h
  | str y => obtain ⟨t, q⟩ := (show ∃ t, u = Value.str y t from rx); cases q; exact PySem.W.kia_one PySem.W.kitx_str I.kIn True.intro e (fun z => nomatch z) h
  | flt y => obtain ⟨t, q⟩ := (show ∃ t, u = Value.float y t from rx); cases q; exact PySem.W.kia_one PySem.W.kitx_float I.kIn True.intro e (fun z => nomatch z) h
  | @lst a xs ea =>
    cases (show u = Value.ref a from rx)
    obtain ⟨_, _, n, _, h1⟩ := (show ObjOk X.prog X.w H s.heap a (.lst xs) from I.hok a _ ea)
    exact PySem.W.kia_one PySem.W.kitx_list I.kIn ⟨_, h1, rfl⟩ e (fun z => nomatch z) h
  | @frz a ob xs ea =>
    cases (show u = Value.ref a from rx)
    obtain ⟨_, _, _, n, _, h1⟩ := (show ObjOk X.prog X.w H s.heap a (.frz ob (.lst xs)) from I.hok a _ ea)
    exact PySem.W.kia_one PySem.W.kitx_list I.kIn ⟨_, h1, rfl⟩ e (fun z => nomatch z) h
  | @tup a xs ea =>
    cases (show u = Value.ref a from rx)
    obtain ⟨_, _, _, p⟩ := (show ObjOk X.prog X.w H s.heap a (.tup xs) from I.hok a _ ea)
    obtain ⟨o, h1, h2, _⟩ := p
    exact PySem.W.kia_one PySem.W.kitx_tuple I.kIn ⟨o, h1, h2⟩ e (fun z => nomatch z) h
  | @dK a kvs ea =>
    cases (show u = Value.ref a from rx)
    obtain ⟨_, _, vs, _, p⟩ := (show ObjOk X.prog X.w H s.heap a (.dK kvs) from I.hok a _ ea)
    obtain ⟨o, es, ep, h1, h2, _⟩ := p
    exact PySem.W.kia_one PySem.W.kitx_dict I.kIn ⟨o, h1, h2.1⟩ e (fun z => nomatch z) h
  | @dT a kvs ea =>
    cases (show u = Value.ref a from rx)
    obtain ⟨_, _, xs, _, o, es, ep, h1, h2, _⟩ := (show ObjOk X.prog X.w H s.heap a (.dT kvs) from I.hok a _ ea)
    exact PySem.W.kia_one PySem.W.kitx_dict I.kIn ⟨o, h1, h2.1⟩ e (fun z => nomatch z) h
  | @ins a C dx fs ea cl ha hn htk hm =>
    cases (show u = Value.ref a from rx)
    obtain ⟨mA, O, _⟩ := ins_get I.hok ea
    obtain ⟨od, J, _⟩ := O.look
    exact PySem.W.kia_one (PySem.W.kitx_own (cl.get _) cl.hd ha hn htk hm) I.kIn J e (fun z => nomatch z) h
end
end L2

namespace L2
open PySem PySem.Spec PyProof.Rows

/-! ### room -/
structure Room (k : Nat) (A : Around) : Prop where
  hd : A.handled = none
  dp : A.depth + 3 * k + 5 < recursionLimit
  un : A.units + 16 * k + 200 < cLine
theorem Room.mono {j k : Nat} {A : Around} (r : Room k A) (h : j ≤ k) : Room j A := ⟨r.hd, by have := r.dp; omega, by have := r.un; omega⟩
theorem Room.deeper {k : Nat} {A : Around} (r : Room (k + 1) A) (env : Env) : Room k (A.deeper env) :=
  ⟨r.hd, by have := r.dp; show A.depth + 1 + 3 * k + 5 < _; omega, by have := r.un; show A.units + 3 + 16 * k + 200 < _; omega⟩
theorem make_depth {A : Around} {C : Addr} {us : List Value} {kw : List (Str × Value)} : (A.under (.builtin "type.__call__" ⟨.ref C :: us, kw⟩)).depth = A.depth + 1 := by
  first | rfl | simp [Around.under, Code.weight, Code.isCreation, Code.isGuard, Code.isCaller, Code.frames, Code.isFrame, guardIds]
theorem make_units {A : Around} {C : Addr} {us : List Value} {kw : List (Str × Value)} : (A.under (.builtin "type.__call__" ⟨.ref C :: us, kw⟩)).units = A.units + 1 := by
  first | rfl | simp [Around.under, Code.cUnits, Code.frames, Code.isFrame]
theorem Room.make {k : Nat} {A : Around} (r : Room (k + 1) A) (C : Addr) (us : List Value) (kw : List (Str × Value)) : Room k (A.under (.builtin "type.__call__" ⟨.ref C :: us, kw⟩)) :=
  ⟨r.hd, by have := r.dp; rw [make_depth]; omega, by have := r.un; rw [make_units]; omega⟩
theorem Room.depth {k : Nat} {A : Around} (r : Room k A) : A.depth < recursionLimit := by have := r.dp; omega
theorem Room.units {k : Nat} {A : Around} (r : Room k A) : A.units + 64 < cLine := by have := r.un; omega
/-! ### argument lists and displays -/
def tNil : TA := fun _ H Q => Q [] H
def tCons (ta : TE) (tr : TA) : TA := fun σ H Q => ta σ H fun x H1 => tr σ H1 fun xs H2 => Q (x :: xs) H2
section
variable {X : Cx} {e : Expr} {es : List Expr} {te : TE} {t : TA} {pos : Pos}
theorem pa_nil : PA X [] tNil := fun _ _ _ _ H Q I h => Calls.spliced_nil ⟨[], H, I, .nil, h⟩
theorem pa_cons (ha : PE X e te) (hr : PA X es t) (hs : starEach (e :: es) X.env = (false, eval e X.env) :: starEach es X.env := by rfl) : PA X (e :: es) (tCons te t) := by
  intro pos pins s σ H Q I h
  rw [hs]
  show wpAny _ _ (spliced ((false, eval e X.env) :: backTo pos (starEach es X.env))) _ _ s
  refine Calls.spliced_cons (thn (ha pins s σ H _ I h) fun u s1 ⟨x, H1, I1, r1, q1⟩ => ?_)
  exact thn (hr pos pins s1 σ H1 _ I1 q1) fun us s2 ⟨xs, H2, I2, r2, q2⟩ => ⟨x :: xs, H2, I2, .cons r1 r2, q2⟩

/-- a tuple, a list of written items -/
def tTup (t : TA) : TE := fun σ H Q => t σ H fun xs H1 => xs.length ≤ sizeLine ∧ ∀ p, H1 p = none → Q (.ref p) (upd H1 p (.tup xs))
def tLst (t : TA) : TE := fun σ H Q => t σ H fun xs H1 => xs.length ≤ sizeLine ∧ ∀ p, H1 p = none → Q (.ref p) (upd H1 p (.lst xs))
theorem pe_tup {x1} (h : PA X es t) : PE X (.Tuple es x1 pos) (tTup t) := by
  intro pins s σ H Q I hq
  refine wpAny_Tuple_spliced (thn (h pos pins s σ H _ I hq) fun us s1 ⟨xs, H1, I1, r, z, q⟩ => ⟨by rw [← r.length]; exact z, ?_⟩)
  have hf : H1 s1.heap.objs.size = none := I1.hok.fresh (Nat.le_refl _)
  refine ⟨.ref s1.heap.objs.size, upd H1 s1.heap.objs.size (.tup xs), I1.laid (t' := s1.toks) (fun b u e => Heap.get?_push_of_some _ e) (Nat.le_refl _) ?_, rfl, q _ hf⟩
  exact ⟨z, us, r, ⟨_, Heap.get?_push_size _ rfl, rfl, _, rfl⟩⟩
theorem pe_lst (h : PA X es t) : PE X (.List es pos) (tLst t) := by
  intro pins s σ H Q I hq
  refine wpAny_List_spliced (thn (h pos pins s σ H _ I hq) fun us s1 ⟨xs, H1, I1, r, z, q⟩ => ⟨by rw [← r.length]; exact z, ?_⟩)
  have hf : H1 s1.heap.objs.size = none := I1.hok.fresh (Nat.le_refl _)
  refine ⟨.ref s1.heap.objs.size, upd H1 s1.heap.objs.size (.lst xs), I1.laid (t' := s1.toks) (fun b u e => Heap.get?_push_of_some _ e) (Nat.le_refl _) ?_, rfl, q _ hf⟩
  exact ⟨z, us, 0, r, Heap.get?_push_size _ rfl⟩
end

/-! ### what a def promises -/
/-- a def's promise: the bound arguments in the parameters' order, the heap, the wanted end, the wanted exception -/
abbrev Sp := List V → Hp → VK → XK → Prop
/-- how an exception lies behind a call (file 08 gives it): the callers' frames, abstract heap and state ahead of the call, the wish, the exception, the state -/
abbrev CXT := List Env → Hp → Shared → XK → Value → Shared → Prop

/-- the state at a call -/
structure Env0 (P : Program) (w : World) (K : PySem.W.Frag) (mg : Str → Option Value) (base : Heap) (A : Around) (outer : List Env) (s : Shared) (H : Hp) : Prop where
  frames : A.frames = some outer
  mod : Mod K mg base
  bs : ∀ b o, base.get? b = some o → s.heap.get? b = some o ∧ H b = none
  bsz : base.objs.size ≤ s.heap.objs.size
  funs : s.heap.FunFrames base outer
  frf : ∀ b ∈ frs outer, H b = none
  hok : HOk P w H s.heap
  bare : AllBare s.gens
/-- a call's end -/
def CE (outer : List Env) (P : Program) (w : World) (H : Hp) (s : Shared) (Q : VK) (u : Value) (s' : Shared) : Prop :=
  ∃ v H', s'.os = s.os ∧ AllBare s'.gens ∧ Un (frs outer) [] H H' s.heap s'.heap ∧ HOk P w H' s'.heap ∧ RelV v u ∧ Q v H'
def CR (CX : CXT) (outer : List Env) (P : Program) (w : World) (H : Hp) (s : Shared) (Q : VK) (E : XK) (r : Result) (s' : Shared) : Prop :=
  match r with
  | .ok (.ret u) => CE outer P w H s Q u s'
  | .ok _ => False
  | .error e => CX outer H s E e s'
structure FnOk (P : Program) (w : World) (K : PySem.W.Frag) (mg : Str → Option Value) (base : Heap) (CX : CXT) (k : Nat) (f : Addr) (fd : FuncData) (ps : List Str) (sp : Sp) : Prop where
  len : ∀ vs H Q E, sp vs H Q E → vs.length = ps.length
  run : ∀ (A : Around) (outer : List Env) (s : Shared) (H : Hp) (args : Args) (us : List Value) (vs : List V) (Q : VK) (E : XK), Room k A → Env0 P w K mg base A outer s H → BindsTo s fd args (ps.zip us) → Vals vs us → sp vs H Q E →
    codeAny (model P w) A (.call (.ref f) args) (CR CX outer P w H s Q E) s
theorem Env0.make {P : Program} {w : World} {K : PySem.W.Frag} {mg : Str → Option Value} {base : Heap} {A : Around} {outer : List Env} {s : Shared} {H : Hp} (e : Env0 P w K mg base A outer s H) (C : Addr) (us : List Value) (kw : List (Str × Value)) :
    Env0 P w K mg base (A.under (.builtin "type.__call__" ⟨.ref C :: us, kw⟩)) outer s H := ⟨by first | exact e.frames | (simpa [Around.under, Code.envs, Code.isFrame, pushEnvs] using e.frames), e.mod, e.bs, e.bsz, e.funs, e.frf, e.hok, e.bare⟩
section
variable {X : Cx} {pins : List (Addr × Obj)} {σ : St} {H : Hp} {s s' : Shared}
/-- from a body: what a callee wants -/
theorem Inv.env0 (I : Inv X pins σ H s) : Env0 X.prog X.w X.K X.mg X.base X.A X.stack s H :=
  ⟨I.ok.frames, I.ok.mod, I.bs, Nat.le_trans I.ok.bsz I.sz, I.stack, I.stkFree, I.hok, I.bare⟩
/-- behind a call -/
theorem Inv.after {Q : VK} {u : Value} (I : Inv X pins σ H s) (h : CE X.stack X.prog X.w H s Q u s') : EP X pins σ Q u s' := by
  obtain ⟨v, H', os, bare, un, hok, r, q⟩ := h
  obtain ⟨hh, g, d, t, os'⟩ := s'
  obtain rfl : os' = s.os := os
  exact ⟨v, H', I.call (h' := hh) (g' := g) (d' := d) (t' := t) (ch := []) un hok bare (fun b z => absurd z (by simp)), r, q⟩
end

/-! ### calls -/
/-- f(..): the written arguments, then the defaults dvs; E: what is wanted of an exception -/
def tCall (sp : Sp) (dvs : List V) (E : XK) (t : TA) : TE := fun σ H Q => t σ H fun vs H1 => sp (vs ++ dvs) H1 Q E
/-- o.m(..) of an instance of the class at C -/
def tMeth (C : Addr) (m : Str) (sp : Sp) (dvs : List V) (E : XK) (ta : TE) (t : TA) : TE := fun σ H Q => ta σ H fun x H1 => ∃ a dx fs, x = .ref a ∧ H1 a = some (.ins C dx fs) ∧ fs.lookup m = none ∧
  t σ H1 fun vs H2 => sp (x :: (vs ++ dvs)) H2 Q E
/-- C(..): a new instance and its dict, then __init__ -/
def tMake (C : Addr) (sp : Sp) (dvs : List V) (E : XK) (t : TA) : TE := fun σ H Q => t σ H fun vs H1 => ∀ x dx, H1 x = none → H1 dx = none → dx ≠ x →
  sp (.ref x :: (vs ++ dvs)) (upd (upd H1 dx (.own x)) x (.ins C dx [])) (fun v H2 => v = .non ∧ Q (.ref x) H2) E

/-- how the parameters are bound: us the positional arguments, kw the keywords' values by name, ds the defaults that fill up -/
def Binds (K : PySem.W.Frag) (fd : FuncData) (ps : List Str) (ds : List Value) : Prop :=
  ∀ (s : Shared) (us : List Value), K.In s.heap → (us ++ ds).length = ps.length → BindsTo s fd ⟨us, []⟩ (ps.zip (us ++ ds))
/-- every parameter is given -/
theorem Binds.all {K : PySem.W.Frag} {fd : FuncData} {ps : List Str} (h : ∀ us : List Value, us.length = ps.length → bindArgs fd ⟨us, []⟩ = pure (ps.zip us)) : Binds K fd ps [] := fun s us _ hl => by
  rw [List.append_nil] at hl ⊢
  exact .of_eq (h us hl)

/-- an exception of a callee reaches what this body wants of exceptions -/
def Passes (CX : CXT) (X : Cx) (E : XK) : Prop := ∀ (pins : List (Addr × Obj)) (σ : St) (H : Hp) (s : Shared) (e : Value) (s' : Shared), Inv X pins σ H s → CX X.stack H s E e s' → X.xe e s'

section
variable {X : Cx} {CX : CXT} {k : Nat} {f C : Addr} {fd : FuncData} {ps : List Str} {sp : Sp} {dvs : List V} {ds : List Value} {E : XK} {x m : Str} {p pos apos : Pos} {e o : Expr} {es : List Expr} {ta : TE} {t : TA}

/-- the callee runs -/
theorem run_fn {pins : List (Addr × Obj)} {σ : St} {H : Hp} {s : Shared} {Q : VK} {us : List Value} {vs : List V} (F : FnOk X.prog X.w X.K X.mg X.base CX k f fd ps sp) (hr : Room k X.A) (hb : Binds X.K fd ps ds) (hd : Vals dvs ds) (hx : Passes CX X E)
    (I : Inv X pins σ H s) (r : Vals vs us) (h : sp (vs ++ dvs) H Q E) : wpAny (model X.prog X.w) X.A (call (.ref f) us) (EP X pins σ Q) X.xe s := by
  have r2 : Vals (vs ++ dvs) (us ++ ds) := r.append hd
  have hl : (us ++ ds).length = ps.length := by rw [← r2.length]; exact F.len _ _ _ _ h
  refine wpAny_call (codeAny_mono (F.run X.A X.stack s H ⟨us, []⟩ (us ++ ds) (vs ++ dvs) Q E hr I.env0 (hb s us I.kIn hl) r2 h) fun r s' hq => ?_)
  cases r with
  | error e => exact hx pins σ H s e s' I hq
  | ok fl =>
    cases fl with
    | ret u => exact I.after hq
    | next => exact False.elim hq
    | brk => exact False.elim hq
    | cont => exact False.elim hq

theorem pe_call (F : FnOk X.prog X.w X.K X.mg X.base CX k f fd ps sp) (hr : Room k X.A) (hg : Gl X x) (hm : X.mg x = some (.ref f)) (hk : PySem.W.keepIn X.K (.ref f) = true) (hb : Binds X.K fd ps ds) (hd : Vals dvs ds) (hx : Passes CX X E)
    (ha : PA X (e :: es) t) (hdb : (x == ("__debug__" : Str)) = false := by decide) (he : starEach (e :: es) X.env = (false, eval e X.env) :: starEach es X.env := by rfl) (hpl : (backTo pos (starEach es X.env)).any (·.1) = false := by rfl) :
    PE X (.Call (.Name x p) (e :: es) [] pos) (tCall sp dvs E t) := by
  intro pins s σ H Q I h
  refine wpAny_Call_Name_kw (ld_glob I hg hm ?_ hdb)
  refine PySem.W.callWith_K (h₀ := X.base) I.ok.mod.kin hk (thn (ha pos pins s σ H _ I h) fun us s1 ⟨vs, H1, I1, r, q⟩ => ⟨I1.kIn, ?_⟩) he hpl
  exact run_fn F hr hb hd hx I1 r q
/-- o.m() -/
theorem pe_meth0 {pl : Sem Bool} (he : PE X o ta) (c : Cls X.K C) (hm : Meth X.K C m f) (F : FnOk X.prog X.w X.K X.mg X.base CX k f fd ps sp) (hr : Room k X.A) (hb : Binds X.K fd ps ds) (hd : Vals dvs ds) (hx : Passes CX X E)
    (ht : eval (.Call (.Attribute o m apos) [] [] pos) X.env = (do
      let ov ← eval o X.env
      standAt apos.atName
      let (f, first) ← holding [ov] (getMethod ov m pl)
      callWith pos f first (backTo pos (starEach [] X.env)) (backToKw pos (keywordEach [] X.env))) := by rfl) :
    PE X (.Call (.Attribute o m apos) [] [] pos) (tMeth C m sp dvs E ta tNil) := by
  intro pins s σ H Q I h
  refine PySem.W.methodCall_KW (pl := pl) (thn (he pins s σ H _ I h) fun u s1 ⟨x, H1, I1, rx, a, dx, fs, ex, ea, l, q⟩ => ?_) ht
  subst ex
  obtain rfl : u = Value.ref a := rx
  refine getmeth_ok I1 ea c hm l ?_
  exact PySem.W.callWith_K0 (first := [.ref a]) I1.kIn hm.kp (run_fn (us := [.ref a]) (vs := [.ref a]) F hr hb hd hx I1 (.cons rfl .nil) q)

/-- what a class must have to be made -/
structure Mk (K : PySem.W.Frag) (C f : Addr) : Prop where
  makes : PySem.W.makesIn K C = true
  init : PySem.W.findIn K (.ref C) "__init__" = some (some (.ref f))
  fn : PySem.W.isFn K (.ref f) = true
  kp : PySem.W.keepIn K (.ref C) = true

theorem run_make {pins : List (Addr × Obj)} {σ : St} {H : Hp} {s : Shared} {Q : VK} {us : List Value} {vs : List V} (M : Mk X.K C f) (F : FnOk X.prog X.w X.K X.mg X.base CX k f fd ps sp) (hr : Room (k + 1) X.A) (hb : Binds X.K fd ps ds) (hd : Vals dvs ds)
    (hx : Passes CX X E) (I : Inv X pins σ H s) (r : Vals vs us)
    (h : ∀ x dx, H x = none → H dx = none → dx ≠ x → sp (.ref x :: (vs ++ dvs)) (upd (upd H dx (.own x)) x (.ins C dx [])) (fun v H2 => v = .non ∧ Q (.ref x) H2) E) :
    wpAny (model X.prog X.w) X.A (call (.ref C) us) (EP X pins σ Q) X.xe s := by
  have hq := h (s.heap.objs.size + 1) s.heap.objs.size (I.hok.fresh (Nat.le_succ _)) (I.hok.fresh (Nat.le_refl _)) (Nat.ne_of_lt (Nat.lt_succ_self _))
  have I2 := Inv.made (C := C) I
  have r2 : Vals (V.ref (s.heap.objs.size + 1) :: (vs ++ dvs)) (Value.ref (s.heap.objs.size + 1) :: (us ++ ds)) := .cons rfl (r.append hd)
  have hl : (Value.ref (s.heap.objs.size + 1) :: us ++ ds).length = ps.length := by
    have e := r2.length
    rw [F.len _ _ _ _ hq] at e
    exact e.symm
  refine wpAny_call (make_map (f := f) I.kIn M.makes M.init (beq_iff_eq.mp M.fn) (codeAny_mono (F.run _ X.stack _ _ ⟨Value.ref (s.heap.objs.size + 1) :: us, []⟩ (Value.ref (s.heap.objs.size + 1) :: (us ++ ds)) _ _ E (hr.make C us [])
    (I2.env0.make C us []) (hb _ (Value.ref (s.heap.objs.size + 1) :: us) I2.kIn hl) r2 hq) fun r s' hq' => ?_))
  cases r with
  | error e => exact hx pins σ _ _ e s' I2 hq'
  | ok fl =>
    cases fl with
    | ret u =>
      obtain ⟨v, H', I3, rv, ev, q3⟩ := I2.after hq'
      subst ev
      exact ⟨rv, ⟨V.ref (s.heap.objs.size + 1), H', I3, rfl, q3⟩⟩
    | next => exact False.elim hq'
    | brk => exact False.elim hq'
    | cont => exact False.elim hq'
theorem pe_make (M : Mk X.K C f) (F : FnOk X.prog X.w X.K X.mg X.base CX k f fd ps sp) (hr : Room (k + 1) X.A) (hg : Gl X x) (hm : X.mg x = some (.ref C)) (hb : Binds X.K fd ps ds) (hd : Vals dvs ds) (hx : Passes CX X E)
    (ha : PA X (e :: es) t) (hdb : (x == ("__debug__" : Str)) = false := by decide) (he : starEach (e :: es) X.env = (false, eval e X.env) :: starEach es X.env := by rfl) (hpl : (backTo pos (starEach es X.env)).any (·.1) = false := by rfl) :
    PE X (.Call (.Name x p) (e :: es) [] pos) (tMake C sp dvs E t) := by
  intro pins s σ H Q I h
  refine wpAny_Call_Name_kw (ld_glob I hg hm ?_ hdb)
  refine PySem.W.callWith_K (h₀ := X.base) I.ok.mod.kin M.kp (thn (ha pos pins s σ H _ I h) fun us s1 ⟨vs, H1, I1, r, q⟩ => ⟨I1.kIn, ?_⟩) he hpl
  exact run_make M F hr hb hd hx I1 r q
end

/-! ### keywords -/
section
variable {X : Cx} {CX : CXT} {k : Nat} {f C : Addr} {fd : FuncData} {ps ks : List Str} {sp : Sp} {E : XK} {x m : Str} {p pos apos kpos : Pos} {e o : Expr} {es : List Expr} {kws : List Keyword} {te ta : TE} {t tk : TA} {nm : Option Str}
variable {g : List Value → List Value → List Value} {gV : List V → List V → List V}
end

/-! ### a def's body keeps its promise -/
/-- names: the parameters first -/
structure FnScope (N P : List Str) (sc : Scope) : Prop where
  kind : sc.kind = .function
  co : sc.isCoroutine = false
  gen : sc.isGenerator = false
  nd : N.Nodup
  pre : N.take P.length = P
  par : ∀ x ∈ P, sc.names.lookup x = some .local ∨ sc.names.lookup x = some .cell
  nofree : ∀ y ∈ sc.names, y.2 ≠ .free

theorem bindL_out {kindOf : Str → Option NameKind} {x : Str} : ∀ {binds : List (Str × Value)} {m : Str → Option Value}, (∀ v, (x, v) ∉ binds) → bindL kindOf binds m x = m x
  | [], _, _ => rfl
  | (n, v) :: r, m, h => by
    unfold bindL
    rw [bindL_out fun w hw => h w (List.mem_cons_of_mem _ hw)]
    split
    · have : x ≠ n := by rintro rfl; exact h v List.mem_cons_self
      simp [this]
    · rfl
theorem bindC_out {kindOf : Str → Option NameKind} {x : Str} : ∀ {binds : List (Str × Value)} {m : Str → Option Value}, (∀ v, (x, v) ∉ binds) → bindC kindOf binds m x = m x
  | [], _, _ => rfl
  | (n, v) :: r, m, h => by
    unfold bindC
    rw [bindC_out fun w hw => h w (List.mem_cons_of_mem _ hw)]
    split
    · rfl
    · have : x ≠ n := by rintro rfl; exact h v List.mem_cons_self
      simp [this]
theorem bindL_get {kindOf : Str → Option NameKind} {x : Str} {v : Value} : ∀ {P : List Str} {vs : List Value} {i : Nat} {m : Str → Option Value}, P.Nodup → P[i]? = some x → vs[i]? = some v → kindOf x = some .local →
    bindL kindOf (P.zip vs) m x = some v
  | [], _, _, _, _, h, _, _ => by simp at h
  | _ :: _, [], _, _, _, _, h, _ => by simp at h
  | p :: P, w :: vs, 0, m, nd, h1, h2, hk => by
    simp at h1 h2; subst h1; subst h2
    show bindL kindOf ((p, w) :: P.zip vs) m p = _
    unfold bindL
    rw [bindL_out fun v hv => (List.nodup_cons.mp nd).1 (List.of_mem_zip hv).1, if_pos hk]
    simp
  | p :: P, w :: vs, i + 1, m, nd, h1, h2, hk => by
    show bindL kindOf ((p, w) :: P.zip vs) m x = _
    unfold bindL
    exact bindL_get (i := i) (List.nodup_cons.mp nd).2 (by simpa using h1) (by simpa using h2) hk
theorem bindC_get {kindOf : Str → Option NameKind} {x : Str} {v : Value} : ∀ {P : List Str} {vs : List Value} {i : Nat} {m : Str → Option Value}, P.Nodup → P[i]? = some x → vs[i]? = some v → kindOf x ≠ some .local →
    bindC kindOf (P.zip vs) m x = some v
  | [], _, _, _, _, h, _, _ => by simp at h
  | _ :: _, [], _, _, _, _, h, _ => by simp at h
  | p :: P, w :: vs, 0, m, nd, h1, h2, hk => by
    simp at h1 h2; subst h1; subst h2
    show bindC kindOf ((p, w) :: P.zip vs) m p = _
    unfold bindC
    rw [bindC_out fun v hv => (List.nodup_cons.mp nd).1 (List.of_mem_zip hv).1, if_neg hk]
    simp
  | p :: P, w :: vs, i + 1, m, nd, h1, h2, hk => by
    show bindC kindOf ((p, w) :: P.zip vs) m x = _
    unfold bindC
    exact bindC_get (i := i) (List.nodup_cons.mp nd).2 (by simpa using h1) (by simpa using h2) hk

/-- the names' values at the entry -/
def start (N : List Str) (vs : List V) : St := vs.map some ++ List.replicate (N.length - vs.length) none

/-- the context of a def's body, at its entry; an exception leaves the frame, then lies as CX says -/
def cxOf (CX : CXT) (P : Program) (w : World) (K : PySem.W.Frag) (mg : Str → Option Value) (base : Heap) (N : List Str) (qual : Str) (scope : Scope) (f : Addr) (cd : Value) (A : Around) (outer : List Env) (s : Shared) (H : Hp) (E : XK) : Cx where
  prog := P
  w := w
  K := K
  mg := mg
  base := base
  A := A.deeper (envOfC qual scope s.heap.objs.size f cd)
  N := N
  s₀ := s
  H₀ := H
  env := envOfC qual scope s.heap.objs.size f cd
  outer := outer
  stack := envOfC qual scope s.heap.objs.size f cd :: outer
  ex := []
  calm := true
  fn := fun _ => true
  pn := []
  xe := fun e s' => wpAny (model P w) (A.deeper (envOfC qual scope s.heap.objs.size f cd)) (leaving (envOfC qual scope s.heap.objs.size f cd) e) (fun _ s'' => CX outer H s E e s'') (fun e' s'' => CX outer H s E e' s'') s'

theorem cell_has {sc : Scope} {n : Nat} {x : Str} (h : sc.names.lookup x = some .cell) : ∃ c, (cellsFrom n sc.names []).lookup x = some c := by
  have q := PySem.W.cellsFrom_some sc.names n [] (.inl h)
  exact Option.isSome_iff_exists.mp q

theorem inv_start {CX : CXT} {P : Program} {w : World} {K : PySem.W.Frag} {mg : Str → Option Value} {base : Heap} {N ps : List Str} {qual : Str} {scope : Scope} {f : Addr} {cd : Value} {A : Around} {outer : List Env} {s s1 : Shared} {H : Hp} {E : XK} {us : List Value} {vs : List V}
    (S : FnScope N ps scope) (hd : A.handled = none) (e0 : Env0 P w K mg base A outer s H) (hl : vs.length = ps.length) (r : Vals vs us)
    (x : InCallC s s.heap.objs.size (bindL (envOfC qual scope s.heap.objs.size f cd).kindOf (ps.zip us) fun _ => none) (cellsFrom (s.heap.objs.size + 1) scope.names []) (bindC (envOfC qual scope s.heap.objs.size f cd).kindOf (ps.zip us) fun _ => none) s1) :
    Inv (cxOf CX P w K mg base N qual scope f cd A outer s H E) [] (start N vs) H s1 := by
  have hpl : ps.length ≤ N.length := by have := congrArg List.length S.pre; rw [List.length_take] at this; omega
  obtain ⟨h1, tk, rfl, hk⟩ := x.done
  have noA : ∀ b : Addr, b ∉ (cxOf CX P w K mg base N qual scope f cd A outer s H E).ex := fun b z => absurd (show b ∈ ([] : List Addr) from z) (by simp)
  refine ⟨⟨e0.mod, S.kind, rfl, rfl, Nat.le_refl _, fun y z c h1 h2 => ?_, fun y hy => ?_, fun y c _ h => ?_, fun _ => hd, Around.frames_deeper e0.frames, .inr ⟨rfl, rfl⟩, fun b z => absurd z (noA b), e0.bs, e0.bsz, fun b _ _ => noA b, fun b z => absurd z (noA b), e0.funs, e0.frf⟩,
    rfl, e0.bare, Un.kept hk, ⟨_, x.toInCall.ns, fun i y v h1 h2 h3 => ?_⟩, fun y c h => ⟨_, x.cell y c h⟩, e0.hok.fresh (Nat.le_refl _), fun y c h => ?_, fun p hp => absurd (show p ∈ ([] : List (Addr × Obj)) from hp) (by simp), e0.hok.kept hk, ?_⟩
  · exact name_of_addr x.apart (PySem.mem_of_lookup h1) (PySem.mem_of_lookup h2)
  · have hy : scope.names.lookup y = some .cell ∨ scope.names.lookup y = some .free := hy
    rcases hy with hy | hy
    · exact cell_has hy
    · exact absurd rfl (S.nofree _ (PySem.mem_of_lookup hy))
  · exact Nat.le_of_lt (x.above y c (PySem.mem_of_lookup h))
  · have hi : i < vs.length := by
      unfold start at h2
      by_cases hi : i < vs.length
      · exact hi
      · rw [List.getElem?_append_right (by simpa using hi)] at h2
        rw [List.getElem?_replicate] at h2
        split at h2 <;> cases h2
    have ha : vs[i]? = some v := by
      unfold start at h2
      rw [List.getElem?_append_left (by simpa using hi), List.getElem?_map] at h2
      cases e : vs[i]? with
      | none => rw [e] at h2; cases h2
      | some a => rw [e] at h2; cases h2; rfl
    obtain ⟨u, hu, rv⟩ := r.get ha
    have hp : ps[i]? = some y := by
      rw [← S.pre, List.getElem?_take_of_lt (by omega)]; exact h1
    have ndP : ps.Nodup := by rw [← S.pre]; exact S.nd.sublist (List.take_sublist _ _)
    refine ⟨u, rv, ?_⟩
    rcases S.par y (List.mem_of_getElem? hp) with k | k
    · exact .inl ⟨k, bindL_get ndP hp hu k⟩
    · obtain ⟨c, e⟩ := cell_has (n := s.heap.objs.size + 1) k
      refine .inr ⟨.inl k, c, e, ?_⟩
      have q := x.cell y c e
      rw [bindC_get ndP hp hu (by show scope.names.lookup y ≠ _; rw [k]; decide)] at q
      exact q
  · exact e0.hok.fresh (Nat.le_of_lt (x.above y c (PySem.mem_of_lookup h)))
  · unfold start
    show _ = N.length
    rw [List.length_append, List.length_map, List.length_replicate]
    omega

/-- THE RULE: a def (or a method) of the text, by its body. The body's reading t is chosen for each entry; it is run at the parameters' values -/
theorem fn_of {CX : CXT} {P : Program} {w : World} {K : PySem.W.Frag} {mg : Str → Option Value} {base : Heap} {k : Nat} {f : Addr} {name qual : Str} {params : Arguments} {body : List Stmt} {scope : Scope} {dV kV doc pm cdv ct oc : Value} {an od : Option Addr}
    {osl : Array (Option Value)} {N ps : List Str} {sp : Sp} (lk : K.lookup f = some ⟨oc, od, .func (PySem.W.fnOf name qual params body scope dV kV doc pm an cdv ct), osl⟩) (hcd : PySem.W.codeIn K cdv qual = true) (S : FnScope N ps scope)
    (len : ∀ vs H Q E, sp vs H Q E → vs.length = ps.length)
    (hbody : ∀ (A : Around) (outer : List Env) (s : Shared) (H : Hp) (vs : List V) (Q : VK) (E : XK), Room k (A.deeper (envOfC qual scope s.heap.objs.size f cdv)) → sp vs H Q E →
      ∃ t, PSs (cxOf CX P w K mg base N qual scope f cdv A outer s H E) body t ∧ t { nx := fun _ H' => Q .non H', rt := Q } (start N vs) H) :
    FnOk P w K mg base CX (k + 1) f (PySem.W.fnOf name qual params body scope dV kV doc pm an cdv ct) ps sp := by
  refine ⟨len, fun A outer s H args us vs Q E hr e0 hb r hsp => ?_⟩
  have hl := len _ _ _ _ hsp
  have KX : K.In s.heap := e0.mod.kin.keeps fun b o e => (e0.bs b o e).1
  have lim : s.heap.NoLimit := e0.mod.nolimit.keeps fun b o e => (e0.bs b o e).1
  have hkind : ∀ y ∈ ps.zip us, scope.names.lookup y.1 = some .local ∨ (scope.names.lookup y.1 = some .cell ∧ ((cellsFrom (s.heap.objs.size + 1) scope.names []).lookup y.1).isSome = true) := fun ⟨n, v⟩ hy => by
    rcases S.par n (List.of_mem_zip hy).1 with q | q
    · exact .inl q
    · exact .inr ⟨q, PySem.W.cellsFrom_some _ _ _ (.inl q)⟩
  refine codeAny_call_function hr.depth (KX _ _ lk) rfl S.co S.gen rfl (PySem.W.codeRec_of KX hcd) (hb _ _ _ _ ?_)
  refine wpAny_newFunctionEnv_cells S.kind hkind fun env he s1 x => ?_
  subst he
  refine ⟨lim.keeps x.toInCall.keep, codeAny_func ?_⟩
  obtain ⟨t, ht, hq⟩ := hbody A outer s H vs Q E (hr.deeper _) hsp
  have I : Inv (cxOf CX P w K mg base N qual scope f cdv A outer s H E) [] (start N vs) H s1 := inv_start S hr.hd e0 hl r x
  refine wpAny_mono (ht [] s1 (start N vs) H _ I hq) (fun fl s' hs => ?_) fun e s' hs => hs
  have fin : ∀ {σ' : St} {H' : Hp} {v : V} {u : Value}, Inv (cxOf CX P w K mg base N qual scope f cdv A outer s H E) [] σ' H' s' → RelV v u → Q v H' → CE outer P w H s Q u s' :=
    fun {σ' H' v u} J rv q => ⟨v, H', J.os, J.bare, J.base, J.hok, rv, q⟩
  cases fl with
  | ret u =>
    obtain ⟨v, σ', H', J, rv, q⟩ := hs
    exact fin J rv q
  | next =>
    obtain ⟨σ', H', J, q⟩ := hs
    exact fin (v := V.non) (u := Value.none) J rfl q
  | brk =>
    obtain ⟨_, _, _, q⟩ := hs
    exact False.elim q
  | cont =>
    obtain ⟨_, _, _, q⟩ := hs
    exact False.elim q
end L2

namespace L2
open PySem PySem.Spec PyProof.Rows
section
variable {X : Cx} {x : Str} {p pos : Pos} {e : Expr} {es : List Expr} {t : TA} {id T : String} {r : List V → Hp → VK → Prop}

def tCB (r : List V → Hp → VK → Prop) (t : TA) : TE := fun σ H Q => t σ H fun vs H1 => r vs H1 Q
/-- f(e, ..), f a built-in function -/
theorem pe_callB (hc : CallR X (.builtin id) r) (hg : Gl X x) (hm : X.mg x = none) (hv : bootBuiltins x = some (.builtin id)) (ha : PA X (e :: es) t) (hn : x ≠ "__name__" := by decide) (hdb : (x == ("__debug__" : Str)) = false := by decide)
    (he : starEach (e :: es) X.env = (false, eval e X.env) :: starEach es X.env := by rfl) (hpl : (backTo pos (starEach es X.env)).any (·.1) = false := by rfl) : PE X (.Call (.Name x p) (e :: es) [] pos) (tCB r t) := by
  intro pins s σ H Q I h
  refine wpAny_Call_Name_kw (ld_blt I hg hm hv ?_ hn hdb)
  exact PyProof.Rows.callWith_builtin1 (thn (ha pos pins s σ H _ I h) fun us s1 ⟨vs, H1, I1, r1, q1⟩ => hc pins s1 σ H1 vs us Q I1 r1 q1) he hpl
/-- T(e, ..), T a built-in type -/
theorem pe_callTy (hc : CallR X (.type T) r) (hg : Gl X x) (hm : X.mg x = none) (hv : bootBuiltins x = some (.type T)) (ha : PA X (e :: es) t) (hn : x ≠ "__name__" := by decide) (hdb : (x == ("__debug__" : Str)) = false := by decide)
    (he : starEach (e :: es) X.env = (false, eval e X.env) :: starEach es X.env := by rfl) (hpl : (backTo pos (starEach es X.env)).any (·.1) = false := by rfl) : PE X (.Call (.Name x p) (e :: es) [] pos) (tCB r t) := by
  intro pins s σ H Q I h
  refine wpAny_Call_Name_kw (ld_blt I hg hm hv ?_ hn hdb)
  exact PyProof.Rows.callWith_type1 (thn (ha pos pins s σ H _ I h) fun us s1 ⟨vs, H1, I1, r1, q1⟩ => hc pins s1 σ H1 vs us Q I1 r1 q1) he hpl
end
end L2

namespace HT
open PySem PyProof.Rows

section
open PySem.SeqAt
open PySem.AutoSeq1 (wpAny_loadPart')
open PySem.MeetsSeq PySem.MeetsSeq2 PySem.MeetsSeq3

end

section
variable {prog : Program} {w : World} {A : Around} {E : Value → Shared → Prop} {s : Shared}

/-! ### t[a:b], not the whole -/
/-- a slice's bound as a place among n (d where it is left out) -/
def sIx (n d : Nat) : Option Int → Nat
  | none => d
  | some v => if v < 0 then (v + (n : Int)).toNat else min v.toNat n
theorem sIx_none (n d : Nat) : sIx n d none = d := rfl
theorem sIx_nat (n d k : Nat) : sIx n d (some (k : Int)) = min k n := by
  show (if (k : Int) < 0 then ((k : Int) + (n : Int)).toNat else min (k : Int).toNat n) = min k n
  rw [if_neg (by omega), Int.toNat_natCast]
theorem sIx_le (n d : Nat) (hd : d ≤ n) (o : Option Int) : sIx n d o ≤ n := by
  cases o with
  | none => exact hd
  | some v =>
    show (if v < 0 then (v + (n : Int)).toNat else min v.toNat n) ≤ n
    by_cases hv : v < 0
    · rw [if_pos hv]; omega
    · rw [if_neg hv]; exact Nat.min_le_right _ _
end
end HT

namespace L2
open PySem PySem.Spec PyProof.Rows

/-! ### the parts of a slice -/
abbrev TO := St → Hp → (Option Int → Hp → Prop) → Prop
/-- a slice's part (left out, or an int) -/
def PO (X : Cx) (e : Option Expr) (t : TO) : Prop :=
  ∀ (pins : List (Addr × Obj)) (s : Shared) (σ : St) (H : Hp) (Q : Option Int → Hp → Prop), Inv X pins σ H s → t σ H Q →
    wpAny (model X.prog X.w) X.A (evalPart e X.env) (fun u s' => ∃ o H', Inv X pins σ H' s' ∧ IsPart u o ∧ Q o H') X.xe s
def tNoPart : TO := fun _ H Q => Q none H
def tPart (t : TE) : TO := fun σ H Q => t σ H fun x H1 => ∃ i, x = .int i ∧ Q (some i) H1

section
variable {X : Cx} {e : Expr} {te : TE} {lo hi : Option Expr} {tl th : TO} {pos p2 : Pos}

theorem po_none : PO X none tNoPart := by
  intro pins s σ H Q I h
  rw [evalPart_none]
  exact wpAny_pure ⟨none, H, I, .none, h⟩
theorem po_some (h : PE X e te) : PO X (some e) (tPart te) := by
  intro pins s σ H Q I hw
  rw [evalPart_some]
  refine thn (h pins s σ H _ I hw) fun u s1 ⟨x, H1, I1, r1, q1⟩ => ?_
  obtain ⟨i, rfl, q⟩ := q1
  obtain ⟨t, rfl⟩ := r1
  exact ⟨some i, H1, I1, .int i t, q⟩

/-- what a slice of a value is, by values: the slice object stands at sl -/
def SlR (X : Cx) (r : V → Option Int → Option Int → Hp → VK → Prop) : Prop :=
  ∀ (pins : List (Addr × Obj)) (s : Shared) (σ : St) (H : Hp) (x : V) (v vl vu : Value) (lo hi : Option Int) (sl : Addr) (Q : VK), Inv X pins σ H s → RelV x v → s.heap.IsSliceOf sl vl vu .none → IsPart vl lo → IsPart vu hi → r x lo hi H Q →
    ∃ T id, typeLookup (.type T) "__getitem__" = pure (some (.builtin id)) ∧ s.TypeIs v T ∧ wpAny (model X.prog X.w) X.A (getItem v (.ref sl)) (EP X pins σ Q) X.xe s
def tSl (r : V → Option Int → Option Int → Hp → VK → Prop) (te : TE) (tl th : TO) : TE := fun σ H Q => te σ H fun x H1 => tl σ H1 fun l H2 => th σ H2 fun u H3 => r x l u H3 Q
/-- a[lo:hi], any a -/
theorem pe_slice {r : V → Option Int → Option Int → Hp → VK → Prop} (hr : SlR X r) (he : PE X e te) (hl : PO X lo tl) (hu : PO X hi th) : PE X (.Subscript e (.Slice lo hi none p2) pos) (tSl r te tl th) := by
  intro pins s σ H Q I h
  refine Subscript_ (thn (he pins s σ H _ I h) fun v s1 ⟨x, H1, I1, r1, q1⟩ => ?_)
  refine wpAny_Slice (thn (hl pins s1 σ H1 _ I1 q1) fun vl s2 ⟨l, H2, I2, pl, q2⟩ => thn (hu pins s2 σ H2 _ I2 q2) fun vu s3 ⟨u, H3, I3, pu, q3⟩ => ?_)
  rw [evalPart_none]
  refine wpAny_pure ?_
  have I4 : Inv X pins σ H3 { s3 with heap := s3.heap.push { cls := .type "slice", data := .fields #[vl, vu, .none] } } := I3.kept (t' := s3.toks) fun b ob q => Heap.get?_push_of_some _ q
  obtain ⟨T, id, hT, ht, hg⟩ := hr pins { s3 with heap := s3.heap.push { cls := .type "slice", data := .fields #[vl, vu, .none] } } σ H3 x v vl vu l u s3.heap.objs.size Q I4 r1 (Heap.IsSliceOf.new ..) pl pu q3
  show wpAny (model X.prog X.w) X.A (subscriptTail e (.Slice lo hi none p2) v (.ref s3.heap.objs.size)) (EP X pins σ Q) X.xe { s3 with heap := s3.heap.push { cls := .type "slice", data := .fields #[vl, vu, .none] } }
  exact tail_any (ops := [.ref s3.heap.objs.size, v]) ht hT hg (by with_unfolding_all rfl)

/-- the items of xs[lo:hi] -/
def cutV (xs : List V) (lo hi : Option Int) : List V := (xs.drop (HT.sIx xs.length 0 lo)).take (HT.sIx xs.length xs.length hi - HT.sIx xs.length 0 lo)
theorem cutV_length (xs : List V) (lo hi : Option Int) : (cutV xs lo hi).length ≤ xs.length := by
  unfold cutV
  rw [List.length_take, List.length_drop]
  omega
/-! ### t < u, t + u -/
end
end L2

namespace L2
open PySem PySem.Spec PyProof.Rows

/-! ### places -/
/-- the place that an index of any sign means -/
def ixN (n : Nat) (i : Int) : Option Nat := if 0 ≤ i then (if i < n then some i.toNat else none) else if -(n : Int) ≤ i then some (i + n).toNat else none
def atI {α : Type} (xs : List α) (i : Int) : Option α := (ixN xs.length i).bind fun j => xs[j]?
theorem ixN_seq {n : Nat} {i : Int} {j : Nat} (h : ixN n i = some j) : seqIndex? i n = some j ∧ j < n ∧ -(n : Int) ≤ i ∧ i < n := by
  unfold ixN at h
  by_cases h0 : 0 ≤ i
  · rw [if_pos h0] at h
    by_cases h1 : i < n
    · rw [if_pos h1] at h
      have e : i.toNat = j := Option.some.inj h
      exact ⟨by rw [seqIndex_of h0 h1, e], by omega, by omega, h1⟩
    · rw [if_neg h1] at h; cases h
  · rw [if_neg h0] at h
    by_cases h1 : -(n : Int) ≤ i
    · rw [if_pos h1] at h
      have e : (i + n).toNat = j := Option.some.inj h
      exact ⟨by rw [seqIndex_neg (by omega) h1, e], by omega, h1, by omega⟩
    · rw [if_neg h1] at h; cases h
theorem atI_get {α : Type} {xs : List α} {i : Int} {v : α} (h : atI xs i = some v) : ∃ j, seqIndex? i xs.length = some j ∧ xs[j]? = some v ∧ j < xs.length ∧ -(xs.length : Int) ≤ i ∧ i < xs.length := by
  unfold atI at h
  cases e : ixN xs.length i with
  | none => rw [e] at h; cases h
  | some j =>
    rw [e] at h
    obtain ⟨h1, h2, h3, h4⟩ := ixN_seq e
    exact ⟨j, h1, h, h2, h3, h4⟩
theorem atI_nat {α : Type} {xs : List α} {j : Nat} {v : α} (h : xs[j]? = some v) : atI xs (j : Int) = some v := by
  have hj : j < xs.length := (List.getElem?_eq_some_iff.mp h).1
  have e : ixN xs.length (j : Int) = some j := by
    unfold ixN
    rw [if_pos (by omega), if_pos (by omega)]; simp
  unfold atI; rw [e]; exact h
theorem atI_last {α : Type} (xs : List α) (v : α) : atI (xs ++ [v]) (-1) = some v := by
  have hl : (xs ++ [v]).length = xs.length + 1 := by simp
  have e : ixN (xs ++ [v]).length (-1) = some xs.length := by
    unfold ixN
    rw [hl, if_neg (by decide), if_pos (by omega)]
    congr 1
    omega
  unfold atI
  rw [e]
  show (xs ++ [v])[xs.length]? = some v
  simp

/-! ### what may be subscripted -/
/-- what stands as an index of a plain subscript -/
def PlainIx (b : Expr) : Prop := ∀ o i, subscripted b false o i = operate [o, i] (getItem o i)
/-- a subscript by values -/
def IxR (X : Cx) (r : R2) : Prop :=
  ∀ (value slice : Expr) (pins : List (Addr × Obj)) (s : Shared) (σ : St) (H : Hp) (x y : V) (v u : Value) (Q : VK), Inv X pins σ H s → RelV x v → RelV y u → r x y H Q →
    subscripted slice false v u = operate [v, u] (getItem v u) → wpAny (model X.prog X.w) X.A (subscriptTail value slice v u) (EP X pins σ Q) X.xe s
/-- a call of a builtin's method by values: the receiver, the arguments -/
def MtR (X : Cx) (id : String) (r : V → List V → Hp → VK → Prop) : Prop :=
  ∀ (pins : List (Addr × Obj)) (s : Shared) (σ : St) (H : Hp) (x : V) (xs : List V) (v : Value) (us : List Value) (Q : VK), Inv X pins σ H s → RelV x v → Vals xs us → r x xs H Q →
    wpAny (model X.prog X.w) X.A (call (.builtin id) (v :: us)) (EP X pins σ Q) X.xe s
section
variable {X : Cx} {a b : Expr} {ta tb : TE} {pos : Pos}
/-- a[b] -/
theorem pe_ix {r : R2} (hr : IxR X r) (ha : PE X a ta) (hb : PE X b tb) (hs : PlainIx b) : PE X (.Subscript a b pos) (tOp r ta tb) := by
  intro pins s σ H Q I h
  exact Subscript_ (binT ha hb I h fun v u s2 x y H2 I2 rx ry q => hr a b pins s2 σ H2 x y v u Q I2 rx ry q (hs _ _))

def rIxL (K : PySem.W.Frag) : R2 := fun x y H Q => ∃ p xs i v, x = .ref p ∧ y = .int i ∧ SqL K H p xs ∧ atI xs i = some v ∧ Q v H
def rIxT (K : PySem.W.Frag) : R2 := fun x y H Q => ∃ p xs i v, x = .ref p ∧ y = .int i ∧ SqT K H p xs ∧ atI xs i = some v ∧ Q v H
def rIxS : R2 := fun x y H Q => ∃ z i c, x = .str z ∧ y = .int i ∧ z.length ≤ sizeLine ∧ atI z.cps.toList i = some c ∧ Q (.str ⟨#[c]⟩) H
theorem ix_list : IxR X (rIxL X.K) := by
  intro value slice pins s σ H x y v u Q I rx ry h hs
  obtain ⟨p, xs, i, z, rfl, rfl, hq, he, q⟩ := h
  cases rx
  obtain ⟨t, rfl⟩ := ry
  obtain ⟨its, r, pl, hz⟩ := I.list hq
  obtain ⟨j, h1, h2, h3, h4, h5⟩ := atI_get he
  obtain ⟨w, ew, rw'⟩ := r.get h2
  have hl := r.length
  have hn := line63
  have fin : EP X pins σ Q w s := ⟨z, H, I, rw', q⟩
  by_cases h0 : 0 ≤ i
  · have hj : i.toNat = j := by
      rw [seqIndex_of h0 h5] at h1
      exact Option.some.inj h1
    exact item_listR pl.isList h0 (by omega) (by rw [hj]; simpa using ew) fin hs
  · have hj : (i + (its.toArray.size : Int)).toNat = j := by
      rw [seqIndex_neg (by omega) h4] at h1
      rw [List.size_toArray, ← hl]
      exact Option.some.inj h1
    exact subscriptTail_builtinR (x := w) pl.isList.typeIs slot_list_getitem.lookup
      (wpAny_getItem_list_neg (Q := fun r s' => r = w ∧ EP X pins σ Q r s') pl.isList (by omega) (by rw [List.size_toArray] <;> omega) (by omega) (by rw [hj]; simpa using ew) ⟨rfl, fin⟩) hs
theorem ix_tup : IxR X (rIxT X.K) := by
  intro value slice pins s σ H x y v u Q I rx ry h hs
  obtain ⟨p, xs, i, z, rfl, rfl, hq, he, q⟩ := h
  cases rx
  obtain ⟨t, rfl⟩ := ry
  obtain ⟨its, r, pl, hz⟩ := I.tuple hq
  obtain ⟨j, h1, h2, h3, h4, h5⟩ := atI_get he
  obtain ⟨w, ew, rw'⟩ := r.get h2
  have hl := r.length
  have hn := line63
  have fin : EP X pins σ Q w s := ⟨z, H, I, rw', q⟩
  exact subscriptTail_builtinR (x := w) pl.typeIs slot_tuple_getitem.lookup
    (getItem_tuple (j := j) (Q := fun r s' => r = w ∧ EP X pins σ Q r s') pl (by omega) (by omega) (by rw [List.size_toArray, ← hl]; exact h1) (by simpa using ew) ⟨rfl, fin⟩) hs
theorem ix_str : IxR X rIxS := by
  intro value slice pins s σ H x y v u Q I rx ry h hs
  obtain ⟨z, i, c, rfl, rfl, hz, he, q⟩ := h
  obtain ⟨t, rfl⟩ := rx
  obtain ⟨t', rfl⟩ := ry
  obtain ⟨j, h1, h2, h3, h4, h5⟩ := atI_get he
  have hl : z.cps.toList.length = z.length := by simp [Str.length]
  rw [hl] at h1 h4 h5
  have hn := line63
  exact tail_any (typeIs_str s z t) slot_str_getitem.lookup (getItem_str (c := c) (by
    have e1 : decide (i < -(2 ^ 63 : Int)) = false := decide_eq_false (by omega)
    have e2 : decide (i ≥ 2 ^ 63) = false := decide_eq_false (by omega)
    rw [e1, e2, Bool.or_false]) (by rw [h1]; simpa using h2) ⟨.str ⟨#[c]⟩, H, I.tok _, ⟨_, rfl⟩, q⟩) hs
/-! ### xs[i] = v, any sign -/
/-- the list's object behind a store -/
theorem mapSeq_set (its : List Value) (n j : Nat) (u : Value) : Obj.mapSeq (·.setIfInBounds j u) { cls := .type "list", data := .seq its.toArray n } = { cls := .type "list", data := .seq (its.set j u).toArray n } := by
  simp [Obj.mapSeq]
theorem Inv.lst {pins : List (Addr × Obj)} {σ : St} {H : Hp} {s : Shared} {p : Addr} {xs : List V} (I : Inv X pins σ H s) (h : H p = some (.lst xs)) :
    ∃ (its : List Value) (n : Nat), Vals xs its ∧ s.heap.get? p = some { cls := .type "list", data := .seq its.toArray n } ∧ xs.length ≤ sizeLine := by
  obtain ⟨z, its, n, r, e⟩ := I.hok p _ h
  exact ⟨its, n, r, e, z⟩
/-- the list at p is written by an update of its object -/
theorem Inv.lstUpd {pins : List (Addr × Obj)} {σ : St} {H : Hp} {s : Shared} {p : Addr} {xs ys : List V} {its its' : List Value} {n n' : Nat} {f : Obj → Obj} (I : Inv X pins σ H s) (h : H p = some (.lst xs))
    (ho : s.heap.get? p = some { cls := .type "list", data := .seq its.toArray n }) (hf : f { cls := .type "list", data := .seq its.toArray n } = { cls := .type "list", data := .seq its'.toArray n' }) (r : Vals ys its') (hz : ys.length ≤ sizeLine) (t : Nat) :
    Inv X pins σ (upd H p (.lst ys)) { s with heap := s.heap.update p f, toks := t } := by
  have e : (s.heap.update p f).get? p = some { cls := .type "list", data := .seq its'.toArray n' } := by
    rw [Heap.get?_update_self f ho (by rw [hf] <;> rfl), hf]
  refine I.write (x := p) (e := p) (by rw [h]; trivial) (.inl rfl) (fun b u hb q => (Heap.get?_update_other _ _ (Ne.symm hb)).trans q) ⟨_, e⟩ ?_
  exact ⟨hz, its', n', r, e⟩
def rSetL : V → V → V → Hp → (Hp → Prop) → Prop := fun o i v H Q => ∃ p xs k j, o = .ref p ∧ i = .int k ∧ H p = some (.lst xs) ∧ ixN xs.length k = some j ∧ Q (upd H p (.lst (xs.set j v)))
theorem set_list : PSet X rSetL := by
  intro pins s σ H o i v ov iv u Q I ro ri rv h
  obtain ⟨p, xs, k, j, rfl, rfl, hp, hj, q⟩ := h
  cases ro
  obtain ⟨t, rfl⟩ := ri
  obtain ⟨its, n, r, ho, hz⟩ := I.lst hp
  obtain ⟨h1, h2, h3, h4⟩ := ixN_seq hj
  have hl := r.length
  have hn := line63
  have I' : Inv X pins σ (upd H p (.lst (xs.set j v))) { s with heap := s.heap.update p (Obj.mapSeq (·.setIfInBounds j u)) } :=
    I.lstUpd hp ho (mapSeq_set its n j u) (r.set rv j) (by rw [List.length_set]; exact hz) s.toks
  by_cases h0 : 0 ≤ k
  · have hk : k.toNat = j := by
      rw [seqIndex_of h0 h4] at h1
      exact Option.some.inj h1
    exact PySem.W.ki_setAt ho h0 (by omega) (by rw [List.size_toArray, ← hl]; exact h4) (by rw [hk]; exact ⟨_, I', q⟩)
  · have hk : (k + (its.toArray.size : Int)).toNat = j := by
      rw [seqIndex_neg (by omega) h3] at h1
      rw [List.size_toArray, ← hl]
      exact Option.some.inj h1
    exact PySem.W.ki_setBack ho (by omega) (by rw [List.size_toArray, ← hl]; exact h3) (by omega) (by rw [hk]; exact ⟨_, I', q⟩)

/-! ### slices -/
theorem slice_bounds (lo hi : Option Int) (n : Nat) : (sliceBounds lo hi none n).1 = ((HT.sIx n 0 lo : Nat) : Int) ∧ (sliceBounds lo hi none n).2.1 = ((HT.sIx n n hi : Nat) : Int) ∧ (sliceBounds lo hi none n).2.2 = 1 := by
  refine ⟨?_, ?_, rfl⟩
  · cases lo with
    | none => simp [sliceBounds, HT.sIx]
    | some i =>
      simp only [sliceBounds, HT.sIx, Option.getD_none, show (1 : Int) > 0 by decide, if_true]
      by_cases h : i < 0
      · simp only [h, if_true] <;> omega
      · simp only [h, if_false] <;> omega
  · cases hi with
    | none => simp [sliceBounds, HT.sIx]
    | some i =>
      simp only [sliceBounds, HT.sIx, Option.getD_none, show (1 : Int) > 0 by decide, if_true]
      by_cases h : i < 0
      · simp only [h, if_true] <;> omega
      · simp only [h, if_false] <;> omega
theorem slicePick_cut (its : List Value) (lo hi : Option Int) : slicePick its.toArray lo hi none = ((its.drop (HT.sIx its.length 0 lo)).take (HT.sIx its.length its.length hi - HT.sIx its.length 0 lo)).toArray := by
  obtain ⟨h1, h2, h3⟩ := slice_bounds lo hi its.toArray.size
  unfold slicePick
  rw [h1, h2, h3]
  simp only [sliceRange_one, pick_run, List.size_toArray] <;> rfl
/-- xs[lo:hi] of a list: a new list -/
def rSlL (K : PySem.W.Frag) : V → Option Int → Option Int → Hp → VK → Prop := fun x lo hi H Q => ∃ a xs, x = .ref a ∧ SqL K H a xs ∧ ∀ p, H p = none → Q (.ref p) (upd H p (.lst (cutV xs lo hi)))
theorem sl_list : SlR X (rSlL X.K) := by
  intro pins s σ H x v vl vu lo hi sl Q I rx hs pl pu h
  obtain ⟨a, xs, rfl, hx, q⟩ := h
  cases rx
  obtain ⟨its, r, ht, hz⟩ := I.list hx
  have hlen := r.length
  refine ⟨"list", _, slot_list_getitem.lookup, ht.isList.typeIs, ?_⟩
  refine wpAny_getItem_list_slice ht.isList hs pl pu .none (by simp) ?_ (by rw [List.size_toArray] <;> omega)
  rw [slicePick_cut, ← hlen]
  refine ⟨.ref s.heap.objs.size, _, I.laid (t' := s.toks) (o := .lst (cutV xs lo hi)) (fun b ob q => Heap.get?_push_of_some _ q) (Nat.le_refl _) ?_, rfl, q _ (I.hok.fresh (Nat.le_refl _))⟩
  exact ⟨Nat.le_trans (cutV_length xs lo hi) hz, _, 0, (r.drop (HT.sIx xs.length 0 lo)).take (HT.sIx xs.length xs.length hi - HT.sIx xs.length 0 lo), Heap.get?_push_size _ rfl⟩

/-! ### in, not in: flat items -/
def flatV : V → Bool
  | .non => true
  | .bl _ => true
  | .int _ => true
  | .str _ => true
  | _ => false
/-- == of flat values -/
def eqV : V → V → Bool
  | .non, .non => true
  | .bl a, .bl b => a == b
  | .bl a, .int b => (if a then 1 else 0) == b
  | .int a, .bl b => a == (if b then 1 else 0)
  | .int a, .int b => a == b
  | .str a, .str b => a == b
  | _, _ => false
theorem eqAt_V {A : Around} {s : Shared} {y x : V} {u v : Value} (ry : RelV y u) (rx : RelV x v) (fy : flatV y = true) (fx : flatV x = true) : SeqAt.EqAt A s u v (eqV y x) := by
  cases y with
  | non =>
    cases ry
    cases x with
    | non => cases rx; exact SeqAt.EqAt.same _
    | bl b => cases rx; exact SeqAt.EqAt.none_bool b
    | int b => obtain ⟨t, rfl⟩ := rx; exact SeqAt.EqAt.none_int b t
    | str b => obtain ⟨t, rfl⟩ := rx; exact SeqAt.EqAt.none_str b t
    | _ => exact absurd (show false = true from fx) Bool.false_ne_true
  | bl a =>
    cases ry
    cases x with
    | non => cases rx; exact SeqAt.EqAt.bool_none a
    | bl b => cases rx; exact SeqAt.EqAt.bool_bool a b
    | int b => obtain ⟨t, rfl⟩ := rx; exact SeqAt.EqAt.bool_int a b t
    | str b => obtain ⟨t, rfl⟩ := rx; exact SeqAt.EqAt.bool_str a b t
    | _ => exact absurd (show false = true from fx) Bool.false_ne_true
  | int a =>
    obtain ⟨t', rfl⟩ := ry
    cases x with
    | non => cases rx; exact SeqAt.EqAt.int_none a t'
    | bl b => cases rx; exact SeqAt.EqAt.int_bool a t' b
    | int b => obtain ⟨t, rfl⟩ := rx; exact SeqAt.EqAt.int_int a t' b t
    | str b => obtain ⟨t, rfl⟩ := rx; exact SeqAt.EqAt.int_str a t' b t
    | _ => exact absurd (show false = true from fx) Bool.false_ne_true
  | str a =>
    obtain ⟨t', rfl⟩ := ry
    cases x with
    | non => cases rx; exact SeqAt.EqAt.str_none a t'
    | bl b => cases rx; exact SeqAt.EqAt.str_bool a t' b
    | int b => obtain ⟨t, rfl⟩ := rx; exact SeqAt.EqAt.str_int a t' b t
    | str b => obtain ⟨t, rfl⟩ := rx; exact SeqAt.EqAt.str_str a t' b t
    | _ => exact absurd (show false = true from fx) Bool.false_ne_true
  | _ => exact absurd (show false = true from fy) Bool.false_ne_true
/-- the items' answers, read off the values (a value's own answer does not lean on its token) -/
def eqU (x : V) (u : Value) : Bool := match u with
  | .none => eqV .non x
  | .bool b => eqV (.bl b) x
  | .int i _ => eqV (.int i) x
  | .str z _ => eqV (.str z) x
  | _ => false
theorem eqU_of {x y : V} {u : Value} (r : RelV y u) (f : flatV y = true) : eqU x u = eqV y x := by
  cases y with
  | non => cases r; rfl
  | bl b => cases r; rfl
  | int i => obtain ⟨t, rfl⟩ := r; rfl
  | str z => obtain ⟨t, rfl⟩ := r; rfl
  | _ => exact absurd (show false = true from f) Bool.false_ne_true
theorem any_eqU {x : V} : ∀ {xs : List V} {us : List Value}, Vals xs us → xs.all flatV = true → us.any (eqU x) = xs.any fun y => eqV y x
  | _, _, .nil, _ => rfl
  | y :: xs, u :: us, .cons r t, f => by
    rw [List.all_cons, Bool.and_eq_true] at f
    rw [List.any_cons, List.any_cons, eqU_of r f.1, any_eqU t f.2]
theorem mem_eqAt {A : Around} {s : Shared} {x : V} {v : Value} (rx : RelV x v) (fx : flatV x = true) : ∀ {xs : List V} {us : List Value}, Vals xs us → xs.all flatV = true → ∀ u ∈ us, SeqAt.EqAt A s u v (eqU x u)
  | _, _, .nil, _ => fun u hu => by cases hu
  | y :: xs, u :: us, .cons r t, f => fun u' hu => by
    rw [List.all_cons, Bool.and_eq_true] at f
    rcases List.mem_cons.mp hu with rfl | hu
    · rw [eqU_of r f.1]; exact eqAt_V r rx f.1 fx
    · exact mem_eqAt rx fx t f.2 u' hu
def inV (x : V) (xs : List V) : Bool := xs.any fun y => eqV y x
/-- x in a list or tuple of flat items -/
def rIn (K : PySem.W.Frag) (neg : Bool) : R2 := fun x y H Q => ∃ p xs, y = .ref p ∧ (SqL K H p xs ∨ SqT K H p xs) ∧ flatV x = true ∧ xs.all flatV = true ∧ Q (.bl (if neg then !inV x xs else inV x xs)) H
theorem op_in_seq : OpR X (compareOp .In) (rIn X.K false) := by
  intro pins s σ H x y v u Q I rx ry h
  obtain ⟨p, xs, rfl, hq, fx, fs, q⟩ := h
  cases ry
  rcases hq with hq | hq
  · obtain ⟨its, r, pl, hz⟩ := I.list hq
    refine SeqAt.in_listAt (eqU x) pl.isList (fun w hw => mem_eqAt rx fx r fs w (by simpa using hw)) ⟨.bl _, H, I, rfl, ?_⟩
    rw [show its.toArray.any (eqU x) = its.any (eqU x) by simp, any_eqU r fs]
    exact q
  · obtain ⟨its, r, pl, hz⟩ := I.tuple hq
    refine SeqAt.in_tupleAt (eqU x) pl (fun w hw => mem_eqAt rx fx r fs w (by simpa using hw)) ⟨.bl _, H, I, rfl, ?_⟩
    rw [show its.toArray.any (eqU x) = its.any (eqU x) by simp, any_eqU r fs]
    exact q
theorem op_notIn_seq : OpR X (compareOp .NotIn) (rIn X.K true) := by
  intro pins s σ H x y v u Q I rx ry h
  obtain ⟨p, xs, rfl, hq, fx, fs, q⟩ := h
  cases ry
  rcases hq with hq | hq
  · obtain ⟨its, r, pl, hz⟩ := I.list hq
    refine SeqAt.notIn_listAt (eqU x) pl.isList (fun w hw => mem_eqAt rx fx r fs w (by simpa using hw)) ⟨.bl _, H, I, rfl, ?_⟩
    rw [show its.toArray.any (eqU x) = its.any (eqU x) by simp, any_eqU r fs]
    exact q
  · obtain ⟨its, r, pl, hz⟩ := I.tuple hq
    refine SeqAt.notIn_tupleAt (eqU x) pl (fun w hw => mem_eqAt rx fx r fs w (by simpa using hw)) ⟨.bl _, H, I, rfl, ?_⟩
    rw [show its.toArray.any (eqU x) = its.any (eqU x) by simp, any_eqU r fs]
    exact q
/-! ### len, list(x), tuple(x) of any list or tuple that is read -/
theorem call_len_seq : CallR X (.builtin "len") (fun xs H Q => ∃ p ys, xs = [.ref p] ∧ (SqL X.K H p ys ∨ SqT X.K H p ys) ∧ Q (.int ys.length) H) := by
  intro pins s σ H xs us Q I r h
  obtain ⟨p, ys, rfl, hq, q⟩ := h
  obtain ⟨u, rfl, rx⟩ := vals1 r
  cases rx
  have hn := line63
  rcases hq with hq | hq
  · obtain ⟨its, r', pl, hz⟩ := I.list hq
    have hlen := r'.length
    exact Calls.call_len_list pl.isList (by simp only [List.size_toArray] <;> omega) ⟨.int ys.length, H, I.tok _, ⟨s.toks + 1, by rw [List.size_toArray, hlen]⟩, q⟩
  · obtain ⟨its, r', pl, hz⟩ := I.tuple hq
    have hlen := r'.length
    exact len_tuple pl (by simp only [List.size_toArray] <;> omega) ⟨.int ys.length, H, I.tok _, ⟨s.toks + 1, by rw [List.size_toArray, hlen]⟩, q⟩
theorem call_len_str : CallR X (.builtin "len") (fun xs H Q => ∃ z, xs = [.str z] ∧ z.length ≤ sizeLine ∧ Q (.int z.length) H) := by
  intro pins s σ H xs us Q I r h
  obtain ⟨z, rfl, hz, q⟩ := h
  obtain ⟨u, rfl, t, rfl⟩ := vals1 r
  have hn := line63
  exact len_str (by omega) ⟨.int z.length, H, I.tok _, ⟨_, rfl⟩, q⟩
/-! ### the call of a builtin's method: o.m(..) -/
/-- the value is of that builtin type -/
def tyV (K : PySem.W.Frag) (T : String) (x : V) (H : Hp) : Prop := match x with
  | .str _ => T = "str"
  | .int _ => T = "int"
  | .ref p => (T = "list" ∧ ∃ xs, SqL K H p xs) ∨ (T = "tuple" ∧ ∃ o, K.lookup p = some o ∧ o.cls = .type "tuple" ∧ o.dict = none) ∨
      (T = "dict" ∧ ((∃ kvs, H p = some (.dK kvs)) ∨ ∃ kvs, H p = some (.dT kvs))) ∨ (T = "set" ∧ ∃ S n, H p = some (.set S n))
  | _ => False
theorem tyV_is {pins : List (Addr × Obj)} {σ : St} {H : Hp} {s : Shared} {T : String} {x : V} {v : Value} (I : Inv X pins σ H s) (r : RelV x v) (ty : tyV X.K T x H) :
    s.TypeIs v T ∧ ∀ a, v = .ref a → ∃ ob, s.heap.get? a = some ob ∧ ob.dict = none := by
  cases x with
  | str z =>
    obtain ⟨t, rfl⟩ := r
    cases (show T = "str" from ty)
    exact ⟨typeIs_str s z t, fun _ e => nomatch e⟩
  | int i =>
    obtain ⟨t, rfl⟩ := r
    cases (show T = "int" from ty)
    exact ⟨typeIs_int s i t, fun _ e => nomatch e⟩
  | ref p =>
    cases r
    rcases ty with ⟨rfl, xs, hq⟩ | ⟨rfl, o, hk, hc, hd⟩ | ⟨rfl, hk⟩ | ⟨rfl, S, n, hk⟩
    · obtain ⟨its, _, pl, _⟩ := I.list hq
      refine ⟨pl.isList.typeIs, fun a e => ?_⟩
      cases e
      obtain ⟨o, n, e, c, hd, _⟩ := pl
      exact ⟨o, e, hd⟩
    · refine ⟨⟨o, I.kIn p o hk, hc⟩, fun a e => ?_⟩
      cases e
      exact ⟨o, I.kIn _ o hk, hd⟩
    · have z : ∃ o, s.heap.get? p = some o ∧ o.ExactDict := by
        rcases hk with ⟨kvs, hk⟩ | ⟨kvs, hk⟩
        · obtain ⟨_, _, _, _, o, _, _, e, ex, _⟩ := I.hok p _ hk
          exact ⟨o, e, ex⟩
        · obtain ⟨_, _, _, _, o, _, _, e, ex, _⟩ := I.hok p _ hk
          exact ⟨o, e, ex⟩
      obtain ⟨o, e, ex⟩ := z
      refine ⟨⟨o, e, ex.1⟩, fun a e2 => ?_⟩
      cases e2
      exact ⟨o, e, ex.2.1⟩
    · obtain ⟨o, _, _, _, e, ex, _⟩ := I.hok p _ hk
      refine ⟨⟨o, e, ex.1⟩, fun a e2 => ?_⟩
      cases e2
      exact ⟨o, e, ex.2.1⟩
  | _ => exact False.elim ty
def tBM0 (K : PySem.W.Frag) (T : String) (r : V → List V → Hp → VK → Prop) (to : TE) : TE := fun σ H Q => to σ H fun x H1 => tyV K T x H1 ∧ r x [] H1 Q
def tBM (K : PySem.W.Frag) (T : String) (r : V → List V → Hp → VK → Prop) (to : TE) (t : TA) : TE := fun σ H Q => to σ H fun x H1 => tyV K T x H1 ∧ t σ H1 fun xs H2 => r x xs H2 Q
variable {o e : Expr} {es : List Expr} {to : TE} {t : TA} {name : Str} {apos cpos : Pos} {T id : String} {r : V → List V → Hp → VK → Prop}
theorem pe_bm (pa : PlainAttrs T) (slot : Slot T name id) (hty : typeOf (.builtin id) = pure (.type "method_descriptor")) (hm : MtR X id r) (ho : PE X o to) (ha : PA X (e :: es) t)
    (hbase : attributeBase o name X.env (eval o X.env) = eval o X.env := by rfl)
    (hfew : ((backTo cpos (starEach (e :: es) X.env)).all (fun x => !x.1) && (backToKw cpos (keywordEach [] X.env)).all (fun x => x.1.isSome)
      && decide ((e :: es).length + ([] : List Keyword).length + (if ([] : List Keyword).isEmpty then 0 else 1) < 30)) = true := by rfl)
    (hline : (apos.endLine == cpos.line) = true := by rfl) (hs : starEach (e :: es) X.env = (false, eval e X.env) :: starEach es X.env := by rfl) (hplain : (backTo cpos (starEach es X.env)).any (·.1) = false := by rfl) :
    PE X (.Call (.Attribute o name apos) (e :: es) [] cpos) (tBM X.K T r to t) := by
  intro pins s σ H Q I h
  refine wpAny_Call_method_late hbase hfew hline rfl (thn (ho pins s σ H _ I h) fun v s1 ⟨x, H1, I1, r1, ty, q1⟩ => ?_)
  obtain ⟨h1, h2⟩ := tyV_is I1 r1 ty
  refine ⟨T, id, pa, slot, hty, h1, h2, ?_⟩
  have hA := ha cpos pins s1 σ H1 _ I1 q1
  rw [hs] at hA ⊢
  refine Calls.callWith_builtin (by show (false || (backTo cpos (starEach es X.env)).any (·.1)) = false; rw [hplain] <;> rfl) (Calls.evalArgs_plain ?_)
  exact thn hA fun us s2 ⟨vs, H2, I2, r2, q2⟩ => hm pins s2 σ H2 x vs v us Q I2 r1 r2 q2
/- xs.append(e), list.index on a module's tuple .. are MtR facts of 06m -/
end
end L2

namespace L2
open PySem PySem.Spec PyProof.Rows

def MtM (X : Cx) (id : String) (r : V → List V → Hp → VK → Prop) : Prop :=
  ∀ (pins : List (Addr × Obj)) (s : Shared) (σ : St) (H : Hp) (x : V) (xs : List V) (v : Value) (us : List Value) (Q : VK), Inv X pins σ H s → RelV x v → Vals xs us → r x xs H Q →
    wpAny (model X.prog X.w) X.A (call (.builtin id) (v :: us)) (EP X pins σ Q) X.xe s

/-! ### lists of values -/
theorem Vals.one : ∀ {x : V} {us : List Value}, Vals [x] us → ∃ u, us = [u] ∧ RelV x u
  | _, _, .cons r .nil => ⟨_, rfl, r⟩
section
variable {X : Cx} {pins : List (Addr × Obj)} {σ : St} {H : Hp} {s : Shared} {l b : Addr} {xs ys zs : List V}

/-! ### the two steps: a tracked list is rewritten, a new list is laid -/
theorem Inv.lset {its its' : List Value} {n : Nat} {f : Array Value → Array Value} {t' : Nat} (I : Inv X pins σ H s) (hH : H l = some (.lst xs))
    (e : s.heap.get? l = some { cls := .type "list", data := .seq its.toArray n }) (hf : f its.toArray = its'.toArray) (hv : Vals ys its') (hz : ys.length ≤ sizeLine) :
    Inv X pins σ (upd H l (.lst ys)) { s with heap := s.heap.update l (Obj.mapSeq f), toks := t' } := by
  have q := PySem.IsL.update e f
  rw [hf] at q
  refine I.write (x := l) (e := l) (by rw [hH]; exact trivial) (.inl rfl) (fun b' u hb hu => (Heap.get?_update_other s.heap (Obj.mapSeq f) (Ne.symm hb)).trans hu) ⟨_, q⟩ ?_
  exact ⟨hz, its', _, hv, q⟩
theorem Inv.lnew {its : List Value} {t' : Nat} (I : Inv X pins σ H s) (hv : Vals ys its) (hz : ys.length ≤ sizeLine) :
    Inv X pins σ (upd H s.heap.objs.size (.lst ys)) { s with heap := s.heap.push { cls := .type "list", data := .seq its.toArray }, toks := t' } :=
  I.laid (fun _ _ q => Heap.get?_push_of_some _ q) (Nat.le_refl _) ⟨hz, its, 0, hv, Heap.get?_push_size _ rfl⟩
theorem Inv.fresh (I : Inv X pins σ H s) : H s.heap.objs.size = none := I.hok.fresh (Nat.le_refl _)
theorem Inv.lstM (I : Inv X pins σ H s) (hH : H l = some (.lst xs)) : xs.length ≤ sizeLine ∧ ∃ (its : List Value) (n : Nat), Vals xs its ∧ xs.length = its.length ∧ s.heap.get? l = some { cls := .type "list", data := .seq its.toArray n } := by
  obtain ⟨z, its, n, r, e⟩ := I.hok l _ hH
  exact ⟨z, its, n, r, r.length, e⟩

end

section
variable {X : Cx}

/-! ### methods -/
def rAppend : V → List V → Hp → VK → Prop := fun x vs H Q => ∃ l xs y, x = .ref l ∧ vs = [y] ∧ H l = some (.lst xs) ∧ xs.length < sizeLine ∧ Q .non (upd H l (.lst (xs ++ [y])))
theorem mt_append : MtM X "list.append" rAppend := by
  intro pins s σ H x vs v us Q I rx rv h
  obtain ⟨l, xs, y, rfl, rfl, hH, hz, q⟩ := h
  cases rx
  obtain ⟨u, rfl, ru⟩ := rv.one
  obtain ⟨z, its, n, r, hl, e⟩ := I.lstM hH
  refine call_meets F.slot_list_append ⟨_, e, rfl⟩ F.entry_list_append (F.args_list_append_2 _ _) (PySem.list_append l its.toArray n u (by rw [List.size_toArray]; omega)) ⟨e, ?_⟩
  refine ⟨.non, _, I.lset (its' := its ++ [u]) hH e (by simp) (r.append (.cons ru .nil)) ?_, rfl, q⟩
  rw [List.length_append, List.length_singleton]
  omega

/-! ### list + list, list += list, list * int -/
def rCat : R2 := fun x y H Q => ∃ l b xs zs, x = .ref l ∧ y = .ref b ∧ H l = some (.lst xs) ∧ H b = some (.lst zs) ∧ xs.length + zs.length ≤ sizeLine ∧ ∀ p, H p = none → Q (.ref p) (upd H p (.lst (xs ++ zs)))
theorem op_cat : OpR X (binaryOp .Add) rCat := by
  intro pins s σ H x y v u Q I rx ry h
  obtain ⟨l, b, xs, zs, rfl, rfl, hH, hB, hz, q⟩ := h
  cases rx
  cases ry
  obtain ⟨z, its, n, r, hl, e⟩ := I.lstM hH
  obtain ⟨z2, its2, n2, r2, hl2, e2⟩ := I.lstM hB
  refine PySem.P.add_list e e2 ?_ (by rw [List.size_toArray, List.size_toArray]; omega)
  have ea : its.toArray ++ its2.toArray = (its ++ its2).toArray := by simp
  rw [ea]
  exact ⟨.ref _, _, I.lnew (t' := s.toks) (r.append r2) (by rw [List.length_append]; omega), rfl, q _ I.fresh⟩
/-! ### del xs[i] -/
end

/-! ### xs[a:b] = ys -/
section
variable {prog : Program} {w : World} {A : Around} {E : Value → Shared → Prop} {s : Shared}
end

section
variable {X : Cx}
end
end L2

namespace Att
open PySem PySem.W PySem.Calls PyProof.Rows

/-! ### the script -/
theorem ints_of_wellAll {P : Params} {h : Heap} : ∀ (ns : List Int) (vs : List Value), WellAll P h vs (ns.map WData.int) → IntsAre vs ns := by
  intro ns
  induction ns with
  | nil =>
    intro vs w
    rw [List.map_nil] at w
    cases w
    exact .nil
  | cons n ns ih =>
    intro vs w
    rw [List.map_cons] at w
    cases w with
    | cons a b =>
      cases a
      exact .cons _ _ (ih _ b)

theorem script_of {l : OpenLaw} {n : Nat} (hn : l.most = some n) {P : Params} {h : Heap} {args : List WData} {vals : List Value}
    (hpre : l.row.toRowW.claim.pre args = true) (hwl : WellAll P h vals args) :
    ∃ a vs ns, vals = [Value.ref a] ∧ args = [WData.list (ns.map WData.int)] ∧ h.get? a = some { cls := .type "list", data := .seq vs.toArray } ∧ IntsAre vs ns ∧ ns.length ≤ n := by
  have hsh : WShape.hasAll [] args [.list .int] = true := (pre_splitW hpre).1
  have hc : l.pre.holds [] { args := args } = true := (pre_splitW hpre).2
  obtain ⟨d, r, rfl, h1, h2⟩ := hasAllW_cons hsh
  obtain rfl := hasAllW_nil h2
  obtain ⟨xs, rfl, h3⟩ := hasW_list h1
  obtain ⟨ns, rfl⟩ := items_int h3
  have hlen : ns.length ≤ n := by
    unfold OpenLaw.pre at hc
    have h4 : (WTm.not (.lt (.lit (.int (n : Int))) (.len (.arg 0)))).holds [] { args := [.list (ns.map .int)] } = true := by
      have h4 := (holds_andW hc).1
      rw [hn] at h4
      exact h4
    have h5 := condW_of h4 (w_not (w_lt w_lit (w_len_list (w_arg rfl))))
    rw [List.length_map] at h5
    refine Nat.le_of_not_lt fun q => ?_
    have q' : (n : Int) < ((ns.length : Nat) : Int) := by omega
    first
      | (rw [decide_eq_true q'] at h5; exact absurd h5 (by decide))
      | (simp at h5; omega)
  cases hwl with
  | cons w1 w2 =>
    cases w2
    cases w1 with
    | list ho hall => exact ⟨_, _, ns, rfl, rfl, ho, ints_of_wellAll ns _ hall, hlen⟩

theorem post_true (l : OpenLaw) (args : List WData) : l.row.toRowW.claim.post args (.bool true) args = true :=
  postW_of (r := l.row.toRowW) (X := (true == true))
    (show WShape.has [] (.bool true) .bool = true by first | rfl | decide | simp [WShape.has, WShape.arms, WShape.armsAll])
    (show (WTm.eq .res (.lit (.bool true))).value [] { args := args, res := some (.bool true), after := args } = some (.bool (true == true)) from w_eq_bool (w_res rfl) w_lit) rfl

/-! ### the attachment: holds_open's last premise (the goal 'hc' behind k_head) from a wpAny of the law's body -/
/-- the same from a codeAny of the CALL (for a layer whose function contracts speak of calls) -/
theorem attach_call {l : OpenLaw} {n : Nat} {q : Program} {loose : List Str} {XP : (Str → Option Value) → Heap → Prop} {YP : World → Heap → Prop} {d : DefRec}
    (hn : l.most = some n) (hdf : d.params.defaults = [])
    (call : ∀ (w : World) (s₀ s₁ : Shared) (mg mb : Str → Option Value) (fa : Addr) (o : Obj) (pm cd doc : Value) (a : Addr) (vs : List Value) (ns : List Int),
      Ground q loose [] XP w s₀ mg mb s₁.heap → YP w s₁.heap →
      s₁.heap.get? fa = some o → o.data = .func (docDef d.name d.params d.body d.scope pm cd doc) → s₁.heap.CodeRec cd d.name → mg d.name = some (.ref fa) →
      s₁.heap.get? a = some { cls := .type "list", data := .seq vs.toArray } → IntsAre vs ns → ns.length ≤ n → s₁.gens = #[] →
      codeAny (model l.prog w) callerA (.call (.ref fa) ⟨[.ref a], []⟩) (fun r s' => r = .ok (.ret (.bool true)) ∧ OldK s₁.heap s'.heap ∧ s'.os = s₁.os ∧ AllBare s'.gens) s₁) :
    WalkO q loose XP YP l.row.toRowW d [] (fun f vs => PySem.call f vs) := by
  intro w s₀ s₁ mg mb G Y fa o pm cd doc dV kV ho hd hcd hD hmg hg args vals as hpre hlay hrd hwl hlo
  obtain rfl : dV = .none := Dflts.none hD hdf
  obtain rfl : kV = .none := Dflts.noKw hD
  obtain ⟨a, vs, ns, rfl, rfl, hobj, hints, hlen⟩ := script_of hn hpre hwl
  refine enter_call (codeAny_mono (call w s₀ s₁ mg mb fa o pm cd doc a vs ns G Y ho (fd_plain hd) hcd hmg hobj hints hlen hg) fun r s' hq => ?_)
  obtain ⟨rfl, h2, h3, h4⟩ := hq
  exact ⟨.inl ⟨.bool true, .bool true, [], rfl, fun _ => rfl, .bool true, post_true l _, fun _ => ⟨List.Pairwise.nil, fun _ hm => (nomatch hm)⟩⟩, h2, h3, h4⟩

/-! ### rules over ANY heap (no ledger) from facts about the written part K: the library's own take a ledger (News) for what they write -/
section
variable {prog : Program} {w : World} {A : Around} {E : Value → Shared → Prop} {s : Shared} {K : Frag}

/-! the whole heap as the ledger: makes every rule that writes through a ledger a rule over any heap -/
def ledger (h : Heap) (L d : Addr) : List (Addr × Obj) := (List.range h.objs.size).filterMap fun a => if a = L ∨ a = d then none else (h.get? a).map fun o => (a, o)
end
end Att

namespace L2
open PySem PySem.Spec PyProof.Rows

theorem vals_ints : ∀ {vs : List Value} {ns : List Int}, IntsAre vs ns → Vals (ns.map V.int) vs
  | _, _, .nil => .nil
  | _, _, .cons n t h => .cons ⟨t, rfl⟩ (vals_ints h)

/-- nothing is tracked but the script, known to the object (or it is an object of the module) -/
def Only (H : Hp) : Prop := ∀ b, H b = none ∨ ∃ o xs, H b = some (.frz o (.lst xs))

/-- THE HEAD: the law's promise, at the heap behind the top. F, the promise of the law's def, may use that base is part of the heap (so K.In base, base.Ns mainGlobals mg stand in Mod) -/
theorem law_call {P : Program} {w : World} {K : PySem.W.Frag} {mg mb : Str → Option Value} {CX : CXT} {k : Nat} {fa a : Addr} {fd : FuncData} {x : Str} {sp : Sp} {s₁ : Shared} {vs : List Value} {ns : List Int}
    (KX : K.In s₁.heap) (hns : s₁.heap.Ns mainGlobals mg) (hb : s₁.heap.Ns builtinsNs mb) (hbb : ∀ x : Str, x ≠ "__name__" → mb x = bootBuiltins x) (hlim : s₁.heap.NoLimit) (hg : s₁.gens = #[])
    (ha : s₁.heap.get? a = some { cls := .type "list", data := .seq vs.toArray }) (hi : IntsAre vs ns) (hl : ns.length ≤ sizeLine) (hr : Room k callerA)
    (F : ∀ base : Heap, K.In base → base.Ns mainGlobals mg → FnOk P w K mg base CX k fa fd [x] sp) (hbind : ∀ (s : Shared) (u : Value), BindsTo s fd ⟨[u], []⟩ [(x, u)])
    (hsp : ∀ H : Hp, Only H → SqL K H a (ns.map V.int) → sp [.ref a] H (fun v _ => v = .bl true) fun _ _ _ => False)
    (hCX : ∀ H e s', CX [] H s₁ (fun _ _ _ => False) e s' → False) :
    codeAny (model P w) callerA (.call (.ref fa) ⟨[.ref a], []⟩) (fun r s' => r = .ok (.ret (.bool true)) ∧ OldK s₁.heap s'.heap ∧ s'.os = s₁.os ∧ AllBare s'.gens) s₁ := by
  have rv := vals_ints hi
  have lenV := hi.length
  -- from an abstract heap in which nothing but the script may be tracked
  have core : ∀ H : Hp, Only H → SqL K H a (ns.map V.int) → HOk P w H s₁.heap → (∀ b, H b ≠ none → b = a) → (H a ≠ none → K.lookup a = none) →
      codeAny (model P w) callerA (.call (.ref fa) ⟨[.ref a], []⟩) (fun r s' => r = .ok (.ret (.bool true)) ∧ OldK s₁.heap s'.heap ∧ s'.os = s₁.os ∧ AllBare s'.gens) s₁ := by
    intro H hO hS hok hA hK
    have base_of : ∀ {b : Addr} {o : Obj}, s₁.heap.get? b = some o → H b = none → (hidT s₁.heap H).get? b = some o := fun e n => hidT_get e n
    have noA : ∀ {b : Addr} {o : Obj} {es : Array DictEntry} {ep : Nat}, s₁.heap.get? b = some o → o.data = .dict es ep → H b = none := fun {b o es ep} e d => by
      cases q : H b with
      | none => rfl
      | some u =>
        have e' : b = a := hA b (by rw [q]; simp)
        subst e'
        rw [ha] at e; cases e
        have d' : Data.seq vs.toArray _ = Data.dict es ep := d
        cases d'
    have nsK : ∀ {b : Addr} {m : Str → Option Value}, s₁.heap.Ns b m → (hidT s₁.heap H).Ns b m := fun {b m} ⟨o, es, ep, e, d, r⟩ => ⟨o, es, ep, base_of e (noA e d), d, r⟩
    have hKb : K.In (hidT s₁.heap H) := fun b o e => base_of (KX b o e) (by
      cases q : H b with
      | none => rfl
      | some u =>
        have e' : b = a := hA b (by rw [q]; simp)
        subst e'
        rw [hK (by rw [q]; simp)] at e; cases e)
    have hM : Mod K mg (hidT s₁.heap H) := ⟨hKb, nsK hns, ⟨mb, nsK hb, hbb⟩, let ⟨mc, h1, h2⟩ := hlim; ⟨mc, nsK h1, h2⟩⟩
    have e0 : Env0 P w K mg (hidT s₁.heap H) callerA [] s₁ H := ⟨rfl, hM, fun b o e => of_hidT e, Nat.le_of_eq (hidT_size _ _), trivial, fun b hb => absurd (show b ∈ ([] : List Addr) from hb) (by simp), hok, .of_eq hg⟩
    refine codeAny_mono ((F _ hKb (nsK hns)).run callerA [] s₁ H ⟨[.ref a], []⟩ [.ref a] [.ref a] _ _ hr e0 (hbind s₁ (.ref a)) (.cons rfl .nil) (hsp H hO hS)) fun r s' h => ?_
    cases r with
    | error e => exact (hCX H e s' h).elim
    | ok fl =>
      cases fl with
      | next => exact False.elim h
      | brk => exact False.elim h
      | cont => exact False.elim h
      | ret u =>
        obtain ⟨v, H', os, bare, un, hok', r', q⟩ := h
        have q' : v = .bl true := q
        subst q'
        obtain rfl : u = Value.bool true := r'
        refine ⟨rfl, OldK.of_keep fun b o e => ?_, os, bare⟩
        cases q : H b with
        | none => exact un.keep b o e q (by intro z; exact absurd (show b ∈ ([] : List Addr) from z) (by simp)) (by simp)
        | some u =>
          rcases hO b with z | ⟨ob, xs, z⟩
          · rw [q] at z; cases z
          · have z2 := un.frzs b ob _ z
            obtain ⟨e1, _⟩ := hok b _ z
            obtain ⟨e2, _⟩ := hok' b _ z2
            rw [e] at e1; cases e1
            exact e2
  cases hk : K.lookup a with
  | some o =>
    -- the script is one of the module's own objects
    have e := KX a o hk
    rw [ha] at e
    cases e
    refine core (fun _ => none) (fun _ => .inl rfl) (.inr ⟨_, vs.toArray, _, hk, rfl, rfl, rfl, by rw [List.size_toArray, lenV]; exact hl, by simpa using rv⟩) (fun b u z => by have z' : (none : Option HO) = some u := z; cases z') (fun b z => absurd rfl z) fun z => absurd rfl z
  | none =>
    refine core (fun b => if b = a then some (.frz { cls := .type "list", data := .seq vs.toArray } (.lst (ns.map V.int))) else none) (fun b => ?_) (.inl (.inr ⟨{ cls := .type "list", data := .seq vs.toArray }, if_pos rfl⟩)) (fun b u z => ?_) (fun b z => ?_) fun _ => hk
    · by_cases hb : b = a
      · exact .inr ⟨_, _, if_pos hb⟩
      · exact .inl (if_neg hb)
    · by_cases hb : b = a
      · have z' := (if_pos hb).symm.trans z
        cases z'
        subst hb
        exact ⟨ha, by rw [List.length_map]; exact hl, vs, _, rv, ha⟩
      · have z' := (if_neg hb).symm.trans z
        cases z'
    · by_cases hb : b = a
      · exact hb
      · exact absurd (if_neg hb) z
end L2

namespace L2
open PySem PySem.Spec PyProof.Rows

abbrev KOf {K : PySem.W.Frag} {h : Heap} (_ : K.In h) : PySem.W.Frag := K

/-- the goal that k_head leaves (case hc), from the law's promise. F gives the function object fd (K's own) once, then the promise over every base -/
theorem walk_of {l : PySem.W.OpenLaw} {n k : Nat} {q : Program} {loose : List Str} {XP : (Str → Option Value) → Heap → Prop} {YP : World → Heap → Prop} {d : DefRec} {K : Params → PySem.W.Frag} {CX : World → CXT} {sp : World → Sp} {x : Str}
    (hn : l.most = some n) (hn2 : n ≤ sizeLine) (hdf : d.params.defaults = []) (hr : Room k callerA)
    (hY : ∀ (w : World) (h : Heap), YP w h → (K w.params).In h)
    (F : ∀ (w : World) (mg : Str → Option Value) (fa : Addr) (h : Heap), (K w.params).In h → h.Ns mainGlobals mg → mg d.name = some (.ref fa) →
      ∃ fd : FuncData, (∀ (s : Shared) (u : Value), BindsTo s fd ⟨[u], []⟩ [(x, u)]) ∧
        ∀ base : Heap, (K w.params).In base → base.Ns mainGlobals mg → FnOk l.prog w (K w.params) mg base (CX w) k fa fd [x] (sp w))
    (hsp : ∀ (w : World) (H : Hp) (a : Addr) (ns : List Int), ns.length ≤ n → Only H → SqL (K w.params) H a (ns.map V.int) → sp w [.ref a] H (fun v _ => v = .bl true) fun _ _ _ => False)
    (hCX : ∀ (w : World) (H : Hp) (s : Shared) (e : Value) (s' : Shared), CX w [] H s (fun _ _ _ => False) e s' → False) :
    PySem.W.WalkO q loose XP YP l.row.toRowW d [] (fun f vs => PySem.call f vs) := by
  refine Att.attach_call hn hdf fun w s₀ s₁ mg mb fa o pm cd doc a vs ns G Y ho hd hcd hmg hobj hints hlen hg => ?_
  have KX := hY w _ Y
  obtain ⟨fd, hb, hF⟩ := F w mg fa _ KX G.T.g hmg
  exact law_call KX G.T.g G.T.b G.T.builtins G.T.nolimit hg hobj hints (Nat.le_trans hlen hn2) hr hF hb (fun H hO hS => hsp w H a ns hlen hO hS) fun H e s' => hCX w H s₁ e s'
end L2

/- THE LAST THEOREM (shape; LID, My.* are yours):
   My.Adr: a structure of the addresses that your layer names (classes, functions); My.Txt K t: a structure (Prop) of the equations over K;
   My.txt_mk : {K} {implicit addresses ..} (e1 : nsIn K mainGlobals "law" = some (some (.ref f))) (e2 : K.lookup f = some ⟨oc, od, .func (fnOf "law" "law" params body scope dV kV doc pm an cdv ct), sl⟩) (e3 : codeIn K cdv "law" = true) .. : ∃ t, My.Txt K t

set_option maxRecDepth 100000 in
set_option maxHeartbeats 0 in
theorem PySem.Challenge.cw_LID_holds : PySem.Challenge.rw_LID.Holds := by
  w_on; o_law; k_head; (case hw => w_witness2)
  k_fill
  refine L2.walk_of (l := PySem.Challenge.rw_LID) (n := 63) (k := 40) (x := "script") (CX := fun w => ..) (sp := fun _ => My.sp_law) rfl (by decide) rfl ⟨rfl, by decide, by decide⟩ (fun w h Y => PySem.W.kIn_of Y) ?F ?S ?C
  case F =>
    intro w mg fa h KX G hmg
    have T : ∃ t, My.Txt (L2.KOf KX) t := by
      dsimp only [L2.KOf]                          -- K must stand as «<heap const> w.params» for k_is
      refine' My.txt_mk ?e1 ?e2 ?e3 ..
      (case e1 => PySem.W.k_is)                    -- in the order: a name -> its address -> its object -> its parts
      (case e2 => PySem.W.k_is)
      ..
    obtain ⟨t, T⟩ := T
    have e0 := hmg.symm.trans (PySem.W.mg_of KX G T.law)
    cases e0                                       -- fa is the law's own address
    exact ⟨_, fun s u => .of_eq rfl, fun base kb nb => My.law_fn T kb nb⟩     -- if «.of_eq rfl» comes too early: refine' ⟨_, ?b, fun base kb nb => My.law_fn T kb nb⟩; exact fun s u => .of_eq rfl
  case S => exact fun w H a ns hl hO hS => ..
  case C => exact ..
(the tactic k_is has no namespace: write k_is) -/

/-! SHORT WORDS over the layer: a def of the text, its body, what a loop and a test want. -/
namespace L2
open PySem PySem.Spec PyProof.Rows

/-! ### the text by places -/
/-- the j-th statement of a class's body -/
def inClass (s : Stmt) (j : Nat) : Stmt := match s with
  | .ClassDef _ _ _ body _ _ _ _ _ _ _ => body.getD j (.Pass ⟨0, 0, 0, 0⟩)
  | _ => .Pass ⟨0, 0, 0, 0⟩
def defArgs (s : Stmt) : Arguments := match s with
  | .FunctionDef _ a _ _ _ _ _ _ _ _ => a
  | _ => { posonlyargs := [], args := [], vararg := none, kwonlyargs := [], kw_defaults := [], kwarg := none, defaults := [] }
def defBody (s : Stmt) : List Stmt := match s with
  | .FunctionDef _ _ b _ _ _ _ _ _ _ => b
  | _ => []
def defScope (s : Stmt) : Scope := match s with
  | .FunctionDef _ _ _ _ _ _ sc _ _ _ => sc
  | _ => { kind := .function, names := [], isGenerator := false, isCoroutine := false }

/-! ### no exception leaves a def -/
abbrev CX0 : CXT := fun _ _ _ _ _ _ => False
abbrev E0 : XK := fun _ _ _ => False
theorem pass0 {X : Cx} : Passes CX0 X E0 := fun _ _ _ _ _ _ _ h => h.elim

/-! ### a def (or method) of the text as it stands behind the top -/
structure Fun (K : PySem.W.Frag) (x qual : Str) (st : Stmt) (f : Addr) (fd : FuncData) : Prop where
  ex : ∃ (oc : Value) (od : Option Addr) (kV doc pm : Value) (an : Option Addr) (cdv ct : Value) (osl : Array (Option Value)),
    fd = PySem.W.fnOf x qual (defArgs st) (defBody st) (defScope st) .none kV doc pm an cdv ct ∧ K.lookup f = some ⟨oc, od, .func fd, osl⟩ ∧ PySem.W.codeIn K cdv qual = true
  kp : PySem.W.keepIn K (.ref f) = true
section
variable {P : Program} {w : World} {K : PySem.W.Frag} {mg : Str → Option Value} {base : Heap}
/-- THE RULE for a def: its body as a term of rules, and the reading of that term -/
theorem Fun.ok {x qual : Str} {st : Stmt} {f : Addr} {fd : FuncData} {N ps : List Str} {k : Nat} {sp : Sp} (F : Fun K x qual st f fd) (S : FnScope N ps (defScope st)) (len : ∀ vs H Q E, sp vs H Q E → vs.length = ps.length)
    (hbody : ∀ (cdv : Value) (A : Around) (outer : List Env) (s : Shared) (H : Hp) (vs : List V) (Q : VK) (E : XK), Room k (A.deeper (envOfC qual (defScope st) s.heap.objs.size f cdv)) → sp vs H Q E →
      ∃ t, PSs (cxOf CX0 P w K mg base N qual (defScope st) f cdv A outer s H E).nox (defBody st) t ∧ t { nx := fun _ H' => Q .non H', rt := Q } (start N vs) H) : FnOk P w K mg base CX0 (k + 1) f fd ps sp := by
  obtain ⟨oc, od, kV, doc, pm, an, cdv, ct, osl, rfl, lk, hcd⟩ := F.ex
  refine fn_of lk hcd S len fun A outer s H vs Q E hr hsp => ?_
  obtain ⟨t, h, q⟩ := hbody cdv A outer s H vs Q E hr hsp
  exact ⟨t, h.nox, q⟩
/-- how its arguments bind (no defaults): h is «fun _ _ _ _ _ _ us hl => match us, hl with | [_, _], _ => rfl», one _ a parameter -/
theorem Fun.binds {x qual : Str} {st : Stmt} {f : Addr} {fd : FuncData} {ps : List Str} (F : Fun K x qual st f fd)
    (h : ∀ (kV doc pm : Value) (an : Option Addr) (cdv ct : Value) (us : List Value), us.length = ps.length → bindArgs (PySem.W.fnOf x qual (defArgs st) (defBody st) (defScope st) .none kV doc pm an cdv ct) ⟨us, []⟩ = pure (ps.zip us)) : Binds K fd ps [] := by
  obtain ⟨oc, od, kV, doc, pm, an, cdv, ct, osl, rfl, lk, hcd⟩ := F.ex
  exact .all (h kV doc pm an cdv ct)
theorem fun_mk {x qual : Str} {st : Stmt} {f : Addr} {oc : Value} {od an : Option Addr} {osl : Array (Option Value)} {kV doc pm cdv ct : Value} (l : K.lookup f = some ⟨oc, od, .func (PySem.W.fnOf x qual (defArgs st) (defBody st) (defScope st) .none kV doc pm an cdv ct), osl⟩)
    (c : PySem.W.codeIn K cdv qual = true) (k : PySem.W.keepIn K (.ref f) = true) : Fun K x qual st f (PySem.W.fnOf x qual (defArgs st) (defBody st) (defScope st) .none kV doc pm an cdv ct) := ⟨⟨oc, od, kV, doc, pm, an, cdv, ct, osl, rfl, l, c⟩, k⟩
end
theorem hu_of {A : Around} {k : Nat} (hr : Room k A) : A.units + 1 < cLine := Nat.lt_of_le_of_lt (Nat.add_le_add_left (by decide : 1 ≤ 64) _) hr.units
theorem small1000 {n : Nat} (h : n ≤ 1000) : n < sizeLine := Nat.lt_of_le_of_lt h (by decide)

/-! ### expressions in short: the name that stands in the i-th slot -/
section
variable {X : Cx}
theorem pv (i : Nat) {x : Str} {pos : Pos} (hN : X.N[i]? = some x := by rfl) (hv : Vis X.env.scope x := by first | exact Or.inl rfl | exact Or.inr (Or.inl rfl) | exact Or.inr (Or.inr rfl)) (hd : (x == ("__debug__" : Str)) = false := by decide)
    (hcd : (x == ("__classdict__" : Str)) = false := by decide) : PE X (.Name x pos) (tVar i) := pe_var hN hv hd hcd
end

/-! ### tests -/
theorem ite2 {c A B : Prop} [Decidable c] (h1 : c → A) (h2 : ¬ c → B) : if c then A else B := by
  by_cases h : c
  · rw [if_pos h]
    exact h1 h
  · rw [if_neg h]
    exact h2 h
/-! ### heaps -/
/-- all that was tracked is as it was -/
def Same (H H' : Hp) : Prop := ∀ b o, H b = some o → H' b = some o
theorem Same.refl (H : Hp) : Same H H := fun _ _ h => h
theorem Same.trans {H H1 H2 : Hp} (a : Same H H1) (b : Same H1 H2) : Same H H2 := fun c o h => b c o (a c o h)
theorem Same.seq {K : PySem.W.Frag} {H H' : Hp} {a : Addr} {xs : List V} (e : Same H H') (h : SqL K H a xs) : SqL K H' a xs := by
  rcases h with (h | ⟨o, h⟩) | h
  · exact .inl (.inl (e _ _ h))
  · exact .inl (.inr ⟨o, e _ _ h⟩)
  · exact .inr h

end L2


namespace L2
open PySem PySem.Spec PyProof.Rows

end L2

namespace L2
open PySem PySem.Spec PyProof.Rows

section
variable (P : Program) (w : World)
end

section
variable {P : Program} {w : World} {H H' : Hp} {h h' : Heap} {a : Addr} {o : HO}
end

section
variable {P : Program} {w : World} {H : Hp} {h h' : Heap} {x e : Addr} {o' : HO}
end

section
variable {fs fs' ex ex' : List Addr} {H H1 H2 : Hp} {h h1 h2 h' : Heap} {a x e : Addr} {o : HO}
end

end L2

namespace L2
open PySem PySem.Spec PyProof.Rows

section
variable {X : Cx} {pins : List (Addr × Obj)} {σ : List (Option V)} {H H' : Hp} {s : Shared} {h' : Heap}

end

end L2

namespace L2
open PySem PySem.Spec PyProof.Rows
section
variable {X : Cx}

variable {a b : Expr} {ta tb : TE} {pos : Pos}
variable {tA tB' : TT} {rest : List Expr}
end
end L2

namespace L2
open PySem PySem.Spec PyProof.Rows

section
variable {X : Cx} {pins : List (Addr × Obj)} {σ : St} {H : Hp} {s : Shared} {a : Addr} {xs ys : List V}
end

section
variable {X : Cx} {pins : List (Addr × Obj)} {σ : St} {H : Hp} {s : Shared} {E : Value → Shared → Prop}
end

section
variable {X : Cx} {st : Stmt} {rest : List Stmt} {t u : TS} {e : Expr} {te : TE} {pos : Pos}
end

section
variable {X : Cx} {pos : Pos}
end

section
variable {X : Cx} {pos : Pos}
end

end L2

namespace L2
open PySem PySem.Spec PyProof.Rows
section
variable {X : Cx} {tg : Expr}
end

end L2

namespace L2
open PySem PySem.Spec PyProof.Rows

section
variable {X : Cx} {a b c : Expr} {ta tb tc : TE} {pos : Pos}

end

section
variable {X : Cx} {a b c : Expr} {ta tb tc : TE} {pos : Pos}
end
end L2

namespace L2
open PySem PySem.Spec PyProof.Rows

section
variable {prog : Program} {w : World} {A : Around} {E : Value → Shared → Prop} {s : Shared} {K : PySem.W.Frag} {x dx C f : Addr} {mA : Str → Option Value} {name : Str} {v : Value}

end

section
variable {P : Program} {w : World} {H H' : Hp} {h h' : Heap} {a C dx : Addr} {fs fs' : List (Str × V)}
end

section
variable {X : Cx} {pins : List (Addr × Obj)} {σ : St} {H : Hp} {s : Shared} {a C dx : Addr} {fs : List (Str × V)} {f : Str} {v : V} {A : Around} {E : Value → Shared → Prop}

end

section
variable {X : Cx} {o e value : Expr} {f : Str} {pos pos' tpos : Pos} {ta tv : TE}
end

section
variable {X : Cx} {pins : List (Addr × Obj)} {σ : St} {H : Hp} {s : Shared} {A : Around} {E : Value → Shared → Prop} {Q : Value → Shared → Prop} {c : Value} {b : Bool}
end
end L2

namespace L2
open PySem PySem.Spec PyProof.Rows

section
variable {X : Cx} {e : Expr} {es : List Expr} {te : TE} {t : TA} {pos : Pos}
end

section
variable {X : Cx} {pins : List (Addr × Obj)} {σ : St} {H : Hp} {s s' : Shared}
end

section
variable {X : Cx} {CX : CXT} {k : Nat} {f C : Addr} {fd : FuncData} {ps : List Str} {sp : Sp} {dvs : List V} {ds : List Value} {E : XK} {x m : Str} {p pos apos : Pos} {e o : Expr} {es : List Expr} {ta : TE} {t : TA}

end

section
variable {X : Cx} {CX : CXT} {k : Nat} {f C : Addr} {fd : FuncData} {ps ks : List Str} {sp : Sp} {E : XK} {x m : Str} {p pos apos kpos : Pos} {e o : Expr} {es : List Expr} {kws : List Keyword} {te ta : TE} {t tk : TA} {nm : Option Str}
variable {g : List Value → List Value → List Value} {gV : List V → List V → List V}
end

end L2

namespace L2
open PySem PySem.Spec PyProof.Rows
section
variable {X : Cx} {x : Str} {p pos : Pos} {e : Expr} {es : List Expr} {t : TA} {id T : String} {r : List V → Hp → VK → Prop}

end
end L2

namespace L2
open PySem PySem.Spec PyProof.Rows

section
variable {κ : Type} [DecidableEq κ]
def valV (kvs : List (κ × V)) (k : κ) : Option V := (kvs.find? fun kv => decide (kv.1 = k)).map (·.2)
/-- in its place, or at the end -/
def putK (kvs : List (κ × V)) (k : κ) (v : V) : List (κ × V) :=
  if (kvs.any fun kv => decide (kv.1 = k)) = true then kvs.map (fun kv => if kv.1 = k then (kv.1, v) else kv) else kvs ++ [(k, v)]
def dropK (kvs : List (κ × V)) (k : κ) : List (κ × V) := kvs.filter fun kv => decide (kv.1 ≠ k)

end


/-- raw entries of a dict with tuple keys -/
abbrev KT (H : Hp) : List (List Key × V) → List (List Key × Addr × Value) → Prop := Paired fun p q => p.1 = q.1 ∧ H q.2.1 = some (.tup (p.1.map kV)) ∧ RelV p.2 q.2.2
section
variable {P : Program} {w : World} {H : Hp} {h : Heap} {a : Addr}
end

/-- what the dict at a holds at the key y -/
def DGet (H : Hp) (a : Addr) (y : V) (r : Option V) : Prop :=
  (∃ kvs k, Rd H a (.dK kvs) ∧ y = kV k ∧ r = valV kvs k) ∨ ∃ kvs k b, Rd H a (.dT kvs) ∧ y = .ref b ∧ H b = some (.tup (k.map kV)) ∧ r = valV kvs k
/-- the heap behind a[y] = v -/
def DPut (H : Hp) (a : Addr) (y v : V) (H' : Hp) : Prop :=
  (∃ kvs k, H a = some (.dK kvs) ∧ y = kV k ∧ kvs.length < sizeLine ∧ H' = upd H a (.dK (putK kvs k v))) ∨
  ∃ kvs k b, H a = some (.dT kvs) ∧ y = .ref b ∧ H b = some (.tup (k.map kV)) ∧ kvs.length < sizeLine ∧ H' = upd H a (.dT (putK kvs k v))
section
variable {X : Cx} {pins : List (Addr × Obj)} {σ : St} {H : Hp} {s : Shared} {a : Addr} {y v : V} {u r : Value} {o : Option V} {A : Around} {E : Value → Shared → Prop}

end

section
variable {X : Cx} {pins : List (Addr × Obj)} {σ : St} {H : Hp} {s : Shared} {a : Addr} {kvs : List (Key × V)} {k : Key} {u : Value} {A : Around} {E : Value → Shared → Prop}
end


/-- d[y] -/
def tDGet (td ty : TE) : TE := fun σ H Q => td σ H fun x H1 => ty σ H1 fun y H2 => ∃ a v, x = .ref a ∧ DGet H2 a y (some v) ∧ Q v H2
/-- d[y] = v -/
def sDPut (td ty tv : TE) : TS := fun D σ H => tv σ H fun v H1 => td σ H1 fun x H2 => ty σ H2 fun y H3 => ∃ a H4, x = .ref a ∧ DPut H3 a y v H4 ∧ D.nx σ H4
section
variable {X : Cx} {o i e value : Expr} {pos pos' tpos : Pos} {td ty tv : TE}
end


/-- {}, to be a dict of the kind that is wanted -/
def tDNewK : TE := fun _ H Q => ∀ p, H p = none → Q (.ref p) (upd H p (.dK []))
section
variable {X : Cx} {pos : Pos}
end

section
variable {X : Cx} {pins : List (Addr × Obj)} {σ : St} {H : Hp} {s : Shared} {a : Addr} {y d : V} {u r : Value} {o : Option V} {A : Around} {E : Value → Shared → Prop}
end

section
variable {X : Cx} {o e f : Expr} {apos cpos : Pos} {td ty tx : TE}
end

section
variable {X : Cx} {pins : List (Addr × Obj)} {σ : St} {H : Hp} {s : Shared} {a : Addr} {kvs : List (Key × V)} {A : Around} {E : Value → Shared → Prop}
end


section
variable {X : Cx} {pins : List (Addr × Obj)} {σ : St} {H : Hp} {s : Shared} {a : Addr} {y : V} {u : Value} {A : Around} {E : Value → Shared → Prop}
end
end L2

namespace Att
open PySem PySem.W PySem.Calls PyProof.Rows

section
variable {prog : Program} {w : World} {A : Around} {E : Value → Shared → Prop} {s : Shared} {K : Frag}

end
end Att

namespace L2
open PySem PySem.Spec PyProof.Rows

end L2

namespace L2
open PySem PySem.Spec PyProof.Rows

end L2

/- THE LAST THEOREM (shape; LID, My.* are yours):
   My.Adr: a structure of the addresses that your layer names (classes, functions); My.Txt K t: a structure (Prop) of the equations over K;
   My.txt_mk : {K} {implicit addresses ..} (e1 : nsIn K mainGlobals "law" = some (some (.ref f))) (e2 : K.lookup f = some ⟨oc, od, .func (fnOf "law" "law" params body scope dV kV doc pm an cdv ct), sl⟩) (e3 : codeIn K cdv "law" = true) .. : ∃ t, My.Txt K t

(the tactic k_is has no namespace: write k_is) -/

namespace L2
open PySem PySem.Spec PyProof.Rows

section
variable {P : Program} {w : World} {K : PySem.W.Frag} {mg : Str → Option Value} {base : Heap}
end
section
variable {X : Cx}
end

section
variable {κ : Type} [DecidableEq κ]
end
end L2


/-! ### a list comprehension of one clause -/
namespace L2
open PySem PySem.Spec PyProof.Rows
def clOf (env : Env) : List (Str × NameKind) → List (Str × Addr) → List (Str × Addr)
  | [], cs => cs
  | (n, k) :: r, cs => clOf env r (if k == .free then (n, (env.cells.lookup n).getD 0) :: cs else cs)
theorem closureFor_some {scope : Scope} {env : Env} (h : ∀ p ∈ scope.names, p.2 = .free → ∃ c, env.cells.lookup p.1 = some c) : closureFor scope env = pure (clOf env scope.names []) := by
  have all : ∀ (l : List (Str × NameKind)) (cs : List (Str × Addr)), (∀ p ∈ l, p.2 = .free → ∃ c, env.cells.lookup p.1 = some c) →
      (forIn l cs fun (x : Str × NameKind) (r : List (Str × Addr)) => if (x.2 == NameKind.free) = true then do let a ← cellOf env x.1; pure (ForInStep.yield ((x.1, a) :: r)) else (pure (ForInStep.yield r) : Sem _)) = pure (clOf env l cs) := by
    intro l
    induction l with
    | nil => intro cs _; rfl
    | cons p r ih =>
      intro cs hp
      obtain ⟨n, k⟩ := p
      rw [List.forIn_cons]
      by_cases hk : k = .free
      · subst hk
        obtain ⟨c, e⟩ := hp (n, .free) List.mem_cons_self rfl
        have e1 : cellOf env n = pure c := by unfold cellOf; rw [e]
        simp only [beq_self_eq_true, if_true, e1, pure_bind]
        rw [ih _ fun p hp' => hp p (List.mem_cons_of_mem _ hp')]
        simp [clOf, e]
      · have hb : (k == NameKind.free) = false := by simpa using hk
        simp only [hb, Bool.false_eq_true, if_false, pure_bind]
        rw [ih _ fun p hp' => hp p (List.mem_cons_of_mem _ hp')]
        simp [clOf, hb]
  simp only [closureFor]
  rw [all scope.names [] h]
  simp
theorem clOf_sub {env : Env} {x : Str} {c : Addr} : ∀ {l : List (Str × NameKind)} {cs : List (Str × Addr)}, (∀ p ∈ l, p.2 = .free → ∃ c, env.cells.lookup p.1 = some c) → (∀ x c, cs.lookup x = some c → env.cells.lookup x = some c) →
    (clOf env l cs).lookup x = some c → env.cells.lookup x = some c
  | [], _, _, h, e => h x c e
  | (n, k) :: r, cs, hp, h, e => by
    unfold clOf at e
    refine clOf_sub (fun p q => hp p (List.mem_cons_of_mem _ q)) ?_ e
    intro y d q
    by_cases hk : k = .free
    · subst hk
      obtain ⟨c', e'⟩ := hp (n, .free) List.mem_cons_self rfl
      simp only [beq_self_eq_true, if_true] at q
      rw [List.lookup_cons] at q
      cases hy : y == n with
      | true =>
        rw [hy] at q
        have : y = n := by simpa using hy
        subst this
        simp only at e'
        rw [e'] at q ⊢
        exact q
      | false => rw [hy] at q; exact h y d q
    · have hb : (k == NameKind.free) = false := by simpa using hk
      simp only [hb, Bool.false_eq_true, if_false] at q
      exact h y d q
theorem clOf_has {env : Env} {x : Str} : ∀ {l : List (Str × NameKind)} {cs : List (Str × Addr)}, ((∃ c, cs.lookup x = some c) ∨ (x, NameKind.free) ∈ l) → ∃ c, (clOf env l cs).lookup x = some c
  | [], _, h => by
    rcases h with h | h
    · exact h
    · exact absurd h (by simp)
  | (n, k) :: r, cs, h => by
    unfold clOf
    apply clOf_has
    rcases h with ⟨c, h⟩ | h
    · left
      by_cases hk : k = .free
      · subst hk
        simp only [beq_self_eq_true, if_true]
        rw [List.lookup_cons]
        cases hy : x == n with
        | true => exact ⟨_, rfl⟩
        | false => exact ⟨c, h⟩
      · have hb : (k == NameKind.free) = false := by simpa using hk
        simp only [hb, Bool.false_eq_true, if_false]
        exact ⟨c, h⟩
    · rcases List.mem_cons.mp h with e | h
      · injection e with e1 e2
        subst e1; subst e2
        left
        simp only [beq_self_eq_true, if_true]
        rw [List.lookup_cons]
        simp
      · exact .inr h
theorem lookup_relabel {scope : Scope} {env : Env} {x : Str} : (relabel scope env).names.lookup x = (scope.names.lookup x).map fun k => if (k == NameKind.free && env.scope.kind == .function && env.kindOf x == some .cell) = true then .cell else k := by
  unfold relabel
  show List.lookup x (scope.names.map _) = _
  generalize scope.names = l
  induction l with
  | nil => rfl
  | cons p r ih =>
    obtain ⟨n, k⟩ := p
    rw [List.map_cons, List.lookup_cons (as := r)]
    show List.lookup x ((if (k == NameKind.free && env.scope.kind == .function && env.kindOf n == some .cell) = true then (n, NameKind.cell) else (n, k)) :: _) = _
    cases hx : x == n with
    | true =>
      have e : x = n := by simpa using hx
      subst e
      by_cases hc : (k == NameKind.free && env.scope.kind == .function && env.kindOf x == some .cell) = true
      · rw [if_pos hc]; simp only [List.lookup_cons, beq_self_eq_true, Option.map_some]; rw [if_pos hc]
      · rw [if_neg hc]; simp only [List.lookup_cons, beq_self_eq_true, Option.map_some]; rw [if_neg hc]
    | false =>
      by_cases hc : (k == NameKind.free && env.scope.kind == .function && env.kindOf n == some .cell) = true
      · rw [if_pos hc]; simp only [List.lookup_cons, hx]; exact ih
      · rw [if_neg hc]; simp only [List.lookup_cons, hx]; exact ih
theorem mem_of_lookup {x : Str} {k : NameKind} : ∀ {l : List (Str × NameKind)}, l.lookup x = some k → (x, k) ∈ l
  | [], h => by simp at h
  | (n, j) :: r, h => by
    rw [List.lookup_cons] at h
    cases hx : x == n with
    | true =>
      rw [hx] at h
      have e : x = n := by simpa using hx
      cases h; subst e
      exact List.mem_cons_self
    | false => rw [hx] at h; exact List.mem_cons_of_mem _ (mem_of_lookup h)

/-- the block's scope fits the def's: captured names are the def's cells, no cells of its own -/
def compFit (sc out : Scope) : Bool :=
  (sc.names.all fun p => p.2 != .cell && (p.2 != .free || out.names.lookup p.1 == some .cell || out.names.lookup p.1 == some .free) && (p.2 != .local || sc.names.lookup p.1 == some .local)) && decide (sc.kind = .function)
def captFit (sc out : Scope) (N : List Str) (ix : List Nat) : Bool :=
  ix.all fun i => sc.names.lookup (N.getD i "") == some .free && (out.names.lookup (N.getD i "") == some .cell || out.names.lookup (N.getD i "") == some .free)
def capt (σ : St) (ix : List Nat) : St := ix.map fun i => σ.getD i none
abbrev captN (N : List Str) (ix : List Nat) : List Str := ix.map fun i => N.getD i ""
def cmpCx (X : Cx) (scope : Scope) (own : List Str) (ix : List Nat) (C : Addr) (s₀ : Shared) (H₀ : Hp) (ex : List Addr) : Cx where
  prog := X.prog
  w := X.w
  K := X.K
  mg := X.mg
  base := X.base
  A := X.A
  N := own ++ captN X.N ix
  s₀ := s₀
  H₀ := H₀
  env := compEnvC scope (clOf X.env scope.names []) C X.env
  outer := X.stack
  stack := X.stack
  ex := ex
  fn := fun _ => false
  calm := X.calm
  pn := []
  xe := fun _ _ => False
section
variable {X : Cx} {pins : List (Addr × Obj)} {σ : St} {H : Hp} {s : Shared}
theorem compFit_all {sc out : Scope} (h : compFit sc out = true) : ∀ p ∈ sc.names, p.2 ≠ .cell ∧ (p.2 = .free → out.names.lookup p.1 = some .cell ∨ out.names.lookup p.1 = some .free) ∧ (p.2 = .local → sc.names.lookup p.1 = some .local) := by
  intro p hp
  unfold compFit at h
  rw [Bool.and_eq_true] at h
  have := List.all_eq_true.mp h.1 p hp
  simp only [Bool.and_eq_true, Bool.or_eq_true, bne_iff_ne, beq_iff_eq, ne_eq] at this
  obtain ⟨⟨h1, h2⟩, h3⟩ := this
  refine ⟨h1, fun e => ?_, fun e => ?_⟩
  · rcases h2 with (h2 | h2) | h2
    · exact absurd e h2
    · exact .inl h2
    · exact .inr h2
  · rcases h3 with h3 | h3
    · exact absurd e h3
    · exact h3
theorem compFit_kind {sc out : Scope} (h : compFit sc out = true) : sc.kind = .function := by
  unfold compFit at h
  rw [Bool.and_eq_true] at h
  exact of_decide_eq_true h.2
theorem comp_ok {scope : Scope} {own : List Str} {ix : List Nat} {ex : List Addr} (I : Inv X pins σ H s) (hf : compFit scope X.env.scope = true) (hx : ∀ b ∈ ex, FpOk X pins H b ∧ b < s.heap.objs.size) : (cmpCx X scope own ix s.heap.objs.size s H ex).Ok := by
  have fits := (compFit_all hf)
  have hfree : ∀ p ∈ scope.names, p.2 = .free → ∃ c, X.env.cells.lookup p.1 = some c := fun p hp e => I.ok.has p.1 ((fits p hp).2.1 e)
  have sub : ∀ {x : Str} {c : Addr}, (clOf X.env scope.names []).lookup x = some c → X.env.cells.lookup x = some c := fun {x c} e => clOf_sub hfree (fun x c e => by simp at e) e
  refine ⟨I.ok.mod, (show scope.kind = .function from compFit_kind hf), I.ok.glob, I.ok.blt, Nat.le_refl _, fun x y c a b => I.ok.inj x y c (sub a) (sub b), fun x hk => ?_, fun x c e => (by cases e), I.ok.hd, I.ok.frames, .inl rfl, fun b hb => ⟨Nat.ne_of_lt (hx b hb).2, fun x c e => (hx b hb).1.2.2.2.2.1 x c (sub e)⟩, I.bs, Nat.le_trans I.ok.bsz I.sz, fun b o e hb => ?_, fun b hb hs => ?_, I.stack, I.stkFree⟩
  · refine clOf_has (.inr ?_)
    have hk' : (relabel scope X.env).names.lookup x = some .cell ∨ (relabel scope X.env).names.lookup x = some .free := hk
    rw [lookup_relabel] at hk'
    cases q : scope.names.lookup x with
    | none => rw [q] at hk'; rcases hk' with z | z <;> cases z
    | some k =>
      have hm := mem_of_lookup q
      by_cases hkf : k = .free
      · subst hkf; exact hm
      · rw [q] at hk'
        have hb : (k == NameKind.free) = false := by simpa using hkf
        simp only [Option.map_some, hb, Bool.false_and, Bool.false_eq_true, if_false, Option.some.injEq] at hk'
        rcases hk' with z | z
        · exact absurd z (fits _ hm).1
        · exact absurd z hkf
  · rcases (hx b hb).1.2.2.2.1 with z | z
    · exact I.ok.noex b o e z
    · exact absurd (Nat.lt_of_lt_of_le (Heap.lt_size e) (Nat.le_trans I.ok.bsz z)) (Nat.lt_irrefl _)
  · rcases List.mem_cons.mp (I.stkSub b hs) with z | z
    · exact (hx b hb).1.2.1 z
    · exact (hx b hb).1.2.2.1 z
theorem comp_inv {scope : Scope} {own : List Str} {ix : List Nat} {ex : List Addr} {h' : Heap} {tk : Nat} (I : Inv X pins σ H s) (hf : compFit scope X.env.scope = true) (hc : captFit scope X.env.scope X.N ix = true) (hx : ∀ b ∈ ex, FpOk X pins H b ∧ b < s.heap.objs.size)
    (hn : h'.Ns s.heap.objs.size fun _ => none) (hk : ∀ b o, s.heap.get? b = some o → h'.get? b = some o) : Inv (cmpCx X scope own ix s.heap.objs.size s H ex) [] (List.replicate own.length none ++ capt σ ix) H { s with heap := h', toks := tk } := by
  have fits := (compFit_all hf)
  have hfree : ∀ p ∈ scope.names, p.2 = .free → ∃ c, X.env.cells.lookup p.1 = some c := fun p hp e => I.ok.has p.1 ((fits p hp).2.1 e)
  have sub : ∀ {x : Str} {c : Addr}, (clOf X.env scope.names []).lookup x = some c → X.env.cells.lookup x = some c := fun {x c} e => clOf_sub hfree (fun x c e => by simp at e) e
  refine ⟨comp_ok I hf hx, rfl, I.bare, Un.kept hk, ⟨_, hn, fun i x v e1 e2 e3 => ?_⟩, fun x c e => ?_, I.hok.fresh (Nat.le_refl _), fun x c e => I.freeC x c (sub e), fun p hp => absurd (show p ∈ ([] : List (Addr × Obj)) ++ [] from hp) (by simp), I.hok.kept hk, ?_⟩
  · have e1 : (own ++ captN X.N ix)[i]? = some x := e1
    by_cases hi : i < own.length
    · rw [List.getElem?_append_left (by simpa using hi), List.getElem?_replicate, if_pos hi] at e2
      cases e2
    · have hi' : own.length ≤ i := Nat.le_of_not_lt hi
      rw [List.getElem?_append_right (by simpa using hi'), List.length_replicate] at e2
      rw [List.getElem?_append_right hi'] at e1
      unfold capt at e2
      unfold captN at e1
      rw [List.getElem?_map] at e1 e2
      cases q : ix[i - own.length]? with
      | none => rw [q] at e2; cases e2
      | some j =>
        rw [q] at e1 e2
        simp only [Option.map_some, Option.some.injEq] at e1 e2
        have hj : j ∈ ix := List.mem_of_getElem? q
        have fit := List.all_eq_true.mp hc j hj
        simp only [Bool.and_eq_true, Bool.or_eq_true, beq_iff_eq] at fit
        rw [e1] at fit
        have ej : σ[j]? = some (some v) := by
          rw [List.getD_eq_getElem?_getD] at e2
          cases r : σ[j]? with
          | none => rw [r] at e2; cases e2
          | some z => rw [r] at e2; simp only [Option.getD_some] at e2; rw [e2]
        have hjl : j < X.N.length := by rw [← I.len]; exact (List.getElem?_eq_some_iff.mp ej).1
        have en : X.N[j]? = some x := by
          rw [List.getD_eq_getElem?_getD] at e1
          rw [List.getElem?_eq_getElem hjl] at e1 ⊢
          simp only [Option.getD_some] at e1
          rw [e1]
        obtain ⟨m, hm, hl⟩ := I.loc
        have hv : Vis X.env.scope x := by
          rcases fit.2 with z | z
          · exact .inr (.inl z)
          · exact .inr (.inr z)
        obtain ⟨u, r, l⟩ := hl j x v en ej hv
        refine ⟨u, r, .inr ⟨?_, ?_⟩⟩
        · show (relabel scope X.env).names.lookup x = some .cell ∨ (relabel scope X.env).names.lookup x = some .free
          rw [lookup_relabel, fit.1]
          simp only [Option.map_some]
          split
          · exact .inl rfl
          · exact .inr rfl
        · rcases l with ⟨k1, _⟩ | ⟨_, c, ec, hcell⟩
          · have k1 : X.env.scope.names.lookup x = some .local := k1
            rcases fit.2 with z | z <;> (rw [z] at k1; cases k1)
          · obtain ⟨c', e'⟩ : ∃ c, (clOf X.env scope.names []).lookup x = some c := clOf_has (.inr (mem_of_lookup fit.1))
            have := sub e'
            rw [ec] at this
            cases this
            exact ⟨c, e', hcell.keeps hk⟩
  · obtain ⟨v, z⟩ := I.cell x c (sub e)
    exact ⟨v, z.keeps hk⟩
  · show (List.replicate own.length none ++ capt σ ix).length = (own ++ captN X.N ix).length
    simp [capt]
/-- back from the block: the state of the def, the block's own frame let go -/
theorem comp_back {scope : Scope} {own : List Str} {ix : List Nat} {ex : List Addr} {τ : St} {H' : Hp} {s' : Shared} {pins' : List (Addr × Obj)} (I : Inv X pins σ H s) (hx : ∀ b ∈ ex, FpOk X pins H b ∧ b < s.heap.objs.size)
    (I' : Inv (cmpCx X scope own ix s.heap.objs.size s H ex) pins' τ H' s') : Inv X pins σ H' s' ∧ H' s.heap.objs.size = none ∧ s.heap.objs.size ≠ X.env.locals ∧ X.s₀.heap.objs.size ≤ s.heap.objs.size ∧ (∀ x c, X.env.cells.lookup x = some c → c ≠ s.heap.objs.size) ∧ ∀ p ∈ X.pn ++ pins, p.1 ≠ s.heap.objs.size := by
  refine ⟨I.call' (ch := ex) I'.os I'.base I'.hok I'.bare fun b hb => ?_, I'.free, Nat.ne_of_gt I.lt, I.sz, fun x c e z => ?_, fun p hp z => ?_⟩
  · obtain ⟨f0, f1, f2, f3, f4, f5⟩ := (hx b hb).1
    exact ⟨f3, f1, f4, f5⟩
  · obtain ⟨v, q⟩ := I.cell x c e
    exact absurd q.lt (by rw [z]; exact Nat.lt_irrefl _)
  · exact absurd (Heap.lt_size (I.pin p hp).1) (by rw [z]; exact Nat.lt_irrefl _)
end

/-- the tests of a clause -/
def PTs (X : Cx) (ifs : List Expr) (t : TT) : Prop :=
  ∀ (pins : List (Addr × Obj)) (s : Shared) (σ : St) (H : Hp) (Q : Bool → Hp → Prop), Inv X pins σ H s → t σ H Q →
    wpAny (model X.prog X.w) X.A (forIn ifs true fun c r => if r = true then do let ok ← isTrue c X.env (eval c X.env); pure (ForInStep.yield ok) else pure (ForInStep.yield r)) (TP X pins σ Q) X.xe s
def tYes : TT := fun _ H Q => Q true H
theorem pts_nil {X : Cx} : PTs X [] tYes := fun _ _ _ H _ I h => wpAny_tests_nil ⟨H, I, h⟩
theorem pts_one {X : Cx} {c : Expr} {t : TT} (h : PT X c t) : PTs X [c] t := fun pins s σ H Q I q => wpAny_tests_one (h pins s σ H Q I q)

/-- D: the new list; W: by the turn and a measure, over the block's state and the heap -/
def compW (J : It) (D : Addr) (g : TG) (tc : TT) (te : TE) (Q : VK) (τ : St) (H : Hp) : Prop := ∃ W : Nat → Nat → St → Hp → Prop, (∃ m, W 0 m τ H) ∧ ∀ i m τ H, W i m τ H →
  (J.stop i H ∧ Q (.ref D) H) ∨ (J.go i H ∧ ∃ N : St → Hp → Prop, (∀ τ' H', N τ' H' → ∃ m', m' < m ∧ W (i + 1) m' τ' H') ∧ ∀ x H', J.yld i H x H' → g x τ H' fun τ2 H2 => tc τ2 H2 fun b H3 => if b = true then
    te τ2 H3 fun y H4 => ∃ ys, H4 D = some (.lst ys) ∧ ys.length < sizeLine ∧ N τ2 (upd H4 D (.lst (ys ++ [y]))) else N τ2 H3)
def tComp (wi : TI) (k : Nat) (ix : List Nat) (g : TG) (tc : TT) (te : TE) : TE := fun σ H Q => wi σ H fun J H1 => ∀ D, H1 D = none → compW J D g tc te Q (List.replicate k none ++ capt σ ix) (upd H1 D (.lst []))
section
variable {X : Cx} {tg iter elt : Expr} {ifs : List Expr} {scope : Scope} {pos : Pos} {own : List Str} {ix : List Nat} {wi : TI} {g : TG} {tc : TT} {te : TE}
theorem comp_loop {it D : Addr} {fp : List Addr} {tn : Nat → Heap → Prop} {J : It} {Q : VK} {R : Result → Shared → Prop} {s : Shared} {τ : St} {H : Hp} (hcalm : X.calm = true) (hxe : X.xe = fun _ _ => False) (hpn : X.pn = []) (T : Turn X.prog X.w X.K tg J fp it tn)
    (he : PE X elt te) (hg : PG X tg g) (ht : PTs X ifs tc) (I : Inv X [] τ H s) (hfp : ∀ b ∈ fp, FpOk X [] H b) (h0 : tn 0 s.heap) (hW : compW J D g tc te Q τ H)
    (hR : ∀ τ' H' s', Inv X [] τ' H' s' → Q (.ref D) H' → R (.ok .next) s') :
    codeAny (model X.prog X.w) X.A (.compLoop (.ListComp elt [⟨tg, iter, ifs, 0⟩] scope pos) 0 (.ref it) (.ref D) X.env) R s := by
  obtain ⟨W, ⟨m0, w0⟩, turn⟩ := hW
  have no : ∀ {E : Value → Shared → Prop} (e : Value) (s' : Shared), X.xe e s' → E e s' := fun e s' z => by rw [hxe] at z; exact z.elim
  have stat : ∀ {H' : Hp}, (∀ b ∈ fp, H' b = none) → ∀ b ∈ fp, FpOk X [] H' b := fun hn b hb => ⟨hn b hb, (hfp b hb).2⟩
  refine codeAny_loop rfl (fun n s' => ∃ i τ' H', Inv X [] τ' H' s' ∧ tn i s'.heap ∧ (∀ b ∈ fp, H' b = none) ∧ W i n τ' H') (fun n s3 hI => ?_) m0 ⟨0, τ, H, I, h0, fun b hb => (hfp b hb).1, w0⟩
  obtain ⟨i, τ3, H3, I3, st3, fr3, w3⟩ := hI
  show wpAny _ X.A ((compTurn (.ListComp elt [⟨tg, iter, ifs, 0⟩] scope pos) 0 (.ref it) (.ref D) X.env).onRaise (fun x => do noteFrame x X.env; theTreesLotGoes x)) _ _ s3
  refine wpAny_noted ?_
  rw [compTurn_list]
  refine wpAny_bind (wpAny_standAt (wpAny_bind ?_))
  rcases turn i n τ3 H3 w3 with ⟨stop, q⟩ | ⟨go, N, hN, step⟩
  · refine wpAny_mono (T.done X rfl rfl rfl hcalm i [] s3 τ3 H3 X.xe I3 (stat fr3) st3 stop) (fun r s4 ⟨hr, I4⟩ => ?_) no
    subst hr
    exact wpAny_pure (hR τ3 H3 s4 I4 q)
  · refine wpAny_mono (T.item X rfl rfl rfl hcalm i [] s3 τ3 H3 X.xe I3 (stat fr3) st3 go) (fun r s4 ⟨u, hr, h4⟩ => ?_) no
    subst hr
    refine wpAny_bind (wpAny_mono h4 (fun _ s5 ⟨x, H5, I5, r5, y5, st5, fr5⟩ => ?_) no)
    have I5' := I5.pinned (stat fr5) (T.obj _ _ st5)
    refine wpAny_bind (wpAny_mono (hg _ s5 τ3 H5 x u _ I5' r5 (step x H5 y5)) (fun _ s6 ⟨τ6, H6, I6, q6⟩ => ?_) no)
    refine wpAny_bind (wpAny_mono (ht _ s6 τ6 H6 _ I6 q6) (fun b s7 ⟨H7, I7, q7⟩ => ?_) no)
    have again : ∀ {τ7 : St} {H7 : Hp} {s7 : Shared}, Inv X ([] ++ pinsAt fp s5.heap) τ7 H7 s7 → N τ7 H7 → ∃ m, m < n ∧ ∃ i σ' H', Inv X [] σ' H' s7 ∧ tn i s7.heap ∧ (∀ b ∈ fp, H' b = none) ∧ W i m σ' H' := fun {τ7 H7 s7} I7 n7 => by
      obtain ⟨m', hm, w7⟩ := hN τ7 H7 n7
      refine ⟨m', hm, i + 1, τ7, H7, I7.unpinned, T.keep _ _ _ st5 fun b hb o e => (I7.pin (b, o) (List.mem_append_right _ (List.mem_append_right _ (mem_pinsAt hb e)))).1, fun b hb => ?_, w7⟩
      obtain ⟨o, e, d⟩ := T.obj _ _ st5 b hb
      exact (I7.pin (b, o) (List.mem_append_right _ (List.mem_append_right _ (mem_pinsAt hb e)))).2.1
    cases b with
    | false => exact wpAny_pure ⟨rfl, again I7 q7⟩
    | true =>
      refine wpAny_bind (wpAny_bind (wpAny_mono (he _ s7 τ6 H7 _ I7 q7) (fun v s8 ⟨y, H8, I8, r8, ys, hD, hl, q8⟩ => wpAny_bind ?_) no))
      refine wpAny_mono (mt_append _ s8 τ6 H8 (.ref D) [y] (.ref D) [v] (fun _ H' => N τ6 H') I8 rfl (.cons r8 .nil) ⟨D, ys, y, rfl, rfl, hD, hl, q8⟩) (fun _ s9 ⟨_, H9, I9, _, q9⟩ => ?_) no
      exact wpAny_pure (wpAny_pure ⟨rfl, again I9 q9⟩)
/-- the block from its source on; U: what is to be done with the list ahead of the block's end -/
theorem comp_run {pins : List (Addr × Obj)} {s : Shared} {σ : St} {H : Hp} {Q : VK} {use : Option (Value → Sem Unit)} {Q' : Value → Shared → Prop} (hcalm : X.calm = true) (hf : compFit scope X.env.scope = true) (hc : captFit scope X.env.scope X.N ix = true)
    (hi : PI X tg iter wi) (hg : ∀ C s₀ H₀ ex, PG (cmpCx X scope own ix C s₀ H₀ ex) tg g) (ht : ∀ C s₀ H₀ ex, PTs (cmpCx X scope own ix C s₀ H₀ ex) ifs tc) (he : ∀ C s₀ H₀ ex, PE (cmpCx X scope own ix C s₀ H₀ ex) elt te)
    (I : Inv X pins σ H s) (h : tComp wi own.length ix g tc te σ H Q)
    (hU : ∀ (D C : Addr) (H' : Hp) (s' : Shared) (m : Str → Option Value), Inv X pins σ H' s' → Q (.ref D) H' → s'.heap.Ns C m → H' C = none → C ≠ X.env.locals → X.s₀.heap.objs.size ≤ C → (∀ x c, X.env.cells.lookup x = some c → c ≠ C) → (∀ p ∈ X.pn ++ pins, p.1 ≠ C) → compPost (model X.prog X.w) X.A X.xe use Q' (.ref D) C (.ok .next) s')
    (hs : ∀ x, foldedSetIterable iter X.env x = pure x) :
    wpAny (model X.prog X.w) X.A (comprehension (.ListComp elt [⟨tg, iter, ifs, 0⟩] scope pos) scope X.env (firstIterPos [⟨tg, iter, ifs, 0⟩] pos) (newList []) false (eval iter X.env) use) Q' X.xe s := by
  have fits := (compFit_all hf)
  have hfree : ∀ p ∈ scope.names, p.2 = .free → ∃ c, X.env.cells.lookup p.1 = some c := fun p hp e => I.ok.has p.1 ((fits p hp).2.1 e)
  refine wpAny_comprehension_free (use := use) rfl hs (closureFor_some hfree) (compFit_kind hf) (fun x hx => (fits x hx).2.2) ?_
  refine thn (hi pins s σ H _ I h) fun v s1 h1 => thn h1 fun itv s2 h2 => ?_
  obtain ⟨it, fp, tn, J, H2, e, I2, T, st2, f2, hW⟩ := h2
  subst e
  refine wpAny_newObj_type (hd := by size_fits) ?_
  have hD : H2 s2.heap.objs.size = none := I2.hok.fresh (Nat.le_refl _)
  have I3 : Inv X pins σ (upd H2 s2.heap.objs.size (.lst [])) { s2 with heap := s2.heap.push { cls := .type "list", dict := none, data := .seq ([] : List Value).toArray } } :=
    I2.laid (t' := s2.toks) (fun b u e => Heap.get?_push_of_some _ e) (Nat.le_refl _) ⟨Nat.zero_le _, [], 0, .nil, Heap.get?_push_size _ rfl⟩
  have W3 := hW s2.heap.objs.size hD
  have lt3 : ∀ b ∈ fp, b < s2.heap.objs.size := fun b hb => let ⟨o, e, _⟩ := T.obj _ _ st2 b hb; Heap.lt_size e
  have fp3 : ∀ b ∈ fp, FpOk X pins (upd H2 s2.heap.objs.size (.lst [])) b ∧ b < (s2.heap.push { cls := .type "list", dict := none, data := .seq ([] : List Value).toArray }).objs.size := fun b hb =>
    ⟨⟨by rw [upd_ne (Nat.ne_of_lt (lt3 b hb))]; exact (f2 b hb).1, (f2 b hb).2⟩, by rw [Heap.size_push]; exact Nat.lt_succ_of_lt (lt3 b hb)⟩
  have st3 : tn 0 (s2.heap.push { cls := .type "list", dict := none, data := .seq ([] : List Value).toArray }) := T.keep _ _ _ st2 fun b _ o e => Heap.get?_push_of_some _ e
  generalize hs3 : ({ s2 with heap := s2.heap.push { cls := .type "list", dict := none, data := .seq ([] : List Value).toArray } } : Shared) = s3 at I3
  generalize hH3 : upd H2 s2.heap.objs.size (.lst []) = H3 at I3 W3 fp3
  have eh : s2.heap.push { cls := .type "list", dict := none, data := .seq ([] : List Value).toArray } = s3.heap := by rw [← hs3]
  rw [eh] at fp3 st3
  refine wpAny_newFunctionEnv (fun x hx => (fits x hx).1) (by intro y hy; simp at hy) (fun h4 hns hsb => ?_) (compFit_kind hf)
  have kept : ∀ b o, s3.heap.get? b = some o → h4.get? b = some o := fun b o e => hsb.extBut b o (Nat.ne_of_lt (Heap.lt_size e)) (Heap.get?_push_of_some _ e)
  have I4 := comp_inv (own := own) (tk := s3.toks + ([] : List (Str × Value)).length) I3 hf hc fp3 hns kept
  have fp4 : ∀ b ∈ fp, FpOk (cmpCx X scope own ix s3.heap.objs.size s3 H3 fp) [] H3 b := fun b hb => by
    obtain ⟨⟨f0, f1, f2', f3, f4, f5⟩, lt⟩ := fp3 b hb
    refine ⟨f0, Nat.ne_of_lt lt, fun z => ?_, .inl hb, fun x c e => f4 x c (clOf_sub hfree (fun x c e => by simp at e) e), fun p hp => absurd (show p ∈ ([] : List (Addr × Obj)) ++ [] from hp) (by simp)⟩
    rcases List.mem_cons.mp (I3.stkSub b z) with z | z
    · exact f1 z
    · exact f2' z
  have st4 : tn 0 h4 := T.keep _ _ _ st3 fun b _ o e => kept b o e
  have loop := comp_loop (X := cmpCx X scope own ix s3.heap.objs.size s3 H3 fp) (iter := iter) (scope := scope) (pos := pos) (R := compPost (model X.prog X.w) X.A X.xe use Q' (.ref s2.heap.objs.size) s3.heap.objs.size) hcalm rfl rfl T (he _ _ _ _) (hg _ _ _ _) (ht _ _ _ _) I4 fp4 st4 W3
    (fun τ' H' s' I' q => by
      obtain ⟨J1, J2, J3, J4, J5, J6⟩ := comp_back I3 fp3 I'
      obtain ⟨m, hm, _⟩ := I'.loc
      exact hU _ _ H' s' m J1 q hm J2 J3 J4 J5 J6)
  exact codeAny_compStart_list loop (T.self X.A 0 _ _ _ st4 loop)
theorem pe_comp (hcalm : X.calm = true) (hf : compFit scope X.env.scope = true) (hc : captFit scope X.env.scope X.N ix = true)
    (hi : PI X tg iter wi) (hg : ∀ C s₀ H₀ ex, PG (cmpCx X scope own ix C s₀ H₀ ex) tg g) (ht : ∀ C s₀ H₀ ex, PTs (cmpCx X scope own ix C s₀ H₀ ex) ifs tc) (he : ∀ C s₀ H₀ ex, PE (cmpCx X scope own ix C s₀ H₀ ex) elt te)
    (hs : ∀ x, foldedSetIterable iter X.env x = pure x := by intro _; rfl) : PE X (.ListComp elt [⟨tg, iter, ifs, 0⟩] scope pos) (tComp wi own.length ix g tc te) := by
  intro pins s σ H Q I h
  rw [eval_ListComp]
  refine comp_run (use := none) hcalm hf hc hi hg ht he I h (fun D C H' s' m I' q hm n1 n2 n3 n4 n5 => ?_) hs
  refine ⟨m, hm, fun h' sb => ⟨.ref D, H', ?_, rfl, q⟩⟩
  exact I'.turned (t' := s'.toks) (it := C) (fun b o hb e => sb.extBut b o hb e) n1 (Ne.symm (Ne.symm n2)) (.inr n3) n4 n5
/-- name = [..] where the store comes ahead of the block's end -/
theorem ps_setC {i : Nat} {y : Str} {py spos : Pos} (hN : X.N.Nodup) (hiy : X.N[i]? = some y) (hy : Loc X.env.scope y) (hcalm : X.calm = true) (hf : compFit scope X.env.scope = true) (hc : captFit scope X.env.scope X.N ix = true)
    (hi : PI X tg iter wi) (hg : ∀ C s₀ H₀ ex, PG (cmpCx X scope own ix C s₀ H₀ ex) tg g) (ht : ∀ C s₀ H₀ ex, PTs (cmpCx X scope own ix C s₀ H₀ ex) ifs tc) (he : ∀ C s₀ H₀ ex, PE (cmpCx X scope own ix C s₀ H₀ ex) elt te)
    (hsw : swapsWith (.ListComp elt [⟨tg, iter, ifs, 0⟩] scope pos) (some (.Name y py)) spos.line X.env = pure true := by rfl)
    (hs : ∀ x, foldedSetIterable iter X.env x = pure x := by intro _; rfl) (hfn : X.fn y = true ∨ X.env.scope.names.lookup y = some .local := by first | exact .inl rfl | exact .inr rfl | assumption) :
    PS X (.Assign [.Name y py] (.ListComp elt [⟨tg, iter, ifs, 0⟩] scope pos) spos) (tAsg (tComp wi own.length ix g tc te) (gName i)) := by
  intro pins s σ H D I h
  rw [exec_Assign_Name_used _ _ _ _ hsw]
  refine wpAny_bind (wpAny_standAt (wpAny_bind ?_))
  show wpAny _ _ (do let _ ← comprehension (.ListComp elt [⟨tg, iter, ifs, 0⟩] scope pos) scope X.env _ (newList []) false (eval iter X.env) (some (assign (.Name y py) X.env))) _ _ s
  refine wpAny_bind (wpAny_mono (comp_run (use := some (assign (.Name y py) X.env)) (Q' := fun _ s' => SP X pins D .next s') hcalm hf hc hi hg ht he I h (fun L C H' s' m I' q hm n1 n2 n3 n4 n5 => ?_) hs) (fun _ s' hq => wpAny_pure (wpAny_pure hq)) fun _ _ e => e)
  show wpAny _ _ (assign (.Name y py) X.env (.ref L)) _ _ _
  refine wpAny_assign_Name (store_ok2 I' hN hiy hy (v := .ref L) rfl (fun s2 I2 ⟨a, sb, ha⟩ => ?_) hfn)
  have hCa : C ≠ a := by
    rcases ha with rfl | ha
    · exact n2
    · exact fun z => n4 y a ha z.symm
  refine ⟨m, hm.sameBut sb hCa, fun h' sb' => ⟨_, H', ?_, q⟩⟩
  exact I2.turned (t' := s2.toks) (it := C) (fun b o hb e => sb'.extBut b o hb e) n1 n2 (.inr n3) n4 n5
end
end L2

/-! ### deep values -/
namespace L2
open PySem PySem.Spec PyProof.Rows
/-- a value with all that it holds -/
inductive Dp where
  | non | bl (b : Bool) | int (i : Int) | str (x : Str) | tup (l : List Dp) | lst (l : List Dp)
mutual
def Rep (K : PySem.W.Frag) (H : Hp) : Dp → V → Prop
  | .non, v => v = .non
  | .bl b, v => v = .bl b
  | .int i, v => v = .int i
  | .str x, v => v = .str x
  | .tup l, v => ∃ a xs, v = .ref a ∧ SqT K H a xs ∧ Reps K H l xs
  | .lst l, v => ∃ a xs, v = .ref a ∧ SqL K H a xs ∧ Reps K H l xs
def Reps (K : PySem.W.Frag) (H : Hp) : List Dp → List V → Prop
  | [], vs => vs = []
  | d :: ds, vs => ∃ v r, vs = v :: r ∧ Rep K H d v ∧ Reps K H ds r
end
mutual
def Dp.deep : Dp → Nat
  | .tup l => Dp.deeps l + 1
  | .lst l => Dp.deeps l + 1
  | _ => 0
def Dp.deeps : List Dp → Nat
  | [] => 0
  | d :: ds => max d.deep (Dp.deeps ds)
end
theorem Same.seqT {K : PySem.W.Frag} {H H' : Hp} {a : Addr} {xs : List V} (e : Same H H') (h : SqT K H a xs) : SqT K H' a xs := by
  rcases h with (h | ⟨o, h⟩) | h
  · exact .inl (.inl (e _ _ h))
  · exact .inl (.inr ⟨o, e _ _ h⟩)
  · exact .inr h
mutual
theorem Rep.mono {K : PySem.W.Frag} {H H' : Hp} (e : Same H H') : ∀ {d : Dp} {v : V}, Rep K H d v → Rep K H' d v
  | .non, _, h => h
  | .bl _, _, h => h
  | .int _, _, h => h
  | .str _, _, h => h
  | .tup l, _, h => by
    unfold Rep at h ⊢
    obtain ⟨a, xs, e1, e2, e3⟩ := h
    exact ⟨a, xs, e1, e.seqT e2, Reps.mono e e3⟩
  | .lst l, _, h => by
    unfold Rep at h ⊢
    obtain ⟨a, xs, e1, e2, e3⟩ := h
    exact ⟨a, xs, e1, e.seq e2, Reps.mono e e3⟩
theorem Reps.mono {K : PySem.W.Frag} {H H' : Hp} (e : Same H H') : ∀ {ds : List Dp} {vs : List V}, Reps K H ds vs → Reps K H' ds vs
  | [], _, h => h
  | d :: ds, _, h => by
    unfold Reps at h ⊢
    obtain ⟨v, r, e1, e2, e3⟩ := h
    exact ⟨v, r, e1, Rep.mono e e2, Reps.mono e e3⟩
end
theorem Reps.nil {K : PySem.W.Frag} {H : Hp} : Reps K H [] [] := by unfold Reps; rfl
theorem Reps.cons {K : PySem.W.Frag} {H : Hp} {d : Dp} {ds : List Dp} {v : V} {vs : List V} (h : Rep K H d v) (h' : Reps K H ds vs) : Reps K H (d :: ds) (v :: vs) := by unfold Reps; exact ⟨v, vs, rfl, h, h'⟩
theorem Rep.tup_iff {K : PySem.W.Frag} {H : Hp} {l : List Dp} {v : V} : Rep K H (.tup l) v ↔ ∃ a xs, v = .ref a ∧ SqT K H a xs ∧ Reps K H l xs := by unfold Rep; exact Iff.rfl
theorem Rep.lst_iff {K : PySem.W.Frag} {H : Hp} {l : List Dp} {v : V} : Rep K H (.lst l) v ↔ ∃ a xs, v = .ref a ∧ SqL K H a xs ∧ Reps K H l xs := by unfold Rep; exact Iff.rfl
theorem Rep.int_iff {K : PySem.W.Frag} {H : Hp} {i : Int} {v : V} : Rep K H (.int i) v ↔ v = .int i := by unfold Rep; exact Iff.rfl
theorem Rep.str_iff {K : PySem.W.Frag} {H : Hp} {x : Str} {v : V} : Rep K H (.str x) v ↔ v = .str x := by unfold Rep; exact Iff.rfl
theorem Rep.bl_iff {K : PySem.W.Frag} {H : Hp} {b : Bool} {v : V} : Rep K H (.bl b) v ↔ v = .bl b := by unfold Rep; exact Iff.rfl
theorem Rep.non_iff {K : PySem.W.Frag} {H : Hp} {v : V} : Rep K H .non v ↔ v = .non := by unfold Rep; exact Iff.rfl
theorem Reps.nil_iff {K : PySem.W.Frag} {H : Hp} {vs : List V} : Reps K H [] vs ↔ vs = [] := by unfold Reps; exact Iff.rfl
theorem Reps.cons_iff {K : PySem.W.Frag} {H : Hp} {d : Dp} {ds : List Dp} {vs : List V} : Reps K H (d :: ds) vs ↔ ∃ v r, vs = v :: r ∧ Rep K H d v ∧ Reps K H ds r := by conv => lhs; unfold Reps
theorem Same.new {H : Hp} {p : Addr} (h : H p = none) (o : HO) : Same H (upd H p o) := fun b u q => by rw [upd_ne (ne_of_none q h)]; exact q

section
variable {X : Cx} {pins : List (Addr × Obj)} {σ : St} {H : Hp} {s : Shared}
end
section
variable {X : Cx}
/-- x == y, x != y of two of the same make -/
def rSame (K : PySem.W.Frag) (b : Bool) : R2 := fun x y H Q => ∃ d, Rep K H d x ∧ Rep K H d y ∧ d.deep ≤ 150 ∧ Q (.bl b) H
end
section
variable {X : Cx}
/-- isinstance(x, T) of a built-in type, of an own class -/
theorem call_isT : CallR X (.builtin "isinstance") (fun xs H Q => ∃ x T t b, xs = [x, .ty T] ∧ TyOf X.K H x t ∧ PySem.W.kitOne X.K t (.type T) = some b ∧ Q (.bl b) H) := by
  intro pins s σ H xs us Q I r h
  obtain ⟨x, T, t, b, rfl, ty, e, q⟩ := h
  obtain ⟨u1, u2, rfl, r1, r2⟩ := vals2 r
  cases (show u2 = Value.type T from r2)
  exact isinst_ok I r1 ty e fun tk => ⟨.bl b, H, I.tok tk, rfl, q⟩
end
/-! ### a def of the text with its address -/
structure DefAt (K : PySem.W.Frag) (mg : Str → Option Value) (x : Str) (st : Stmt) (ps : List Str) (f : Addr) (fd : FuncData) : Prop where
  F : Fun K x x st f fd
  b : Binds K fd ps []
  m : mg x = some (.ref f)
end L2

/-! ### the reading by rewriting -/
namespace L2
open PySem PySem.Spec PyProof.Rows
theorem rI0_i {g : Int → Int → V} {i j : Int} {H : Hp} {Q : VK} : rI0 g (.int i) (.int j) H Q ↔ Q (g i j) H := ⟨fun ⟨_, _, e1, e2, q⟩ => by cases e1; cases e2; exact q, fun q => ⟨_, _, rfl, rfl, q⟩⟩
theorem rI_i {C : Int → Int → Prop} {g : Int → Int → V} {i j : Int} {H : Hp} {Q : VK} : rI C g (.int i) (.int j) H Q ↔ C i j ∧ Q (g i j) H := ⟨fun ⟨_, _, e1, e2, c, q⟩ => by cases e1; cases e2; exact ⟨c, q⟩, fun q => ⟨_, _, rfl, rfl, q⟩⟩
theorem tVar_0 {a : V} {r : St} {H : Hp} {Q : VK} : tVar 0 (some a :: r) H Q ↔ Q a H := ⟨fun ⟨_, e, q⟩ => by cases e; exact q, fun q => ⟨_, rfl, q⟩⟩
theorem tVar_1 {a : Option V} {r : St} {H : Hp} {Q : VK} : tVar 1 (a :: r) H Q ↔ tVar 0 r H Q := Iff.rfl
theorem tVar_2 {a : Option V} {r : St} {H : Hp} {Q : VK} : tVar 2 (a :: r) H Q ↔ tVar 1 r H Q := Iff.rfl
theorem tVar_3 {a : Option V} {r : St} {H : Hp} {Q : VK} : tVar 3 (a :: r) H Q ↔ tVar 2 r H Q := Iff.rfl
theorem tVar_4 {a : Option V} {r : St} {H : Hp} {Q : VK} : tVar 4 (a :: r) H Q ↔ tVar 3 r H Q := Iff.rfl
theorem tVar_5 {a : Option V} {r : St} {H : Hp} {Q : VK} : tVar 5 (a :: r) H Q ↔ tVar 4 r H Q := Iff.rfl
theorem tVar_6 {a : Option V} {r : St} {H : Hp} {Q : VK} : tVar 6 (a :: r) H Q ↔ tVar 5 r H Q := Iff.rfl
theorem tVar_7 {a : Option V} {r : St} {H : Hp} {Q : VK} : tVar 7 (a :: r) H Q ↔ tVar 6 r H Q := Iff.rfl
theorem tVar_8 {a : Option V} {r : St} {H : Hp} {Q : VK} : tVar 8 (a :: r) H Q ↔ tVar 7 r H Q := Iff.rfl
theorem tVar_9 {a : Option V} {r : St} {H : Hp} {Q : VK} : tVar 9 (a :: r) H Q ↔ tVar 8 r H Q := Iff.rfl
theorem tC_i {v : V} {σ : St} {H : Hp} {Q : VK} : tC v σ H Q ↔ Q v H := Iff.rfl
theorem tOp_i {r : R2} {ta tb : TE} {σ : St} {H : Hp} {Q : VK} : tOp r ta tb σ H Q ↔ ta σ H fun x H1 => tb σ H1 fun y H2 => r x y H2 Q := Iff.rfl
theorem ex_bl {b : Bool} {p : Bool → Prop} : (∃ k, V.bl b = .bl k ∧ p k) ↔ p b := ⟨fun ⟨_, e, q⟩ => by cases e; exact q, fun q => ⟨_, rfl, q⟩⟩
theorem ex_int {b : Int} {p : Int → Prop} : (∃ k, V.int b = .int k ∧ p k) ↔ p b := ⟨fun ⟨_, e, q⟩ => by cases e; exact q, fun q => ⟨_, rfl, q⟩⟩
theorem ex_ref {b : Addr} {p : Addr → Prop} : (∃ k, V.ref b = .ref k ∧ p k) ↔ p b := ⟨fun ⟨_, e, q⟩ => by cases e; exact q, fun q => ⟨_, rfl, q⟩⟩
theorem tTest_i {t : TE} {σ : St} {H : Hp} {Q : Bool → Hp → Prop} : tTest t σ H Q ↔ t σ H fun x H' => ∃ k, x = .bl k ∧ Q k H' := Iff.rfl
theorem rEq_i {x y : V} {H : Hp} {Q : VK} : rEq x y H Q ↔ scal x y = true ∧ Q (.bl (decide (x = y))) H := Iff.rfl
theorem rNe_i {x y : V} {H : Hp} {Q : VK} : rNe x y H Q ↔ scal x y = true ∧ Q (.bl (!decide (x = y))) H := Iff.rfl
theorem int_eq {i j : Int} : (V.int i = V.int j) = (i = j) := by simp
theorem str_eq {i j : Str} : (V.str i = V.str j) = (i = j) := by simp
theorem ite_dec {c : Prop} [Decidable c] {A B : Prop} : (if decide c = true then A else B) ↔ if c then A else B := by simp
theorem ite_ndec {c : Prop} [Decidable c] {A B : Prop} : (if (!decide c) = true then A else B) ↔ if c then B else A := by by_cases h : c <;> simp [h]
/-- a subscript by a number -/
theorem rIxT_i {K : PySem.W.Frag} {p : Addr} {i : Int} {H : Hp} {Q : VK} {xs : List V} {v : V} (h : SqT K H p xs) (hv : atI xs i = some v) (q : Q v H) : rIxT K (.ref p) (.int i) H Q := ⟨p, xs, i, v, rfl, rfl, h, hv, q⟩
theorem rIxL_i {K : PySem.W.Frag} {p : Addr} {i : Int} {H : Hp} {Q : VK} {xs : List V} {v : V} (h : SqL K H p xs) (hv : atI xs i = some v) (q : Q v H) : rIxL K (.ref p) (.int i) H Q := ⟨p, xs, i, v, rfl, rfl, h, hv, q⟩
section
variable {P : Program} {w : World} {K : PySem.W.Frag} {mg : Str → Option Value} {base : Heap}
/-- THE RULE for a def, the frame's values written out -/
theorem Fun.okS {x qual : Str} {st : Stmt} {f : Addr} {fd : FuncData} {N ps : List Str} {k : Nat} {sp : Sp} (F : Fun K x qual st f fd) (S : FnScope N ps (defScope st)) (len : ∀ vs H Q E, sp vs H Q E → vs.length = ps.length)
    (hbody : ∀ (cdv : Value) (A : Around) (outer : List Env) (s : Shared) (H : Hp) (vs : List V) (Q : VK) (E : XK), Room k (A.deeper (envOfC qual (defScope st) s.heap.objs.size f cdv)) → sp vs H Q E →
      ∃ t σ, PSs (cxOf CX0 P w K mg base N qual (defScope st) f cdv A outer s H E).nox (defBody st) t ∧ L2.start N vs = σ ∧ t { nx := fun _ H' => Q .non H', rt := Q } σ H) : FnOk P w K mg base CX0 (k + 1) f fd ps sp :=
  F.ok S len fun cdv A outer s H vs Q E hr h => let ⟨t, _, h1, h2, h3⟩ := hbody cdv A outer s H vs Q E hr h; ⟨t, h1, by rw [h2]; exact h3⟩
end
theorem atI_getD {α : Type} {xs : List α} {i : Int} (d : α) (h0 : 0 ≤ i) (h1 : i < xs.length) : atI xs i = some (xs.getD i.toNat d) := by
  have e : i = ((i.toNat : Nat) : Int) := by omega
  have h2 : i.toNat < xs.length := by omega
  conv => lhs; rw [e]
  refine atI_nat ?_
  rw [List.getD_eq_getElem?_getD, List.getElem?_eq_getElem h2]
  rfl
theorem atI_map {α β : Type} {f : α → β} {xs : List α} {i : Int} (d : α) (h0 : 0 ≤ i) (h1 : i < xs.length) : atI (xs.map f) i = some (f (xs.getD i.toNat d)) := by
  have e : i = ((i.toNat : Nat) : Int) := by omega
  have h2 : i.toNat < xs.length := by omega
  conv => lhs; rw [e]
  refine atI_nat ?_
  rw [List.getElem?_map, List.getD_eq_getElem?_getD, List.getElem?_eq_getElem h2]
  rfl
theorem tCall_i {sp : Sp} {dvs : List V} {E : XK} {t : TA} {σ : St} {H : Hp} {Q : VK} : tCall sp dvs E t σ H Q ↔ t σ H fun vs H1 => sp (vs ++ dvs) H1 Q E := Iff.rfl
theorem tCons_i {ta : TE} {tr : TA} {σ : St} {H : Hp} {Q : List V → Hp → Prop} : tCons ta tr σ H Q ↔ ta σ H fun x H1 => tr σ H1 fun xs H2 => Q (x :: xs) H2 := Iff.rfl
theorem tNil_i {σ : St} {H : Hp} {Q : List V → Hp → Prop} : tNil σ H Q ↔ Q [] H := Iff.rfl
theorem tTup_i {t : TA} {σ : St} {H : Hp} {Q : VK} : tTup t σ H Q ↔ t σ H fun xs H1 => xs.length ≤ sizeLine ∧ ∀ p, H1 p = none → Q (.ref p) (upd H1 p (.tup xs)) := Iff.rfl
theorem tLst_i {t : TA} {σ : St} {H : Hp} {Q : VK} : tLst t σ H Q ↔ t σ H fun xs H1 => xs.length ≤ sizeLine ∧ ∀ p, H1 p = none → Q (.ref p) (upd H1 p (.lst xs)) := Iff.rfl
theorem small_i {n : Nat} (h : n ≤ 1000) : n ≤ sizeLine := Nat.le_of_lt (small1000 h)
theorem rIxL_new {K : PySem.W.Frag} {p : Addr} {i : Int} {H : Hp} {Q : VK} {xs : List V} {v : V} (hv : atI xs i = some v) (q : Q v (upd H p (.lst xs))) : rIxL K (.ref p) (.int i) (upd H p (.lst xs)) Q := ⟨p, xs, i, v, rfl, rfl, .of upd_same, hv, q⟩
theorem Same.new1 {H H1 : Hp} (s : Same H H1) {p : Addr} (h : H1 p = none) (o : HO) : Same H (upd H1 p o) := s.trans (Same.new h o)
/-- a new tuple's make -/
theorem Rep.new {K : PySem.W.Frag} {H : Hp} {p : Addr} {vs : List V} {ds : List Dp} (h : H p = none) (r : Reps K H ds vs) : Rep K (upd H p (.tup vs)) (.tup ds) (.ref p) := Rep.tup_iff.mpr ⟨p, vs, rfl, .of upd_same, r.mono (Same.new h _)⟩
theorem scal_ii {i j : Int} : scal (.int i) (.int j) = true := rfl
theorem scal_ss {i j : Str} : scal (.str i) (.str j) = true := rfl
theorem le_line {n : Nat} (h : n ≤ 1000) : (n ≤ sizeLine) = True := eq_true (small_i h)
theorem CDiv_i {i j : Int} : CDiv i j ↔ 0 < j ∧ j < 1073741824 := Iff.rfl
theorem cxOf_K {CX : CXT} {P : Program} {w : World} {K : PySem.W.Frag} {mg : Str → Option Value} {base : Heap} {N : List Str} {qual : Str} {scope : Scope} {f : Addr} {cd : Value} {A : Around} {outer : List Env} {s : Shared} {H : Hp} {E : XK} : (cxOf CX P w K mg base N qual scope f cd A outer s H E).K = K := rfl
theorem cmpCx_K {X : Cx} {scope : Scope} {own : List Str} {ix : List Nat} {C : Addr} {s₀ : Shared} {H₀ : Hp} {ex : List Addr} : (cmpCx X scope own ix C s₀ H₀ ex).K = X.K := rfl
theorem mulR {z b : Int} (h1 : -18446744073709551616 < b) (h2 : b < 18446744073709551616) : CMul z b := .inr ⟨h1, h2⟩
theorem mulL {z b : Int} (h1 : -18446744073709551616 < z) (h2 : z < 18446744073709551616) : CMul z b := .inl ⟨h1, h2⟩
theorem pl_bin {a b : Expr} {op : Operator} {pos : Pos} : PlainIx (.BinOp a op b pos) := fun _ _ => rfl
theorem pl_const {c : Const} {k : Nat} {pos : Pos} : PlainIx (.Constant c k pos) := fun _ _ => rfl
theorem pl_un {a : Expr} {op : UnaryOp} {pos : Pos} : PlainIx (.UnaryOp op a pos) := fun _ _ => rfl
theorem pl_attr {a : Expr} {x : Str} {pos : Pos} : PlainIx (.Attribute a x pos) := fun _ _ => rfl
theorem st_bin {a b : Expr} {op : Operator} {pos : Pos} {es : List Expr} {env : Env} : starEach (.BinOp a op b pos :: es) env = (false, eval (.BinOp a op b pos) env) :: starEach es env := rfl
theorem st_name {x : Str} {pos : Pos} {es : List Expr} {env : Env} : starEach (.Name x pos :: es) env = (false, eval (.Name x pos) env) :: starEach es env := rfl
theorem st_const {c : Const} {k : Nat} {pos : Pos} {es : List Expr} {env : Env} : starEach (.Constant c k pos :: es) env = (false, eval (.Constant c k pos) env) :: starEach es env := rfl
theorem st_sub {a b : Expr} {pos : Pos} {es : List Expr} {env : Env} : starEach (.Subscript a b pos :: es) env = (false, eval (.Subscript a b pos) env) :: starEach es env := rfl
theorem st_call {f : Expr} {as : List Expr} {ks : List Keyword} {pos : Pos} {es : List Expr} {env : Env} : starEach (.Call f as ks pos :: es) env = (false, eval (.Call f as ks pos) env) :: starEach es env := rfl
theorem st_un {a : Expr} {op : UnaryOp} {pos : Pos} {es : List Expr} {env : Env} : starEach (.UnaryOp op a pos :: es) env = (false, eval (.UnaryOp op a pos) env) :: starEach es env := rfl
theorem st_attr {a : Expr} {x : Str} {pos : Pos} {es : List Expr} {env : Env} : starEach (.Attribute a x pos :: es) env = (false, eval (.Attribute a x pos) env) :: starEach es env := rfl
theorem st_comp {a : Expr} {gs : List Comprehension} {sc : Scope} {pos : Pos} {es : List Expr} {env : Env} : starEach (.ListComp a gs sc pos :: es) env = (false, eval (.ListComp a gs sc pos) env) :: starEach es env := rfl
/-- a display of written constants -/
def constV : Expr → Option V
  | .Constant (.int i) _ _ => some (.int i)
  | .Constant (.str x) _ _ => some (.str x)
  | .Constant (.bool b) _ _ => some (.bl b)
  | .Constant .none _ _ => some .non
  | _ => none
def tVals (vs : List V) : TA := fun _ H Q => Q vs H
theorem pa_consts {X : Cx} : ∀ {es : List Expr} {vs : List V}, es.map constV = vs.map some → PA X es (tVals vs)
  | [], [], _ => pa_nil
  | [], _ :: _, h => by cases h
  | _ :: _, [], h => by cases h
  | e :: es, v :: vs, h => by
    rw [List.map_cons, List.map_cons] at h
    injection h with h1 h2
    have ih := pa_consts (X := X) h2
    have one : ∀ {e : Expr} {v : V}, PE X e (tC v) → (starEach (e :: es) X.env = (false, eval e X.env) :: starEach es X.env) → PA X (e :: es) (tVals (v :: vs)) := fun he hs pos pins s σ H Q I q => pa_cons he ih hs pos pins s σ H Q I q
    unfold constV at h1
    split at h1
    · cases h1; exact one pe_int st_const
    · cases h1; exact one pe_str st_const
    · cases h1; exact one pe_bl st_const
    · cases h1; exact one pe_non st_const
    · cases h1
theorem tVals_i {vs : List V} {σ : St} {H : Hp} {Q : List V → Hp → Prop} : tVals vs σ H Q ↔ Q vs H := Iff.rfl
theorem tDGet_i {td ty : TE} {σ : St} {H : Hp} {Q : VK} : tDGet td ty σ H Q ↔ td σ H fun x H1 => ty σ H1 fun y H2 => ∃ a v, x = .ref a ∧ DGet H2 a y (some v) ∧ Q v H2 := Iff.rfl
theorem tDNewK_i {σ : St} {H : Hp} {Q : VK} : tDNewK σ H Q ↔ ∀ p, H p = none → Q (.ref p) (upd H p (.dK [])) := Iff.rfl
theorem sDPut_i {td ty tv : TE} {D : Ends} {σ : St} {H : Hp} : sDPut td ty tv D σ H ↔ tv σ H fun v H1 => td σ H1 fun x H2 => ty σ H2 fun y H3 => ∃ a H4, x = .ref a ∧ DPut H3 a y v H4 ∧ D.nx σ H4 := Iff.rfl
theorem tCB_i {r : List V → Hp → VK → Prop} {t : TA} {σ : St} {H : Hp} {Q : VK} : tCB r t σ H Q ↔ t σ H fun vs H1 => r vs H1 Q := Iff.rfl
theorem tB_i {t : TE} {σ : St} {H : Hp} {Q : Bool → Hp → Prop} : tB t σ H Q ↔ t σ H fun x H1 => ∃ c, x = .bl c ∧ Q c H1 := Iff.rfl
theorem tNot_i {t : TT} {σ : St} {H : Hp} {Q : Bool → Hp → Prop} : tNot t σ H Q ↔ t σ H fun c H1 => Q (!c) H1 := Iff.rfl
end L2

/-! the mirror of everyrow.words over lists of codes -/
namespace PM
abbrev W := List Nat
inductive Tr where
  | num (n : Int) | box (x : W) | bin (o : W) (l r : Tr)
  deriving DecidableEq
def isLetter (c : Nat) : Bool := decide (97 ≤ c) && decide (c ≤ 122)
def isFigure (c : Nat) : Bool := decide (48 ≤ c) && decide (c ≤ 57)
/-- 0 a letter, 1 a figure, 2 a sign -/
def kind (c : Nat) : Nat := if isLetter c then 0 else if isFigure c then 1 else 2
def stepP (st : List W × Nat) (c : Nat) : List W × Nat :=
  if kind c ≠ 2 ∧ kind c = st.2 then (st.1.dropLast ++ [st.1.getLastD [] ++ [c]], kind c) else (st.1 ++ [[c]], kind c)
def piecesSt (w : W) : List W × Nat := w.foldl stepP ([], 3)
def pieces (w : W) : List W := (piecesSt w).1
def noNames : List W := [[98, 111, 120], [97, 115, 107], [112, 117, 116], [115, 97, 121], [105, 102], [101, 108, 115, 101], [119, 104, 105, 108, 101], [109, 117, 115, 116], [115, 116, 111, 112], [101, 110, 100]]
def isName (p : W) : Bool := decide (1 ≤ p.length) && decide (p.length ≤ 8) && p.all isLetter && !noNames.contains p
def isNumber (p : W) : Bool := decide (1 ≤ p.length) && decide (p.length ≤ 3) && p.all isFigure && (decide (p = [48]) || !decide (p.head? = some 48))
def numVal (p : W) : Int := p.foldl (fun (a : Int) (c : Nat) => a * 10 + ((c : Int) - 48)) 0
abbrev P := List W → Option (Tr × List W)
def facOf (sub : P) : P
  | [] => none
  | p :: r => if isNumber p then some (.num (numVal p), r) else if isName p then some (.box p, r) else if p = [40] then
      (match sub r with
      | some (e, q :: r') => if q = [41] then some (e, r') else none
      | _ => none) else none
theorem facOf_cons (sub : P) (p : W) (r : List W) : facOf sub (p :: r) = if isNumber p then some (.num (numVal p), r) else if isName p then some (.box p, r) else if p = [40] then
      (match sub r with
      | some (e, q :: r') => if q = [41] then some (e, r') else none
      | _ => none) else none := rfl
def loopP (ops : List W) (f : P) : Nat → Tr → List W → Option (Tr × List W)
  | 0, e, ps => some (e, ps)
  | _ + 1, e, [] => some (e, [])
  | k + 1, e, p :: r => if p ∈ ops then (match f r with
      | none => none
      | some (e2, r') => loopP ops f k (.bin p e e2) r') else some (e, p :: r)
def prodP (f : P) : P := fun ps => match f ps with
  | none => none
  | some (e, r) => loopP [[42]] f r.length e r
def sumP (f : P) : P := fun ps => match prodP f ps with
  | none => none
  | some (e, r) => loopP [[43], [45]] (prodP f) r.length e r
def factor : Nat → P
  | 0 => facOf fun _ => none
  | n + 1 => facOf (sumP (factor n))
def expr (w : W) : Option Tr := if 60 < w.length then none else match sumP (factor 5) (pieces w) with
  | some (e, []) => some e
  | _ => none
/-! ### what is left gets shorter -/
def Short (f : P) : Prop := ∀ ps e r, f ps = some (e, r) → r.length < ps.length
theorem loop_le {ops : List W} {f : P} (h : Short f) : ∀ k e ps e' r, loopP ops f k e ps = some (e', r) → r.length ≤ ps.length
  | 0, e, ps, e', r, q => by simp only [loopP, Option.some.injEq, Prod.mk.injEq] at q; rw [q.2]; exact Nat.le_refl _
  | k + 1, e, [], e', r, q => by simp only [loopP, Option.some.injEq, Prod.mk.injEq] at q; rw [← q.2]; exact Nat.le_refl _
  | k + 1, e, p :: t, e', r, q => by
    unfold loopP at q
    split at q
    · split at q
      · cases q
      · rename_i e2 r' hf
        have h1 := h _ _ _ hf
        have h2 := loop_le h k _ _ _ _ q
        rw [List.length_cons]; omega
    · simp only [Option.some.injEq, Prod.mk.injEq] at q; rw [← q.2]; exact Nat.le_refl _
theorem prod_short {f : P} (h : Short f) : Short (prodP f) := fun ps e r q => by
  unfold prodP at q
  split at q
  · cases q
  · rename_i e0 r0 hf
    exact Nat.lt_of_le_of_lt (loop_le h _ _ _ _ _ q) (h _ _ _ hf)
theorem sum_short {f : P} (h : Short f) : Short (sumP f) := fun ps e r q => by
  unfold sumP at q
  split at q
  · cases q
  · rename_i e0 r0 hf
    exact Nat.lt_of_le_of_lt (loop_le (prod_short h) _ _ _ _ _ q) (prod_short h _ _ _ hf)
theorem facOf_short {sub : P} (h : Short sub) : Short (facOf sub) := fun ps e r q => by
  cases ps with
  | nil => cases q
  | cons p t =>
    rw [facOf_cons] at q
    split at q
    · simp only [Option.some.injEq, Prod.mk.injEq] at q; rw [← q.2]; exact Nat.lt_succ_self _
    · split at q
      · simp only [Option.some.injEq, Prod.mk.injEq] at q; rw [← q.2]; exact Nat.lt_succ_self _
      · split at q
        · split at q
          · rename_i e1 q1 r1 hs
            split at q
            · simp only [Option.some.injEq, Prod.mk.injEq] at q
              have := h _ _ _ hs
              rw [← q.2]
              rw [List.length_cons] at this ⊢
              omega
            · cases q
          · cases q
        · cases q
theorem factor_short : ∀ n, Short (factor n)
  | 0 => facOf_short fun _ _ _ q => by cases q
  | n + 1 => facOf_short (sum_short (factor_short n))
/-- one turn of a loop; the fuel is enough -/
theorem loop_fuel {ops : List W} {f : P} (h : Short f) : ∀ k j e ps, ps.length ≤ k → ps.length ≤ j → loopP ops f k e ps = loopP ops f j e ps
  | 0, 0, _, _, _, _ => rfl
  | 0, j + 1, e, [], _, _ => rfl
  | k + 1, 0, e, [], _, _ => rfl
  | k + 1, j + 1, e, [], _, _ => rfl
  | k + 1, j + 1, e, p :: t, hk, hj => by
    rw [List.length_cons] at hk hj
    unfold loopP
    split
    · split
      · rfl
      · rename_i e2 r' hf
        have := h _ _ _ hf
        exact loop_fuel h k j _ _ (by omega) (by omega)
    · rfl
def loop (ops : List W) (f : P) (e : Tr) (ps : List W) : Option (Tr × List W) := loopP ops f ps.length e ps
theorem loop_nil (ops : List W) (f : P) (e : Tr) : loop ops f e [] = some (e, []) := rfl
theorem loop_stop {ops : List W} {f : P} {e : Tr} {p : W} {r : List W} (h : p ∉ ops) : loop ops f e (p :: r) = some (e, p :: r) := by
  unfold loop
  rw [List.length_cons]
  unfold loopP
  rw [if_neg h]
theorem loop_go {ops : List W} {f : P} (hf : Short f) {e : Tr} {p : W} {r : List W} (h : p ∈ ops) : loop ops f e (p :: r) = match f r with
    | none => none
    | some (e2, r') => loop ops f (.bin p e e2) r' := by
  unfold loop
  rw [List.length_cons]
  conv => lhs; unfold loopP
  rw [if_pos h]
  cases h1 : f r with
  | none => rfl
  | some x =>
    obtain ⟨e2, r'⟩ := x
    have := hf _ _ _ h1
    exact loop_fuel hf _ _ _ _ (by omega) (Nat.le_refl _)
theorem prodP_eq (f : P) (ps : List W) : prodP f ps = match f ps with
    | none => none
    | some (e, r) => loop [[42]] f e r := rfl
theorem sumP_eq (f : P) (ps : List W) : sumP f ps = match prodP f ps with
    | none => none
    | some (e, r) => loop [[43], [45]] (prodP f) e r := rfl
/-! ### how a loop ends -/
/-! ### the walk from sign to sign -/
def fac (p : W) : Bool := isNumber p || isName p
def opsAll : List W := [[43], [45], [42]]
def step (p : W) : Nat × Bool → Option (Nat × Bool)
  | (d, true) => if p = [40] then (if d + 1 > 5 then none else some (d + 1, true)) else if fac p then some (d, false) else none
  | (d, false) => if p = [41] then (if d = 0 then none else some (d - 1, false)) else if p ∈ opsAll then some (d, true) else none
def run : List W → Nat × Bool → Option (Nat × Bool)
  | [], s => some s
  | p :: r, s => match step p s with
    | none => none
    | some s' => run r s'
def good (ps : List W) : Prop := run ps (0, true) = some (0, false)
instance (ps : List W) : Decidable (good ps) := inferInstanceAs (Decidable (_ = _))
theorem step_t (p : W) (d : Nat) : step p (d, true) = if p = [40] then (if d + 1 > 5 then none else some (d + 1, true)) else if fac p then some (d, false) else none := rfl
theorem step_f (p : W) (d : Nat) : step p (d, false) = if p = [41] then (if d = 0 then none else some (d - 1, false)) else if p ∈ opsAll then some (d, true) else none := rfl
theorem run_cons (p : W) (r : List W) (s : Nat × Bool) : run (p :: r) s = match step p s with
    | none => none
    | some s' => run r s' := rfl
theorem run_cons_some {p : W} {r : List W} {s s' : Nat × Bool} (h : step p s = some s') : run (p :: r) s = run r s' := by rw [run_cons, h]
theorem run_cons_none {p : W} {r : List W} {s : Nat × Bool} (h : step p s = none) : run (p :: r) s = none := by rw [run_cons, h]
/-- what a reader at depth d does to the walk -/
structure Walk (d : Nat) (f : P) (nx : List W → Prop) : Prop where
  yes : ∀ ps e r, f ps = some (e, r) → run ps (d, true) = run r (d, false) ∧ nx r
  no : ∀ ps, f ps = none → run ps (d, true) ≠ some (0, false)
theorem walk_loop {d : Nat} {ops : List W} {f : P} {nx : List W → Prop} (hf : Short f) (hw : Walk d f nx) (hops : ∀ p ∈ ops, p ∈ opsAll) :
    ∀ (n : Nat) (ps : List W), ps.length ≤ n → nx ps → ∀ e, (∀ e' r, loop ops f e ps = some (e', r) → run ps (d, false) = run r (d, false) ∧ nx r ∧ (r = [] ∨ ∃ q t, r = q :: t ∧ q ∉ ops)) ∧ (loop ops f e ps = none → run ps (d, false) ≠ some (0, false)) := by
  intro n
  induction n with
  | zero =>
    intro ps hl hn e
    have : ps = [] := List.eq_nil_of_length_eq_zero (by omega)
    subst this
    rw [loop_nil]
    exact ⟨fun e' r h => by cases h; exact ⟨rfl, hn, .inl rfl⟩, fun h => by cases h⟩
  | succ n ih =>
    intro ps hl hn e
    cases ps with
    | nil => rw [loop_nil]; exact ⟨fun e' r h => by cases h; exact ⟨rfl, hn, .inl rfl⟩, fun h => by cases h⟩
    | cons p t =>
      by_cases hp : p ∈ ops
      · have st : step p (d, false) = some (d, true) := by
          have h1 := hops p hp
          have h2 : p ≠ [41] := by rintro rfl; revert h1; decide
          first | rw [step_t] | rw [step_f]
          rw [if_neg h2, if_pos h1]
        rw [loop_go hf hp, run_cons_some st]
        cases h1 : f t with
        | none => exact ⟨fun e' r h => (by cases h), fun _ => hw.no t h1⟩
        | some x =>
          obtain ⟨e2, r'⟩ := x
          obtain ⟨w1, w2⟩ := hw.yes t e2 r' h1
          have hs := hf _ _ _ h1
          rw [List.length_cons] at hl
          rw [w1]
          exact ih r' (by omega) w2 _
      · rw [loop_stop hp]
        exact ⟨fun e' r h => by cases h; exact ⟨rfl, hn, .inr ⟨p, t, rfl, hp⟩⟩, fun h => by cases h⟩
def nxF (_ : List W) : Prop := True
def nxP (r : List W) : Prop := r = [] ∨ ∃ q t, r = q :: t ∧ q ≠ [42]
def nxS (r : List W) : Prop := r = [] ∨ ∃ q t, r = q :: t ∧ q ∉ opsAll
theorem walk_prod {d : Nat} {f : P} (hf : Short f) (hw : Walk d f nxF) : Walk d (prodP f) nxP where
  yes := fun ps e r h => by
    rw [prodP_eq] at h
    split at h
    · cases h
    · rename_i e0 r0 h0
      obtain ⟨w1, _⟩ := hw.yes _ _ _ h0
      obtain ⟨a, b, c⟩ := (walk_loop hf hw (ops := [[42]]) (by decide) _ r0 (Nat.le_refl _) trivial e0).1 e r h
      refine ⟨w1.trans a, ?_⟩
      rcases c with c | ⟨q, t, c, n⟩
      · exact .inl c
      · exact .inr ⟨q, t, c, fun z => n (by rw [z]; exact List.mem_singleton.mpr rfl)⟩
  no := fun ps h => by
    rw [prodP_eq] at h
    split at h
    · rename_i h0; exact hw.no _ h0
    · rename_i e0 r0 h0
      obtain ⟨w1, _⟩ := hw.yes _ _ _ h0
      rw [w1]
      exact (walk_loop hf hw (ops := [[42]]) (by decide) _ r0 (Nat.le_refl _) trivial e0).2 h
theorem walk_sum {d : Nat} {f : P} (hf : Short f) (hw : Walk d f nxF) : Walk d (sumP f) nxS where
  yes := fun ps e r h => by
    have wp := walk_prod hf hw
    rw [sumP_eq] at h
    split at h
    · cases h
    · rename_i e0 r0 h0
      obtain ⟨w1, w2⟩ := wp.yes _ _ _ h0
      obtain ⟨a, b, c⟩ := (walk_loop (prod_short hf) wp (ops := [[43], [45]]) (by decide) _ r0 (Nat.le_refl _) w2 e0).1 e r h
      refine ⟨w1.trans a, ?_⟩
      rcases c with c | ⟨q, t, c, n⟩
      · exact .inl c
      · rcases b with b | ⟨q', t', b, n'⟩
        · exact .inl b
        · rw [c] at b
          cases b
          refine .inr ⟨q, t, c, fun z => ?_⟩
          simp only [opsAll, List.mem_cons, List.not_mem_nil, or_false] at z n
          rcases z with z | z | z
          · exact n (.inl z)
          · exact n (.inr z)
          · exact n' z
  no := fun ps h => by
    have wp := walk_prod hf hw
    rw [sumP_eq] at h
    split at h
    · rename_i h0; exact wp.no _ h0
    · rename_i e0 r0 h0
      obtain ⟨w1, w2⟩ := wp.yes _ _ _ h0
      rw [w1]
      exact (walk_loop (prod_short hf) wp (ops := [[43], [45]]) (by decide) _ r0 (Nat.le_refl _) w2 e0).2 h
theorem fac_no {p : W} (h : fac p = true) : p ≠ [40] := by rintro rfl; revert h; decide
theorem walk_leaf {d : Nat} {sub : P} {p : W} {r : List W} (h : fac p = true) : run (p :: r) (d, true) = run r (d, false) := by
  refine run_cons_some ?_
  first | rw [step_t] | rw [step_f]
  rw [if_neg (fac_no h), if_pos h]
theorem walk_factor : ∀ (n d : Nat), d + n = 5 → Walk d (factor n) nxF
  | 0, d, hd => by
    have e5 : d = 5 := by omega
    subst e5
    refine ⟨fun ps e r h => ⟨?_, trivial⟩, fun ps h => ?_⟩
    · cases ps with
      | nil => cases h
      | cons p t =>
        unfold factor at h
        rw [facOf_cons] at h
        split at h
        · rename_i c; cases h; exact walk_leaf (sub := factor 0) (by simp [fac, c])
        · split at h
          · rename_i c; cases h; exact walk_leaf (sub := factor 0) (by simp [fac, c])
          · split at h <;> cases h
    · cases ps with
      | nil => unfold run; simp
      | cons p t =>
        unfold factor at h
        rw [facOf_cons] at h
        split at h
        · cases h
        · rename_i c1
          split at h
          · cases h
          · rename_i c2
            have st : step p (5, true) = none := by
              first | rw [step_t] | rw [step_f]
              by_cases hp : p = [40]
              · rw [if_pos hp]; rfl
              · rw [if_neg hp, if_neg (by simp [fac, c1, c2])]
            rw [run_cons_none st]; simp
  | n + 1, d, hd => by
    have ih := walk_sum (factor_short n) (walk_factor n (d + 1) (by omega))
    refine ⟨fun ps e r h => ⟨?_, trivial⟩, fun ps h => ?_⟩
    · cases ps with
      | nil => cases h
      | cons p t =>
        unfold factor at h
        rw [facOf_cons] at h
        split at h
        · rename_i c; cases h; exact walk_leaf (sub := factor 0) (by simp [fac, c])
        · split at h
          · rename_i c; cases h; exact walk_leaf (sub := factor 0) (by simp [fac, c])
          · split at h
            · rename_i hp
              subst hp
              split at h
              · rename_i e1 q r1 hs
                split at h
                · rename_i hq
                  cases h
                  subst hq
                  obtain ⟨a, _⟩ := ih.yes _ _ _ hs
                  have st : step [40] (d, true) = some (d + 1, true) := by rw [step_t, if_pos rfl, if_neg (by omega)]
                  have st2 : step [41] (d + 1, false) = some (d, false) := by rw [step_f, if_pos rfl, if_neg (by omega)]; rfl
                  rw [run_cons_some st, a, run_cons_some st2]
                · cases h
              · cases h
            · cases h
    · cases ps with
      | nil => unfold run; simp
      | cons p t =>
        unfold factor at h
        rw [facOf_cons] at h
        split at h
        · cases h
        · rename_i c1
          split at h
          · cases h
          · rename_i c2
            split at h
            · rename_i hp
              subst hp
              have st : step [40] (d, true) = some (d + 1, true) := by rw [step_t, if_pos rfl, if_neg (by omega)]
              rw [run_cons_some st]
              cases hs : sumP (factor n) t with
              | none => exact ih.no _ hs
              | some x =>
                obtain ⟨e1, r1⟩ := x
                obtain ⟨a, b⟩ := ih.yes _ _ _ hs
                rw [a]
                cases r1 with
                | nil => unfold run; simp
                | cons q r2 =>
                  rw [hs] at h
                  have hq : q ≠ [41] := by
                    intro hq
                    simp only [hq, if_true] at h
                    cases h
                  have ho : q ∉ opsAll := by
                    rcases b with b | ⟨q', t', b, n'⟩
                    · cases b
                    · cases b; exact n'
                  have st2 : step q (d + 1, false) = none := by rw [step_f, if_neg hq, if_neg ho]
                  rw [run_cons_none st2]; simp
            · rename_i hp
              have st : step p (d, true) = none := by rw [step_t, if_neg hp, if_neg (by simp [fac, c1, c2])]
              rw [run_cons_none st]; simp
/-- THE READER takes just what the walk takes -/
theorem expr_iff (w : W) : (expr w).isSome = true ↔ w.length ≤ 60 ∧ good (pieces w) := by
  have ws := walk_sum (factor_short 5) (walk_factor 5 0 rfl)
  unfold expr
  by_cases hl : 60 < w.length
  · rw [if_pos hl]; simp; intro h; omega
  · rw [if_neg hl]
    cases h : sumP (factor 5) (pieces w) with
    | none =>
      have := ws.no _ h
      simp [good, this]
    | some x =>
      obtain ⟨e, r⟩ := x
      obtain ⟨a, b⟩ := ws.yes _ _ _ h
      cases r with
      | nil =>
        unfold good
        rw [a]
        simp [run]
        omega
      | cons q t =>
        unfold good
        rw [a]
        have st : step q (0, false) = none := by
          first | rw [step_t] | rw [step_f]
          rcases b with b | ⟨q', t', b, n⟩
          · cases b
          · cases b
            by_cases hq : q = [41]
            · rw [if_pos hq]; rfl
            · rw [if_neg hq, if_neg n]
        rw [run_cons_none st]
        simp
end PM

namespace PM
/-! ### pieces -/
theorem st_snoc (w : W) (c : Nat) : piecesSt (w ++ [c]) = stepP (piecesSt w) c := by unfold piecesSt; rw [List.foldl_append]; rfl
theorem kind_le (c : Nat) : kind c ≤ 2 := by
  unfold kind
  split
  · omega
  · split <;> omega
theorem snoc_rec {p : W → Prop} (h0 : p []) (h1 : ∀ w c, p w → p (w ++ [c])) : ∀ w, p w := fun w => by
  have : ∀ r : W, p r.reverse := fun r => by
    induction r with
    | nil => exact h0
    | cons c r ih => rw [List.reverse_cons]; exact h1 _ c ih
  have h := this w.reverse
  rw [List.reverse_reverse] at h
  exact h
theorem getLastD_append {α : Type} (ps qs : List α) (h : qs ≠ []) (d : α) : (ps ++ qs).getLastD d = qs.getLastD d := by
  rw [List.getLastD_eq_getLast?, List.getLastD_eq_getLast?, List.getLast?_append]
  cases e : qs.getLast? with
  | none => rw [List.getLast?_eq_none_iff] at e; exact absurd e h
  | some x => rfl
theorem fold_pre (ps : List W) : ∀ (w : W) (qs : List W) (b : Nat), (2 ≤ b ∨ qs ≠ []) → w.foldl stepP (ps ++ qs, b) = (ps ++ (w.foldl stepP (qs, b)).1, (w.foldl stepP (qs, b)).2)
  | [], _, _, _ => rfl
  | c :: w, qs, b, h => by
    rw [List.foldl_cons, List.foldl_cons]
    by_cases hc : kind c ≠ 2 ∧ kind c = b
    · have k2 : kind c < 2 := by
        have := kind_le c
        omega
      have hq : qs ≠ [] := h.resolve_left (by omega)
      have e1 : stepP (ps ++ qs, b) c = (ps ++ (qs.dropLast ++ [qs.getLastD [] ++ [c]]), kind c) := by
        unfold stepP
        rw [if_pos hc]
        simp only [getLastD_append ps qs hq, List.dropLast_append_of_ne_nil hq, List.append_assoc]
      have e2 : stepP (qs, b) c = (qs.dropLast ++ [qs.getLastD [] ++ [c]], kind c) := by unfold stepP; rw [if_pos hc]
      rw [e1, e2]
      exact fold_pre ps w _ _ (.inr (by simp))
    · have e1 : stepP (ps ++ qs, b) c = (ps ++ (qs ++ [[c]]), kind c) := by unfold stepP; rw [if_neg hc]; simp only [List.append_assoc]
      have e2 : stepP (qs, b) c = (qs ++ [[c]], kind c) := by unfold stepP; rw [if_neg hc]
      rw [e1, e2]
      exact fold_pre ps w _ _ (.inr (by simp))
theorem fold_2 : ∀ (w : W), (w.foldl stepP ([], 2)).1 = pieces w
  | [] => rfl
  | c :: w => by
    unfold pieces piecesSt
    rw [List.foldl_cons, List.foldl_cons]
    have e : ∀ b, 2 ≤ b → stepP ([], b) c = ([[c]], kind c) := fun b hb => by
      unfold stepP
      rw [if_neg]
      · rfl
      · rintro ⟨h1, h2⟩
        have := kind_le c
        have h2 : kind c = b := h2
        omega
    rw [e 2 (by omega), e 3 (by omega)]
/-- a sign parts a word -/
theorem pieces_sign (u v : W) {c : Nat} (h : kind c = 2) : pieces (u ++ c :: v) = pieces u ++ [c] :: pieces v := by
  have e : piecesSt (u ++ c :: v) = v.foldl stepP (pieces u ++ [[c]], 2) := by
    unfold piecesSt
    rw [List.foldl_append, List.foldl_cons]
    congr 1
    unfold stepP
    rw [if_neg (by rw [h]; simp), h]
    rfl
  have e2 := fold_pre (pieces u ++ [[c]]) v [] 2 (.inl (by omega))
  rw [List.append_nil] at e2
  unfold pieces
  rw [e, e2]
  show (pieces u ++ [[c]]) ++ (v.foldl stepP ([], 2)).1 = _
  rw [fold_2]
  simp [pieces]
theorem pieces_nil : pieces [] = [] := rfl
/-- signs of one kind are one piece -/
theorem pieces_one {k : Nat} (hk : k < 2) : ∀ (w : W), w ≠ [] → (∀ c ∈ w, kind c = k) → piecesSt w = ([w], k) := by
  refine snoc_rec (fun h => absurd rfl h) fun w c ih => ?_
  · intro _ h
    have hc : kind c = k := h c (by simp)
    rw [st_snoc]
    by_cases hw : w = []
    · subst hw
      show stepP ([], 3) c = _
      unfold stepP
      rw [if_neg (by rw [hc]; simp; omega), hc]
      rfl
    · rw [ih hw fun c hc => h c (by simp [hc])]
      unfold stepP
      rw [if_pos ⟨by rw [hc]; omega, hc⟩, hc]
      rfl
theorem kind_letter {c : Nat} (h : isLetter c = true) : kind c = 0 := by unfold kind; rw [if_pos h]
theorem kind_figure {c : Nat} (h : isFigure c = true) : kind c = 1 := by
  unfold kind
  rw [if_neg, if_pos h]
  intro hl
  simp only [isLetter, isFigure, Bool.and_eq_true, decide_eq_true_eq] at hl h
  omega
/-- what the walk that makes pieces keeps -/
structure PcOk (st : List W × Nat) (w : W) : Prop where
  flat : st.1.flatten = w
  some_ : ∀ p ∈ st.1, p ≠ []
  last : st.2 < 2 → st.1 ≠ []
  sort : ∀ p ∈ st.1, (∀ c ∈ p, kind c = 0) ∨ (∀ c ∈ p, kind c = 1) ∨ ∃ c, p = [c] ∧ kind c = 2
  mark : st.1 ≠ [] → ∃ p, st.1.getLast? = some p ∧ (st.2 < 2 → ∀ c ∈ p, kind c = st.2)
theorem split_last {α : Type} {l : List α} {p : α} (h : l.getLast? = some p) : l = l.dropLast ++ [p] := by
  have hne : l ≠ [] := by rintro rfl; cases h
  rw [List.getLast?_eq_some_getLast hne] at h
  have e := (List.dropLast_concat_getLast hne).symm
  cases h
  exact e
theorem pcOk : ∀ (w : W), PcOk (piecesSt w) w := by
  refine snoc_rec (p := fun w => PcOk (piecesSt w) w) ?_ fun w c ih => ?_
  · exact ⟨rfl, fun _ h => absurd h (by simp [piecesSt]), fun h => absurd h (by simp [piecesSt]), fun _ h => absurd h (by simp [piecesSt]), fun h => absurd rfl h⟩
  · rw [st_snoc]
    unfold stepP
    split
    · rename_i hc
      obtain ⟨h2, hb⟩ := hc
      have k2 : kind c < 2 := by have := kind_le c; omega
      have hne := ih.last (by rw [← hb]; exact k2)
      obtain ⟨p, hp, hm⟩ := ih.mark hne
      have es := split_last hp
      have eD : (piecesSt w).1.getLastD [] = p := by rw [List.getLastD_eq_getLast?, hp]; rfl
      have hm' := hm (by rw [← hb]; exact k2)
      rw [eD]
      refine ⟨?_, fun q hq => ?_, fun _ => by simp, fun q hq => ?_, fun _ => ⟨p ++ [c], by simp, fun _ x hx => ?_⟩⟩
      · have f := ih.flat
        rw [es] at f
        simp only [List.flatten_append, List.flatten_cons, List.flatten_nil, List.append_nil] at f ⊢
        rw [← List.append_assoc, f]
      · rcases List.mem_append.mp hq with hq | hq
        · exact ih.some_ q (List.dropLast_subset _ hq)
        · rw [List.mem_singleton.mp hq]; simp
      · rcases List.mem_append.mp hq with hq | hq
        · exact ih.sort q (List.dropLast_subset _ hq)
        · rw [List.mem_singleton.mp hq]
          have all : ∀ x ∈ p ++ [c], kind x = kind c := fun x hx => by
            rcases List.mem_append.mp hx with hx | hx
            · rw [hm' x hx, hb]
            · rw [List.mem_singleton.mp hx]
          have : kind c = 0 ∨ kind c = 1 := by omega
          rcases this with z | z
          · exact .inl fun x hx => by rw [all x hx, z]
          · exact .inr (.inl fun x hx => by rw [all x hx, z])
      · rcases List.mem_append.mp hx with hx | hx
        · rw [hm' x hx, hb]
        · rw [List.mem_singleton.mp hx]
    · refine ⟨?_, fun q hq => ?_, fun _ => by simp, fun q hq => ?_, fun _ => ⟨[c], by simp, fun _ x hx => by rw [List.mem_singleton.mp hx]⟩⟩
      · simp only [List.flatten_append, List.flatten_cons, List.flatten_nil, List.append_nil]
        rw [ih.flat]
      · rcases List.mem_append.mp hq with hq | hq
        · exact ih.some_ q hq
        · rw [List.mem_singleton.mp hq]; simp
      · rcases List.mem_append.mp hq with hq | hq
        · exact ih.sort q hq
        · rw [List.mem_singleton.mp hq]
          have : kind c = 0 ∨ kind c = 1 ∨ kind c = 2 := by have := kind_le c; omega
          rcases this with z | z | z
          · exact .inl fun x hx => by rw [List.mem_singleton.mp hx, z]
          · exact .inr (.inl fun x hx => by rw [List.mem_singleton.mp hx, z])
          · exact .inr (.inr ⟨c, rfl, z⟩)
theorem len_le_flat : ∀ {l : List W}, (∀ p ∈ l, p ≠ []) → l.length ≤ l.flatten.length
  | [], _ => by simp
  | p :: r, h => by
    have h1 : p ≠ [] := h p (by simp)
    have h2 := len_le_flat (l := r) fun q hq => h q (by simp [hq])
    have : 0 < p.length := List.length_pos_iff.mpr h1
    simp only [List.length_cons, List.flatten_cons, List.length_append]
    omega
theorem pieces_len (w : W) : (pieces w).length ≤ w.length := by
  have := pcOk w
  have h := len_le_flat this.some_
  rw [this.flat] at h
  exact h
theorem piece_len {w p : W} (h : p ∈ pieces w) : p.length ≤ w.length := by
  have f := (pcOk w).flat
  rw [← f]
  have all : ∀ {l : List W}, p ∈ l → p.length ≤ l.flatten.length := fun {l} hl => by
    induction l with
    | nil => cases hl
    | cons a r ih =>
      rw [List.flatten_cons, List.length_append]
      rcases List.mem_cons.mp hl with rfl | hl
      · omega
      · have := ih hl; omega
  exact all h
end PM

namespace PM
/-! ### a tree written with brackets, read again -/
def RF (n : Nat) (t : Tr) (L : List W) : Prop := ∀ rest, factor n (L ++ rest) = some (t, rest)
def RP (n : Nat) (t : Tr) (L : List W) : Prop := ∀ rest, prodP (factor n) (L ++ rest) = loop [[42]] (factor n) t rest
def RS (n : Nat) (t : Tr) (L : List W) : Prop := ∀ rest, nxP rest → sumP (factor n) (L ++ rest) = loop [[43], [45]] (prodP (factor n)) t rest
theorem loop_nx {n : Nat} {t : Tr} {rest : List W} (h : nxP rest) : loop [[42]] (factor n) t rest = some (t, rest) := by
  rcases h with rfl | ⟨q, r, rfl, hq⟩
  · rfl
  · exact loop_stop (by simpa using hq)
theorem RF.p {n : Nat} {t : Tr} {L : List W} (h : RF n t L) : RP n t L := fun rest => by rw [prodP_eq, h rest]
theorem RP.s {n : Nat} {t : Tr} {L : List W} (h : RP n t L) : RS n t L := fun rest hn => by rw [sumP_eq, h rest, loop_nx hn]
theorem factor_cons (n : Nat) (p : W) (r : List W) (h : isNumber p = true ∨ isName p = true) : factor n (p :: r) = if isNumber p then some (.num (numVal p), r) else some (.box p, r) := by
  have key : ∀ sub : P, facOf sub (p :: r) = if isNumber p then some (.num (numVal p), r) else some (.box p, r) := fun sub => by
    rw [facOf_cons]
    by_cases h1 : isNumber p = true
    · rw [if_pos h1, if_pos h1]
    · rw [if_neg h1, if_neg h1, if_pos (h.resolve_left h1)]
  cases n with
  | zero => exact key _
  | succ n => exact key _
theorem RF.num {n : Nat} {p : W} (h : isNumber p = true) : RF n (.num (numVal p)) [p] := fun rest => by
  show factor n (p :: rest) = _
  rw [factor_cons n p rest (.inl h), if_pos h]
theorem RF.box {n : Nat} {p : W} (h : isName p = true) (h' : isNumber p = false) : RF n (.box p) [p] := fun rest => by
  show factor n (p :: rest) = _
  rw [factor_cons n p rest (.inr h), if_neg (by rw [h']; simp)]
theorem RF.br {n : Nat} {t : Tr} {L : List W} (h : RS n t L) : RF (n + 1) t ([40] :: L ++ [[41]]) := fun rest => by
  have e : [40] :: L ++ [[41]] ++ rest = [40] :: (L ++ ([41] :: rest)) := by simp
  have c1 : isNumber [40] = false := by decide
  have c2 : isName [40] = false := by decide
  rw [e]
  show facOf (sumP (factor n)) _ = _
  rw [facOf_cons, if_neg (by rw [c1]; simp), if_neg (by rw [c2]; simp), if_pos rfl, h _ (.inr ⟨_, _, rfl, by decide⟩), loop_stop (by decide)]
  simp
/-! the tree's own words -/
def isSum : Tr → Bool
  | .bin o _ _ => decide (o = [43]) || decide (o = [45])
  | _ => false
def isMul : Tr → Bool
  | .bin o _ _ => decide (o = [42])
  | _ => false
def brL (o : W) (l : Tr) (m : Int) : Bool := (decide (o = [42]) && isSum l) || decide (m % 5 = 1)
def brR (o : W) (r : Tr) (m : Int) : Bool := (isSum r || (decide (o = [42]) && isMul r)) || decide (m % 7 = 1)
def dig (n : Nat) : W := (Nat.toDigits 10 n).map Char.toNat
def put (b : Bool) (w : W) : W := if b then [40] ++ w ++ [41] else w
def putT (b : Bool) (w : List W) : List W := if b then [40] :: w ++ [[41]] else w
def toks : Tr → Int → List W
  | .num n, _ => [dig n.toNat]
  | .box x, _ => [x]
  | .bin o l r, m => putT (brL o l m) (toks l (m / 2)) ++ o :: putT (brR o r m) (toks r (m / 3))
/-- a tree as the laws make them -/
def TrOk : Tr → Prop
  | .num n => 0 ≤ n ∧ n ≤ 999
  | .box x => isName x = true
  | .bin o l r => (o = [43] ∨ o = [45] ∨ o = [42]) ∧ TrOk l ∧ TrOk r
theorem name_not_number {p : W} (h : isName p = true) : isNumber p = false := by
  cases e : isNumber p with
  | false => rfl
  | true =>
    simp only [isName, isNumber, Bool.and_eq_true, decide_eq_true_eq] at h e
    obtain ⟨⟨⟨h1, _⟩, h3⟩, _⟩ := h
    obtain ⟨⟨⟨_, _⟩, e3⟩, _⟩ := e
    cases p with
    | nil => simp at h1
    | cons c r =>
      have a := List.all_eq_true.mp h3 c (by simp)
      have b := List.all_eq_true.mp e3 c (by simp)
      simp only [isLetter, isFigure, Bool.and_eq_true, decide_eq_true_eq] at a b
      omega
/-! its pieces are its tokens -/
theorem pieces_put (b : Bool) {w : W} {L : List W} (h : pieces w = L) : pieces (put b w) = putT b L := by
  cases b with
  | false => exact h
  | true =>
    show pieces ([40] ++ w ++ [41]) = [40] :: L ++ [[41]]
    have e : [40] ++ w ++ [41] = [] ++ 40 :: (w ++ 41 :: []) := by simp
    rw [e, pieces_sign _ _ (by decide), pieces_sign _ _ (by decide), h, pieces_nil]
    simp
theorem pieces_word {k : Nat} (hk : k < 2) {w : W} (hw : w ≠ []) (h : ∀ c ∈ w, kind c = k) : pieces w = [w] := by
  unfold pieces
  rw [pieces_one hk w hw h]
theorem number_kind {p : W} (h : isNumber p = true) : p ≠ [] ∧ ∀ c ∈ p, kind c = 1 := by
  simp only [isNumber, Bool.and_eq_true, decide_eq_true_eq] at h
  obtain ⟨⟨⟨h1, _⟩, h3⟩, _⟩ := h
  exact ⟨by rintro rfl; simp at h1, fun c hc => kind_figure (List.all_eq_true.mp h3 c hc)⟩
theorem name_kind {p : W} (h : isName p = true) : p ≠ [] ∧ ∀ c ∈ p, kind c = 0 := by
  simp only [isName, Bool.and_eq_true, decide_eq_true_eq] at h
  obtain ⟨⟨⟨h1, _⟩, h3⟩, _⟩ := h
  exact ⟨by rintro rfl; simp at h1, fun c hc => kind_letter (List.all_eq_true.mp h3 c hc)⟩
/-! how deep its brackets go -/
/-- brackets around -/
def around : Nat → W → W
  | 0, w => w
  | n + 1, w => put true (around n w)
def aroundT : Nat → List W → List W
  | 0, w => w
  | n + 1, w => putT true (aroundT n w)
theorem pieces_around {w : W} {L : List W} (h : pieces w = L) : ∀ n, pieces (around n w) = aroundT n L
  | 0 => h
  | n + 1 => pieces_put true (pieces_around h n)
theorem RS.around {t : Tr} {L : List W} {k : Nat} (h : RS k t L) : ∀ n, RS (k + n) t (aroundT n L)
  | 0 => h
  | n + 1 => (RF.br (h.around n)).p.s
theorem RS.expr {t : Tr} {w : W} (h : RS 5 t (pieces w)) (hl : w.length ≤ 60) : expr w = some t := by
  unfold PM.expr
  have := h [] (.inl rfl)
  rw [List.append_nil, loop_nil] at this
  rw [if_neg (by omega), this]
end PM

namespace PM
/-! ### two heaps -/
end PM
namespace PM
end PM

/-! words without signs of sums: brackets around a leaf, or refused -/
namespace PM
def strip : Nat → W → Nat × W
  | 0, w => (0, w)
  | n + 1, w => if w.head? = some 40 ∧ w.getLast? = some 41 then ((strip n w.tail.dropLast).1 + 1, (strip n w.tail.dropLast).2) else (0, w)
def leaf (p : W) : Option Tr := if isName p then some (.box p) else if isNumber p then some (.num (numVal p)) else none
def due (w : W) : Option Tr := if 5 < (strip 6 w).1 then none else leaf (strip 6 w).2
theorem around_put (n : Nat) (p : W) : around (n + 1) p = [40] ++ around n p ++ [41] := rfl
theorem leaf_ne {p : W} {t : Tr} (h : leaf p = some t) : ¬ (p.head? = some 40 ∧ p.getLast? = some 41) := by
  rintro ⟨h1, _⟩
  cases p with
  | nil => cases h1
  | cons c r =>
    cases h1
    have e1 : isName (40 :: r) = false := by simp [isName, isLetter]
    have e2 : isNumber (40 :: r) = false := by simp [isNumber, isFigure]
    simp [leaf, e1, e2] at h
theorem strip_around {p : W} {t : Tr} (h : leaf p = some t) : ∀ k n, k ≤ n → strip n (around k p) = (k, p)
  | 0, 0, _ => rfl
  | 0, n + 1, _ => by
    show strip (n + 1) p = _
    unfold strip
    rw [if_neg (leaf_ne h)]
  | k + 1, n + 1, hk => by
    have e : (around (k + 1) p).tail.dropLast = around k p := by
      rw [around_put]
      simp
    have c : (around (k + 1) p).head? = some 40 ∧ (around (k + 1) p).getLast? = some 41 := by
      rw [around_put]
      constructor
      · rfl
      · rw [List.getLast?_append]; rfl
    unfold strip
    rw [if_pos c, e, strip_around h k n (by omega)]
theorem shape {w : W} (h : w.head? = some 40 ∧ w.getLast? = some 41) : w = [40] ++ w.tail.dropLast ++ [41] := by
  obtain ⟨h1, h2⟩ := h
  cases w with
  | nil => cases h1
  | cons c r =>
    cases h1
    cases r with
    | nil => simp at h2
    | cons d r =>
      have : (d :: r).getLast? = some 41 := by rw [List.getLast?_cons_cons] at h2; exact h2
      have e := split_last this
      show 40 :: (d :: r) = 40 :: ((d :: r).dropLast ++ [41])
      rw [← e]
theorem strip_is : ∀ n w, w = around (strip n w).1 (strip n w).2 ∧ (strip n w).1 ≤ n
  | 0, _ => ⟨rfl, Nat.le_refl _⟩
  | n + 1, w => by
    unfold strip
    split
    · rename_i c
      obtain ⟨e, l⟩ := strip_is n w.tail.dropLast
      refine ⟨?_, by omega⟩
      show w = [40] ++ around (strip n w.tail.dropLast).1 (strip n w.tail.dropLast).2 ++ [41]
      rw [← e]
      exact shape c
    · exact ⟨rfl, by omega⟩
theorem due_iff (w : W) (t : Tr) : due w = some t ↔ ∃ k p, k ≤ 5 ∧ w = around k p ∧ leaf p = some t := by
  constructor
  · intro h
    unfold due at h
    split at h
    · cases h
    · obtain ⟨e, _⟩ := strip_is 6 w
      exact ⟨_, _, by omega, e, h⟩
  · rintro ⟨k, p, hk, rfl, h⟩
    unfold due
    rw [strip_around h k 6 (by omega), if_neg (by omega)]
    exact h
theorem around_len (p : W) : ∀ k, (around k p).length = p.length + 2 * k
  | 0 => rfl
  | k + 1 => by rw [around_put]; simp [around_len p k]; omega
theorem leaf_len {p : W} {t : Tr} (h : leaf p = some t) : p.length ≤ 8 := by
  unfold leaf at h
  split at h
  · rename_i e; simp only [isName, Bool.and_eq_true, decide_eq_true_eq] at e; omega
  · split at h
    · rename_i e; simp only [isNumber, Bool.and_eq_true, decide_eq_true_eq] at e; omega
    · cases h
theorem leaf_RS {p : W} {t : Tr} (h : leaf p = some t) (n : Nat) : RS n t (pieces p) := by
  unfold leaf at h
  split at h
  · rename_i e
    cases h
    obtain ⟨a, b⟩ := name_kind e
    rw [pieces_word (by decide) a b]
    exact (RF.box e (name_not_number e)).p.s
  · split at h
    · rename_i e
      cases h
      obtain ⟨a, b⟩ := number_kind e
      rw [pieces_word (by decide) a b]
      exact (RF.num e).p.s
    · cases h
theorem expr_around {p : W} {t : Tr} (h : leaf p = some t) {k : Nat} (hk : k ≤ 5) : expr (around k p) = some t := by
  refine RS.expr ?_ (by rw [around_len]; have := leaf_len h; omega)
  rw [pieces_around rfl k]
  have := (leaf_RS h (5 - k)).around k
  rw [show 5 - k + k = 5 by omega] at this
  exact this
def NoOp (w : W) : Prop := ∀ c ∈ w, c ≠ 43 ∧ c ≠ 45 ∧ c ≠ 42
theorem run_close : ∀ (ps : List W) (d : Nat), (∀ p ∈ ps, p ∉ opsAll) → run ps (d, false) = some (0, false) → ps = List.replicate d [41]
  | [], d, _, h => by
    have : d = 0 := by simp only [run, Option.some.injEq, Prod.mk.injEq] at h; exact h.1
    subst this; rfl
  | p :: r, d, hn, h => by
    rw [run_cons, step_f] at h
    by_cases hp : p = [41]
    · rw [if_pos hp] at h
      by_cases hd : d = 0
      · rw [if_pos hd] at h; cases h
      · rw [if_neg hd] at h
        have := run_close r (d - 1) (fun q hq => hn q (by simp [hq])) h
        obtain ⟨e, rfl⟩ : ∃ e, d = e + 1 := ⟨d - 1, by omega⟩
        rw [hp, this]; rfl
    · rw [if_neg hp, if_neg (hn p (by simp))] at h
      cases h
theorem run_open : ∀ (ps : List W) (d : Nat), (∀ p ∈ ps, p ∉ opsAll) → run ps (d, true) = some (0, false) → ∃ k p, (0 < k → d + k ≤ 5) ∧ fac p = true ∧ ps = List.replicate k [40] ++ p :: List.replicate (d + k) [41]
  | [], d, _, h => by simp [run] at h
  | p :: r, d, hn, h => by
    rw [run_cons, step_t] at h
    by_cases hp : p = [40]
    · rw [if_pos hp] at h
      by_cases hd : d + 1 > 5
      · rw [if_pos hd] at h; cases h
      · rw [if_neg hd] at h
        obtain ⟨k, q, hk, hf, e⟩ := run_open r (d + 1) (fun q hq => hn q (by simp [hq])) h
        refine ⟨k + 1, q, fun _ => ?_, hf, ?_⟩
        · by_cases h0 : 0 < k
          · have := hk h0; omega
          · omega
        · rw [hp, e, show d + 1 + k = d + (k + 1) by omega]; rfl
    · rw [if_neg hp] at h
      by_cases hf : fac p = true
      · rw [if_pos hf] at h
        exact ⟨0, p, fun z => absurd z (by omega), hf, by rw [run_close r d (fun q hq => hn q (by simp [hq])) h]; rfl⟩
      · rw [if_neg hf] at h; cases h
theorem flat_rep (c : Nat) : ∀ k, (List.replicate k ([c] : W)).flatten = List.replicate k c
  | 0 => rfl
  | k + 1 => by rw [List.replicate_succ, List.flatten_cons, flat_rep c k]; rfl
theorem around_flat (p : W) : ∀ k, around k p = List.replicate k 40 ++ p ++ List.replicate k 41
  | 0 => by simp [around]
  | k + 1 => by
    rw [around_put, around_flat p k, List.replicate_succ, List.replicate_succ' (n := k) (a := 41)]
    simp
theorem fac_leaf {p : W} (h : fac p = true) : ∃ t, leaf p = some t := by
  unfold fac at h
  unfold leaf
  cases hn : isName p with
  | true => exact ⟨_, rfl⟩
  | false =>
    rw [hn, Bool.or_false] at h
    rw [h]
    exact ⟨_, rfl⟩
theorem expr_due {w : W} (h : NoOp w) : expr w = due w := by
  have key : ∀ t, due w = some t → expr w = some t := fun t ht => by
    obtain ⟨k, p, hk, rfl, hl⟩ := (due_iff w t).mp ht
    exact expr_around hl hk
  cases hd : due w with
  | some t => exact key t hd
  | none =>
    cases he : expr w with
    | none => rfl
    | some t =>
      have i := (expr_iff w).mp (by rw [he]; rfl)
      have hn : ∀ p ∈ pieces w, p ∉ opsAll := fun p hp ho => by
        have f := (pcOk w).flat
        have sub : ∀ c ∈ p, c ∈ w := fun c hc => by rw [← f]; exact List.mem_flatten.mpr ⟨p, hp, hc⟩
        simp only [opsAll, List.mem_cons, List.not_mem_nil, or_false] at ho
        rcases ho with rfl | rfl | rfl
        · exact (h 43 (sub 43 (by simp))).1 rfl
        · exact (h 45 (sub 45 (by simp))).2.1 rfl
        · exact (h 42 (sub 42 (by simp))).2.2 rfl
      obtain ⟨k, p, hk, hf, e⟩ := run_open (pieces w) 0 hn i.2
      obtain ⟨t', ht⟩ := fac_leaf hf
      have ew : w = around k p := by
        have f := (pcOk w).flat
        rw [around_flat, ← f, show (piecesSt w).1 = _ from e]
        simp only [List.flatten_append, List.flatten_cons, flat_rep, Nat.zero_add, List.append_assoc]
      have k5 : k ≤ 5 := by
        by_cases h0 : 0 < k
        · have := hk h0; omega
        · omega
      have : due w = some t' := (due_iff w t').mpr ⟨k, p, k5, ew, ht⟩
      rw [hd] at this
      cases this
theorem digit_fig : ∀ k < 10, 48 ≤ (Nat.digitChar k).toNat ∧ (Nat.digitChar k).toNat ≤ 57 := by decide
theorem core_fig : ∀ (fuel n : Nat) (acc : List Char), (∀ c ∈ acc, 48 ≤ c.toNat ∧ c.toNat ≤ 57) → ∀ c ∈ Nat.toDigitsCore 10 fuel n acc, 48 ≤ c.toNat ∧ c.toNat ≤ 57
  | 0, n, acc, h => by unfold Nat.toDigitsCore; exact h
  | fuel + 1, n, acc, h => by
    have h' : ∀ c ∈ Nat.digitChar (n % 10) :: acc, 48 ≤ c.toNat ∧ c.toNat ≤ 57 := fun c hc => by
      rcases List.mem_cons.mp hc with rfl | hc
      · exact digit_fig _ (by omega)
      · exact h c hc
    unfold Nat.toDigitsCore
    simp only
    split
    · exact h'
    · exact core_fig fuel _ _ h'
theorem core_len : ∀ (k fuel n : Nat) (acc : List Char), n < 10 ^ (k + 1) → (Nat.toDigitsCore 10 fuel n acc).length ≤ acc.length + (k + 1)
  | k, 0, n, acc, _ => by unfold Nat.toDigitsCore; omega
  | 0, fuel + 1, n, acc, h => by
    unfold Nat.toDigitsCore
    simp only
    rw [if_pos (by omega)]
    simp
  | k + 1, fuel + 1, n, acc, h => by
    unfold Nat.toDigitsCore
    simp only
    split
    · simp
    · have e : (10 : Nat) ^ (k + 1 + 1) = 10 * 10 ^ (k + 1) := by rw [Nat.pow_succ]; omega
      have := core_len k fuel (n / 10) (Nat.digitChar (n % 10) :: acc) (by rw [e] at h; omega)
      simp only [List.length_cons] at this
      omega
theorem dig_NoOp (n : Nat) (h : n < 10000) : NoOp (dig n) ∧ (dig n).length ≤ 10 := by
  refine ⟨fun c hc => ?_, ?_⟩
  · unfold dig at hc
    obtain ⟨d, hd, rfl⟩ := List.mem_map.mp hc
    have := core_fig _ _ [] (by simp) d hd
    omega
  · unfold dig
    rw [List.length_map]
    have := core_len 3 (n + 1) n [] (by omega)
    simp only [List.length_nil] at this
    unfold Nat.toDigits
    omega
end PM

/-! ### exceptions of the program's own classes -/
namespace L2
open PySem PySem.Spec PyProof.Rows

/-- an exception flies out of a call that began at s, H -/
structure Fly (P : Program) (w : World) (outer : List Env) (H : Hp) (s : Shared) (E : XK) (x : Addr) (s' : Shared) (cls a0 : Value) (B : Heap) (H' : Hp) : Prop where
  fl : Heap.FlyingW B outer x cls a0 s'.heap
  os : s'.os = s.os
  bare : AllBare s'.gens
  un : Un (frs outer) [] H H' s.heap s'.heap
  hok : HOk P w H' s'.heap
  old : ∀ b o, s.heap.get? b = some o → b ∉ frs outer → ∃ o', B.get? b = some o'
  trk : ∀ b u, H' b = some u → ∃ o, B.get? b = some o
  want : E cls none H'
/-- how an exception lies behind a call -/
def CX1 (P : Program) (w : World) : CXT := fun outer H s E e s' => ∃ x cls a0 B H', e = .ref x ∧ Fly P w outer H s E x s' cls a0 B H'

section
variable {P : Program} {w : World} {H H' : Hp} {h h' B : Heap} {a : Addr} {o : HO}
theorem ObjOk.there (x : ObjOk P w H h a o) : ∃ ob, h.get? a = some ob := by
  induction o with
  | lst xs => obtain ⟨_, _, _, _, e⟩ := x; exact ⟨_, e⟩
  | tup xs => obtain ⟨_, _, _, _, e, _⟩ := x; exact ⟨_, e⟩
  | dK kvs => obtain ⟨_, _, _, _, o, _, _, e, _⟩ := x; exact ⟨_, e⟩
  | dT kvs => obtain ⟨_, _, _, _, o, _, _, e, _⟩ := x; exact ⟨_, e⟩
  | set S n => obtain ⟨o, _, _, _, e, _⟩ := x; exact ⟨_, e⟩
  | ins C dx fs => obtain ⟨_, _, _, e, _⟩ := x; exact ⟨_, e⟩
  | own y => exact x
  | xd fs => obtain ⟨_, ⟨_, _, _, e, _⟩, _⟩ := x; exact ⟨_, e⟩
  | rng lo hi => obtain ⟨_, _, _, e⟩ := x; exact ⟨_, e⟩
  | frz ob u => obtain ⟨e, _⟩ := x; exact ⟨_, e⟩
  | tbl ps => exact ⟨_, (show h.get? a = some _ from x)⟩
  | met f y => exact ⟨_, (show h.get? a = some _ from x)⟩
  | ext φ => obtain ⟨_, e, _⟩ := x; exact e
/-- what is tracked stays, where a part of the heap that holds it stays -/
theorem HOk.part (x : HOk P w H h) (st : B.StaysIn h) (st' : B.StaysIn h') (t : ∀ b u, H b = some u → ∃ o, B.get? b = some o) : HOk P w H h' := fun a o e => by
  refine (x a o e).stay (fun c v hc q => ?_) (fun _ q => q) fun _ _ q => q
  have tr : ∃ u, H c = some u := by
    rcases hc with rfl | hc
    · exact ⟨_, e⟩
    · exact ⟨_, hc⟩
  obtain ⟨u, hu⟩ := tr
  obtain ⟨o', ho'⟩ := t c u hu
  have := st c o' ho'
  rw [q] at this
  cases this
  exact st' c _ ho'
end

section
variable {X : Cx} {pins : List (Addr × Obj)} {σ : St} {H H' : Hp} {s s' : Shared} {h' : Heap} {E : XK} {x : Addr} {cls a0 : Value} {B : Heap}
/-- the heap ahead of the call, to a heap behind the flight -/
theorem Fly.move (F : Fly X.prog X.w X.stack H s E x s' cls a0 B H') (I : Inv X pins σ H s) (st : B.StaysIn h') (up : s'.heap.UpToSlots h') : Un (frs X.stack) [] H H' s.heap h' ∧ HOk X.prog X.w H' h' := by
  have fr : ∀ b ∈ frs X.stack, ∃ o, s.heap.get? b = some o ∧ ∀ vs, o.data ≠ .fields vs := fun b hb => (I.stack.mem hb).2
  have slot : ∀ b o, s.heap.get? b = some o → H b = none → b ∈ frs X.stack → ∃ sl, h'.get? b = some { o with slots := sl } := fun b o e n hb => by
    obtain ⟨sl, e1⟩ := F.un.slot b o e n hb (by simp)
    obtain ⟨o', ho', hd⟩ := fr b hb
    rw [e] at ho'
    cases ho'
    obtain ⟨sl', e2⟩ := up b _ e1 hd
    exact ⟨sl', e2⟩
  refine ⟨⟨fun b o e n hb _ => ?_, fun b o e n hb _ => slot b o e n hb, fun b o e n hx => F.un.free b o e n hx, fun b o e _ => ?_, F.un.tups, F.un.frzs, F.un.tbls⟩, F.hok.part F.fl.1 st F.trk⟩
  · obtain ⟨o', ho'⟩ := F.old b o e hb
    have e1 := F.un.keep b o e n hb (by simp)
    have e2 := F.fl.1 b o' ho'
    rw [e1] at e2
    cases e2
    exact st b _ ho'
  · by_cases hb : b ∈ frs X.stack
    · obtain ⟨sl, e1⟩ := slot b o e (I.stkFree b hb) hb
      exact ⟨_, e1⟩
    · obtain ⟨o', ho'⟩ := F.old b o e hb
      exact ⟨o', st b o' ho'⟩
/-- from the entry of the body -/
theorem Inv.outUn (I : Inv X pins σ H s) (hex : X.ex = []) (u : Un (frs X.stack) [] H H' s.heap h') : Un X.fs [] X.H₀ H' X.s₀.heap h' := by
  have nx : ∀ b, b ∉ X.ex := fun b => by rw [hex]; simp
  have neL : ∀ b o, X.s₀.heap.get? b = some o → b ≠ X.env.locals := fun b o e => Nat.ne_of_lt (Nat.lt_of_lt_of_le (Heap.lt_size e) I.ok.above)
  refine ⟨fun b o q n hb _ => ?_, fun b o q n hb _ => ?_, fun b o q n _ => ?_, fun b o q _ => ?_, fun b xs q => u.tups b xs (I.base.tups b xs q), fun b ob xs q => u.frzs b ob xs (I.base.frzs b ob xs q), fun b ps q => ?_⟩
  · exact u.keep b o (I.base.keep b o q n hb (nx b)) (I.base.free b o q n (nx b)) (fun z => (List.mem_cons.mp (I.stkSub b z)).elim (neL b o q) hb) (by simp)
  · obtain ⟨sl, e1⟩ := I.base.slot b o q n hb (nx b)
    obtain ⟨sl', e2⟩ := u.any e1 (I.base.free b o q n (nx b)) (by simp)
    exact ⟨sl', e2⟩
  · obtain ⟨o', e1⟩ := I.base.there b o q (nx b)
    exact u.free b o' e1 (I.base.free b o q n (nx b)) (by simp)
  · obtain ⟨o', e1⟩ := I.base.there b o q (nx b)
    exact u.there b o' e1 (by simp)
  · obtain ⟨m1, e1⟩ := I.base.tbls b ps q
    obtain ⟨m2, e2⟩ := u.tbls b _ e1
    exact ⟨m1 ++ m2, by rw [e2, Array.append_assoc]⟩
theorem Inv.outOld (I : Inv X pins σ H s) (hex : X.ex = []) (old : ∀ b o, s.heap.get? b = some o → b ∉ frs X.stack → ∃ o', B.get? b = some o') : ∀ b o, X.s₀.heap.get? b = some o → b ∉ X.fs → ∃ o', B.get? b = some o' := fun b o e hb => by
  obtain ⟨o', e1⟩ := I.base.there b o e (by rw [hex]; simp)
  exact old b o' e1 fun z => (List.mem_cons.mp (I.stkSub b z)).elim (Nat.ne_of_lt (Nat.lt_of_lt_of_le (Heap.lt_size e) I.ok.above)) hb
end

section
variable {P : Program} {w : World} {K : PySem.W.Frag} {mg : Str → Option Value} {base : Heap} {N : List Str} {qual : Str} {scope : Scope} {f : Addr} {cd : Value} {A : Around} {outer : List Env} {s₀ : Shared} {H₀ : Hp} {E : XK}
/-- a callee's exception goes on -/
theorem pass1 : Passes (CX1 P w) (cxOf (CX1 P w) P w K mg base N qual scope f cd A outer s₀ H₀ E) E := by
  intro pins σ H s e s' I h
  obtain ⟨x, cls, a0, B, H', rfl, F⟩ := h
  show wpAny _ _ (leaving _ _) _ _ _
  refine wpAny_leaves_onW I.ok.frames rfl F.fl fun h' fl up => ?_
  obtain ⟨u, hok⟩ := F.move I fl.1 up
  exact ⟨x, cls, a0, B, H', rfl, fl, F.os.trans I.os, F.bare, I.outUn rfl u, hok, I.outOld rfl F.old, F.trk, F.want⟩
/-- an exception made here leaves -/
def Flies (X : Cx) (E : XK) : Prop := ∀ (pins : List (Addr × Obj)) (σ : St) (H : Hp) (s : Shared) (h1 : Heap) (x : Addr) (cls : Value) (vs : List Value), Inv X pins σ H s → Heap.MadeExcOf s.heap h1 x cls vs → E cls none H → X.xe (.ref x) { s with heap := h1 }
theorem flies1 : Flies (cxOf (CX1 P w) P w K mg base N qual scope f cd A outer s₀ H₀ E) E := by
  intro pins σ H s h1 x cls vs I hx want
  have hin : ∀ env ∈ (cxOf (CX1 P w) P w K mg base N qual scope f cd A outer s₀ H₀ E).stack, ∀ a, env.frame = some a → a ∈ frs (cxOf (CX1 P w) P w K mg base N qual scope f cd A outer s₀ H₀ E).stack := fun env he a hb => List.mem_filterMap.mpr ⟨env, he, hb⟩
  show wpAny _ _ (leaving _ _) _ _ _
  refine wpAny_leaves_madeW (base := PySem.W.hideAll s.heap (frs (cxOf (CX1 P w) P w K mg base N qual scope f cd A outer s₀ H₀ E).stack)) I.ok.frames rfl (fun b o q => PySem.W.of_hideAll _ q) (PySem.W.funFrames_hide I.stack hin) hx fun h' t fl _ _ up => ?_
  have inB : ∀ b o, s.heap.get? b = some o → b ∉ frs (cxOf (CX1 P w) P w K mg base N qual scope f cd A outer s₀ H₀ E).stack → (PySem.W.hideAll s.heap (frs (cxOf (CX1 P w) P w K mg base N qual scope f cd A outer s₀ H₀ E).stack)).get? b = some o := fun b o e hb => PySem.W.hideAll_get _ e hb
  have slot : ∀ b o, s.heap.get? b = some o → b ∈ frs (cxOf (CX1 P w) P w K mg base N qual scope f cd A outer s₀ H₀ E).stack → ∃ sl, h'.get? b = some { o with slots := sl } := fun b o e hb => by
    obtain ⟨o', ho', hd⟩ := (I.stack.mem hb).2
    rw [e] at ho'
    cases ho'
    exact up b o (hx.keeps b o e) hd
  have trk : ∀ b u, H b = some u → ∃ o, (PySem.W.hideAll s.heap (frs (cxOf (CX1 P w) P w K mg base N qual scope f cd A outer s₀ H₀ E).stack)).get? b = some o := fun b u e => by
    obtain ⟨o, ho⟩ := (I.hok b u e).there
    refine ⟨o, inB b o ho fun z => ?_⟩
    rw [I.stkFree b z] at e
    cases e
  have u : Un (frs (cxOf (CX1 P w) P w K mg base N qual scope f cd A outer s₀ H₀ E).stack) [] H H s.heap h' := by
    refine ⟨fun b o e _ hb _ => fl.1 b o (inB b o e hb), fun b o e _ hb _ => slot b o e hb, fun _ _ _ n _ => n, fun b o e _ => ?_, fun _ _ q => q, fun _ _ _ q => q, fun _ ps q => ⟨#[], by rw [q]; simp⟩⟩
    by_cases hb : b ∈ frs (cxOf (CX1 P w) P w K mg base N qual scope f cd A outer s₀ H₀ E).stack
    · obtain ⟨sl, e1⟩ := slot b o e hb
      exact ⟨_, e1⟩
    · exact ⟨o, fl.1 b o (inB b o e hb)⟩
  exact ⟨x, cls, _, _, H, rfl, fl, I.os, I.bare, I.outUn rfl u, I.hok.part (fun b o q => PySem.W.of_hideAll _ q) fl.1 trk, I.outOld rfl fun b o e hb => ⟨o, inB b o e hb⟩, trk, want⟩
theorem own1 : PassesOwn (model P w) (cxOf (CX1 P w) P w K mg base N qual scope f cd A outer s₀ H₀ E).A (cxOf (CX1 P w) P w K mg base N qual scope f cd A outer s₀ H₀ E).env (cxOf (CX1 P w) P w K mg base N qual scope f cd A outer s₀ H₀ E).xe := PassesOwn.leaving
end

/-! ### raise -/
/-- an error class of the text: C in K, under a built-in base -/
structure XCls (K : PySem.W.Frag) (C : Addr) : Prop where
  q : PySem.W.excIn K C [.type "ValueError", .type "Exception", .type "BaseException", .type "object"] "ValueError.__new__" = true
theorem XCls.obj {K : PySem.W.Frag} {C : Addr} {h : Heap} (c : XCls K C) (X : K.In h) : ∃ bm N nm q bs hdct sn sub ab col dd k0 k1 k2 k3 k5 mN, h.get? C = some (excClassObj nm q C N bs bm hdct sn sub ab col dd k0 k1 k2 k3 k5 "ValueError.__new__") ∧ h.Ns N mN ∧ mN "__init__" = none ∧
    OwnTail h [.type "ValueError", .type "Exception", .type "BaseException", .type "object"] bm := by
  have q := c.q
  unfold PySem.W.excIn at q
  split at q
  · rename_i dd cd sl ho
    split at q
    · rename_i C' bm k0 k1 k2 k3 n k5 hm hs
      simp only [Bool.and_eq_true, beq_iff_eq, Bool.not_eq_true'] at q
      obtain ⟨⟨⟨⟨⟨rfl, rfl⟩, hdel⟩, ht⟩, hok⟩, hni⟩ := q
      obtain ⟨nm, bs, mro, ns, qn, hd, sn, sub, ab, col, del⟩ := cd
      dsimp only at hm hdel hok hni
      subst hm hdel
      have hsl : sl = #[k0, k1, k2, k3, some (.builtin "ValueError.__new__"), k5] := by
        obtain ⟨l⟩ := sl
        simp only at hs
        rw [hs]
      subst hsl
      exact ⟨bm, ns, nm, qn, bs, hd, sn, sub, ab, col, dd, k0, k1, k2, k3, k5, _, X _ _ ho, .of_isNs (PySem.W.isNs_of_in X hok), PySem.W.nsMap_none_of_in X hok hni, PySem.W.tail_of_in X ht⟩
    · cases q
  · cases q
def tRaise (C : Addr) (E : XK) (ta : TA) : TS := fun _ σ H => ta σ H fun vs H1 => vs.length ≤ sizeLine ∧ E (.ref C) none H1
section
variable {X : Cx} {C : Addr} {E : XK} {x : Str} {np cpos pos : Pos} {e : Expr} {es : List Expr} {ta : TA}
theorem ps_raise (fl : Flies X E) (c : XCls X.K C) (hg : Gl X x) (hm : X.mg x = some (.ref C)) (hcalm : X.calm = true) (ha : PA X (e :: es) ta) (hdb : (x == ("__debug__" : Str)) = false := by decide)
    (he : starEach (e :: es) X.env = (false, eval e X.env) :: starEach es X.env := by rfl) (hpl : (backTo cpos (starEach es X.env)).any (·.1) = false := by rfl) :
    PS X (.Raise (some (.Call (.Name x np) (e :: es) [] cpos)) none pos) (tRaise C E ta) := by
  intro pins s σ H D I h
  obtain ⟨bm, N, nm, q, bs, hdct, sn, sub, ab, col, dd, k0, k1, k2, k3, k5, mN, hC, hN, hni, T⟩ := c.obj I.ok.mod.kin
  refine wpAny_Raise_call_subT (C := C) (nm := nm) (q := q) (N := N) (bs := bs) (bm := bm) (hdct := hdct) (sn := sn) (sub := sub) (ab := ab) (col := col) (dd := dd) (k0 := k0) (k1 := k1) (k2 := k2) (k3 := k3) (k5 := k5)
    PySem.F.excBase_ValueError (mN := mN) (T.hasType PySem.F.excBase_ValueError.hasBase) (I.ok.hd hcalm) (by rw [he]; show (false || (backTo cpos (starEach es X.env)).any (·.1)) = false; rw [hpl]; rfl) hni (ld_glob I hg hm ⟨rfl, ?_⟩ hdb)
  have ha' := ha cpos pins s σ H _ I h
  rw [he] at ha' ⊢
  refine Calls.evalArgs_plain (wpAny_mono ha' (fun us s1 ⟨vs, H1, I1, r, hl, q⟩ => ⟨rfl, by rw [← r.length]; exact hl, I1.bk _ _ hC, hN.keeps I1.bk, T.keeps I1.bk, fun h' y hm => ?_⟩) fun _ _ y => y)
  exact fl pins σ H1 s1 h' y (.ref C) us I1 hm q
end

/-! ### try: one call, one handler -/
abbrev Cx.inSuite (X : Cx) (x : Addr) : Cx := { X with A := X.A.mark (some (.ref x)), calm := false, xe := fun _ _ => False }
theorem Cx.Ok.inSuite {X : Cx} (ok : X.Ok) (x : Addr) : (X.inSuite x).Ok :=
  ⟨ok.mod, ok.kind, ok.glob, ok.blt, ok.above, ok.inj, ok.has, ok.cab, (fun z => absurd z Bool.false_ne_true), ok.frames, ok.stk, ok.exf, ok.bs, ok.bsz, ok.noex, ok.exfs, ok.funs, ok.frf⟩
theorem Cx.Ok.outSuite {X : Cx} {x : Addr} (ok : (X.inSuite x).Ok) (hd : X.calm = true → X.A.handled = none) : X.Ok :=
  ⟨ok.mod, ok.kind, ok.glob, ok.blt, ok.above, ok.inj, ok.has, ok.cab, hd, ok.frames, ok.stk, ok.exf, ok.bs, ok.bsz, ok.noex, ok.exfs, ok.funs, ok.frf⟩
section
variable {X : Cx} {pins : List (Addr × Obj)} {σ : St} {H : Hp} {s : Shared} {x : Addr}
theorem Inv.inSuite (I : Inv X pins σ H s) (x : Addr) : Inv (X.inSuite x) pins σ H s := ⟨I.ok.inSuite x, I.os, I.bare, I.base, I.loc, I.cell, I.free, I.freeC, I.pin, I.hok, I.len⟩
theorem Inv.outSuite (I : Inv (X.inSuite x) pins σ H s) (hd : X.calm = true → X.A.handled = none) : Inv X pins σ H s := ⟨I.ok.outSuite hd, I.os, I.bare, I.base, I.loc, I.cell, I.free, I.freeC, I.pin, I.hok, I.len⟩
theorem SP.outSuite {D : Ends} {f : Flow} {s' : Shared} (h : SP (X.inSuite x) pins D f s') (hd : X.calm = true → X.A.handled = none) : SP X pins D f s' := by
  cases f with
  | next => obtain ⟨σ', H', I, q⟩ := h; exact ⟨σ', H', I.outSuite hd, q⟩
  | brk => obtain ⟨σ', H', I, q⟩ := h; exact ⟨σ', H', I.outSuite hd, q⟩
  | cont => obtain ⟨σ', H', I, q⟩ := h; exact ⟨σ', H', I.outSuite hd, q⟩
  | ret u => obtain ⟨v, σ', H', I, r, q⟩ := h; exact ⟨v, σ', H', I.outSuite hd, r, q⟩
/-- a new object is told of, that stood untracked -/
theorem Inv.told {o : HO} (I : Inv X pins σ H s) (n : H x = none) (h0 : X.s₀.heap.objs.size ≤ x) (hL : x ≠ X.env.locals) (hc : ∀ y c, X.env.cells.lookup y = some c → c ≠ x) (hp : ∀ p ∈ X.pn ++ pins, p.1 ≠ x) (ok : ObjOk X.prog X.w (upd H x o) s.heap x o) : Inv X pins σ (upd H x o) s := by
  have nx : ∀ b u, X.s₀.heap.get? b = some u → b ≠ x := fun b u e => Nat.ne_of_lt (Nat.lt_of_lt_of_le (Heap.lt_size e) h0)
  refine ⟨I.ok, I.os, I.bare, ⟨I.base.keep, I.base.slot, fun b u e n' hx => ?_, I.base.there, fun b xs e => ?_, fun b ob u e => ?_, fun b ps e => ?_⟩, I.loc, I.cell, ?_, fun y c e => ?_, fun p hp' => ?_, fun b u e => ?_, I.len⟩
  · rw [upd_ne (nx b u e)]; exact I.base.free b u e n' hx
  · have := I.base.tups b xs e
    rw [upd_ne (ne_of_none this n)]; exact this
  · have := I.base.frzs b ob u e
    rw [upd_ne (ne_of_none this n)]; exact this
  · obtain ⟨m, e1⟩ := I.base.tbls b ps e
    exact ⟨m, by rw [upd_ne (ne_of_none e1 n)]; exact e1⟩
  · rw [upd_ne (Ne.symm hL)]; exact I.free
  · rw [upd_ne (hc y c e)]; exact I.freeC y c e
  · obtain ⟨a, b, c⟩ := I.pin p hp'
    exact ⟨a, by rw [upd_ne (hp p hp')]; exact b, c⟩
  · by_cases hb : b = x
    · subst hb
      rw [upd_same] at e
      cases e
      exact ok
    · rw [upd_ne hb] at e
      exact (I.hok b u e).stay (fun _ _ _ q => q) (fun c q => by rw [upd_ne (ne_of_none q n)]; exact q) fun c xs q => by rw [upd_ne (ne_of_none q n)]; exact q
end
/-- the pins of a place as the context's own, another wish -/
abbrev Cx.pinned (X : Cx) (pins : List (Addr × Obj)) (xe : Value → Shared → Prop) : Cx := { X with pn := X.pn ++ pins, xe := xe }
theorem Cx.Ok.pinned {X : Cx} (ok : X.Ok) (pins : List (Addr × Obj)) (xe : Value → Shared → Prop) : (X.pinned pins xe).Ok :=
  ⟨ok.mod, ok.kind, ok.glob, ok.blt, ok.above, ok.inj, ok.has, ok.cab, ok.hd, ok.frames, ok.stk, ok.exf, ok.bs, ok.bsz, ok.noex, ok.exfs, ok.funs, ok.frf⟩
theorem Cx.Ok.unpinned {X : Cx} {pins : List (Addr × Obj)} {xe : Value → Shared → Prop} (ok : (X.pinned pins xe).Ok) : X.Ok :=
  ⟨ok.mod, ok.kind, ok.glob, ok.blt, ok.above, ok.inj, ok.has, ok.cab, ok.hd, ok.frames, ok.stk, ok.exf, ok.bs, ok.bsz, ok.noex, ok.exfs, ok.funs, ok.frf⟩
section
variable {X : Cx} {pins pins' : List (Addr × Obj)} {σ : St} {H : Hp} {s : Shared} {xe : Value → Shared → Prop}
theorem Inv.toPn (I : Inv X pins σ H s) (xe : Value → Shared → Prop) : Inv (X.pinned pins xe) [] σ H s := ⟨I.ok.pinned pins xe, I.os, I.bare, I.base, I.loc, I.cell, I.free, I.freeC, fun p hp => I.pin p (by rw [List.append_nil] at hp; exact hp), I.hok, I.len⟩
theorem Inv.ofPn (I : Inv (X.pinned pins xe) pins' σ H s) : Inv X pins σ H s := ⟨I.ok.unpinned, I.os, I.bare, I.base, I.loc, I.cell, I.free, I.freeC, fun p hp => I.pin p (List.mem_append_left _ hp), I.hok, I.len⟩
end
section
variable {X : Cx} {k : Nat} {f CH : Addr} {fd : FuncData} {ps : List Str} {sp : Sp} {fx cx : Str} {p pos pos' np hpos tpos : Pos} {e : Expr} {es : List Expr} {ta : TA} {ts : TS} {b0 : Stmt} {suite : List Stmt}
end
end L2

/-! ### a caught exception by its name: isinstance of it, and the suite of `except C as e` -/
namespace L2
open PySem PySem.Spec PySem.Calls PyProof.Rows Builtin Builtin.ObjectAttr Builtin.Getset_descriptor
/-- what the text's class of an exception answers to a look at `__class__` -/
structure XIs (K : PySem.W.Frag) (C : Addr) : Prop where
  cl : PySem.W.hasDictIn K C = true
  ga : PySem.W.findIn K (.ref C) "__getattribute__" = some (some (.builtin "BaseException.__getattribute__"))
  gh : PySem.W.findIn K (.ref C) "__getattr__" = some none
  ca : PySem.W.findIn K (.ref C) "__class__" = some (some (.builtin "object.__class__"))
  ob : PySem.W.mroIn K C (.type "object") = some true
  be : PySem.W.mroIn K C (.type "BaseException") = some true
/-- the object at x is of the class C -/
def OfCls (x C : Addr) (h : Heap) : Prop := ∃ o, h.get? x = some o ∧ o.cls = .ref C
theorem OfCls.type {x C : Addr} {h : Heap} {M : Model} (p : OfCls x C h) : PySem.W.Looks M h (typeOf (.ref x)) (.ref C) := by
  obtain ⟨o, h1, h2⟩ := p
  exact h2 ▸ (PySem.W.Looks.ld h1).andThen .now
section
variable {prog : Program} {w : World} {A : Around} {E : Value → Shared → Prop} {s : Shared} {K : PySem.W.Frag} {x C : Addr}
theorem xcls_get {R : Result → Shared → Prop} {tp : Value} (c : XIs K C) (X : K.In s.heap) (p : OfCls x C s.heap) (fin : R (.ok (.ret (.ref C))) s) :
    codeAny (model prog w) A (.call (.builtin "getset_descriptor.__get__") ⟨[.builtin "object.__class__", .ref x, tp], []⟩) R s := by
  obtain ⟨h1, g1, d1, t1, o1⟩ := s
  have LA := p.type (M := model prog w)
  have LB := PySem.W.looks_mroIn (M := model prog w) X c.ob
  refine codeAny_call_builtin PySem.W.KF.slot_gs.plain PySem.W.KF.entry_gs (PySem.W.KF.slot_gs.check _ _ _ _ _ _ _ _ PySem.W.KF.type_class (PySem.W.KF.args_gs _ _ _) ?go)
  case go =>
    unfold Builtin.«getset_descriptor.__get__» descrGet
    rw [PySem.W.dga_obj]
    refine wpAny_bind (wpAny_pure ?go2)
    case go2 =>
      unfold descrGetter descrCheckInstance descrNameAndClass isInstance
      simp only [PySem.W.KF.owner_class]
      repeat lk
      refine ⟨Code.quiet_builtin _ (by decide +kernel), codeAny_builtin PySem.W.KF.entry_class ?go3⟩
      case go3 =>
        unfold Builtin.«object.__class__» shownTypeOf
        repeat lk
        exact fin

theorem xcls_entry {tk : Tok} {Q : Fin → Shared → Prop} (c : XIs K C) (X : K.In s.heap) (p : OfCls x C s.heap) (fin : Q (.done (.ret (.ref C))) s) :
    wpAny (model prog w) A (Builtin.«object.__getattribute__» ⟨[.ref x, .str "__class__" tk], []⟩) Q E s := by
  obtain ⟨h1, g1, d1, t1, o1⟩ := s
  have LA := p.type (M := model prog w)
  have LB := PySem.W.looks_findIn (M := model prog w) X c.ca
  have f1 : (⟨h1, g1, d1, t1, o1⟩ : Shared).TypeIs (.builtin "object.__class__") "getset_descriptor" := F.typeOf_object_class
  have f2 := F.typeOf_object_class
  have f3 := F.slot_gs_get.lookup
  have f4 := F.slot_gs_set.lookup
  repeat (any_goals (first | assumption | with_reducible refine LA.at ?_ | with_reducible refine LB.at ?_ | wp_step))
  refine xcls_get c X p ?_
  repeat (any_goals (first | assumption | wp_step))
theorem xcls_check {M : Model} {v : Value} {Q : Unit → Shared → Prop} (c : XIs K C) (X : K.In s.heap) (p : OfCls x C s.heap) (fin : Q () s) :
    wpAny M A (checkBuiltinCall "BaseException.__getattribute__" ⟨[.ref x, v], []⟩) Q E s := by
  obtain ⟨h1, g1, d1, t1, o1⟩ := s
  have k1 : builtinKind "BaseException.__getattribute__" = some .slot := by decide +kernel
  have k2 : splitId "BaseException.__getattribute__" = some ("BaseException", "__getattribute__") := by decide +kernel
  have k3 := F.args_bexc_ga (.ref x) v
  have LA := p.type (M := M)
  have LB := PySem.W.looks_mroIn (M := M) X c.be
  simp only [checkBuiltinCall, k1, k2]
  refine wpAny_bind ?_
  unfold isInstance
  repeat (first | with_reducible refine LA.at ?_ | with_reducible refine LB.at ?_ | wp_step)
  exact fin
theorem xcls_call {tk : Tok} {R : Result → Shared → Prop} (c : XIs K C) (X : K.In s.heap) (p : OfCls x C s.heap) (fin : R (.ok (.ret (.ref C))) s) :
    codeAny (model prog w) A (.call (.builtin "BaseException.__getattribute__") ⟨[.ref x, .str "__class__" tk], []⟩) R s :=
  codeAny_call_builtin F.excAttr_ValueError.ga.plain F.entry_bexc_ga (xcls_check c X p (xcls_entry c X p fin))
theorem xcls_by {tk : Tok} {Q : Value → Shared → Prop} (c : XIs K C) (X : K.In s.heap) (p : OfCls x C s.heap) (fin : Q (.ref C) s) :
    wpAny (model prog w) A (getAttrBy (.ref x) (.str "__class__" tk) false) Q E s := by
  obtain ⟨h1, g1, d1, t1, o1⟩ := s
  have LA := p.type (M := model prog w)
  have LB := PySem.W.looks_findIn (M := model prog w) X c.ga
  have LC := PySem.W.looks_findIn (M := model prog w) X c.gh
  have b1 := F.excAttr_ValueError.ga.bind (.ref x)
  have b2 : (false && onTheHeap (Value.builtin "BaseException.__getattribute__")) = false := rfl
  have b3 : (Value.builtin "BaseException.__getattribute__" == Value.builtin "object.__getattribute__") = false := by decide +kernel
  have b4 : (onTheHeap (Value.ref C) && Value.builtin "BaseException.__getattribute__" == Value.builtin "object.__getattribute__") = false := by rw [b3]; exact Bool.and_false _
  repeat (any_goals (first | assumption | with_reducible refine LA.at ?_ | with_reducible refine LB.at ?_ | with_reducible refine LC.at ?_ | wp_step))
  refine xcls_call c X p ?_
  repeat (any_goals (first | assumption | wp_step))
theorem xcls_attr {Q : Option Value → Shared → Prop} (c : XIs K C) (X : K.In s.heap) (p : OfCls x C s.heap) (fin : Q (some (.ref C)) { s with toks := s.toks + 1 }) :
    wpAny (model prog w) A (getAttr? (.ref x) "__class__") Q E s := by
  obtain ⟨h1, g1, d1, t1, o1⟩ := s
  unfold getAttr? getAttrBy?
  have X' : K.In (⟨h1, g1, d1, t1 + 1, o1⟩ : Shared).heap := X
  have p' : OfCls x C (⟨h1, g1, d1, t1 + 1, o1⟩ : Shared).heap := p
  repeat (any_goals (first | assumption | with_reducible apply xcls_by c X' p' | wp_step))
end
theorem kitx_exc {K : PySem.W.Frag} {x C : Addr} (c : XIs K C) : PySem.W.KitX K (.ref x) (.ref C) (OfCls x C) where
  ty := fun _ _ _ p => p.type
  it := fun _ _ X _ => by
    obtain ⟨cd, hc, _⟩ := PySem.W.any_some c.cl
    unfold PySem.W.clsIn at hc
    split at hc
    · rename_i ho
      intro A' Q' E' s' k q
      unfold isType loadHead
      exact wpAny_bind (wpAny_loadPart (k _ _ (X _ _ ho)) (wpAny_pure q))
    · cases hc
  ne := fun h tp dd its n sl X htp => by
    obtain ⟨cd, hc, _⟩ := PySem.W.any_some c.cl
    refine Bool.eq_false_iff.mpr fun q => ?_
    have e : C = tp := Value.ref.inj (beq_iff_eq.mp q)
    subst e
    unfold PySem.W.clsIn at hc
    split at hc
    · rename_i ho
      have z := (X _ _ ho).symm.trans htp
      cases z
    · cases hc
  ca := fun X p k => xcls_attr c X p k
/-- a caught exception of the class C -/
def ExcO (x C : Addr) : HO := .ext (OfCls x C)
theorem excO_ok {P : Program} {w : World} {H : Hp} {h : Heap} {x C : Addr} (p : OfCls x C h) : ObjOk P w H h x (ExcO x C) := by
  refine ⟨p, ?_, fun h1 h2 q k => ?_⟩
  · obtain ⟨o, h1, _⟩ := p
    exact ⟨o, h1⟩
  · obtain ⟨o, e1, e2⟩ := q
    exact ⟨o, k o e1, e2⟩
/-- isinstance(e, C) of a caught exception; C a class of the text -/
theorem call_isX {X : Cx} {K : PySem.W.Frag} (hK : X.K = K) : CallR X (.builtin "isinstance") (fun xs H Q => ∃ a C D b, xs = [.ref a, .ref D] ∧ H a = some (ExcO a C) ∧ XIs K C ∧ PySem.W.kitOne K (.ref C) (.ref D) = some b ∧ Q (.bl b) H) := by
  intro pins s σ H xs us Q I r h
  subst hK
  obtain ⟨a, C, D, b, rfl, hE, hc, e, q⟩ := h
  cases r with
  | cons r1 r2 =>
    cases r2 with
    | cons r3 r4 =>
      cases r4
      cases (show _ = Value.ref a from r1)
      cases (show _ = Value.ref D from r3)
      have ok : ObjOk X.prog X.w H s.heap a (ExcO a C) := I.hok a _ hE
      exact PySem.W.kia_one (kitx_exc hc) I.kIn ok.1 e (fun z => nomatch z) fun tk => ⟨.bl b, H, I.tok tk, rfl, q⟩
/-- C a type -/
theorem call_isXT {X : Cx} {K : PySem.W.Frag} (hK : X.K = K) : CallR X (.builtin "isinstance") (fun xs H Q => ∃ a C T b, xs = [.ref a, .ty T] ∧ H a = some (ExcO a C) ∧ XIs K C ∧ PySem.W.kitOne K (.ref C) (.type T) = some b ∧ Q (.bl b) H) := by
  intro pins s σ H xs us Q I r h
  subst hK
  obtain ⟨a, C, T, b, rfl, hE, hc, e, q⟩ := h
  cases r with
  | cons r1 r2 =>
    cases r2 with
    | cons r3 r4 =>
      cases r4
      cases (show _ = Value.ref a from r1)
      cases (show _ = Value.type T from r3)
      have ok : ObjOk X.prog X.w H s.heap a (ExcO a C) := I.hok a _ hE
      exact PySem.W.kia_one (kitx_exc hc) I.kIn ok.1 e (fun z => nomatch z) fun tk => ⟨.bl b, H, I.tok tk, rfl, q⟩
/-! the suite -/
def Ends.drop (D : Ends) (i : Nat) : Ends := { nx := fun σ H => D.nx (σ.set i none) H, rt := D.rt, bk := fun σ H => D.bk (σ.set i none) H, ct := fun σ H => D.ct (σ.set i none) H }
section
variable {X : Cx} {pins : List (Addr × Obj)} {σ : St} {H : Hp} {s : Shared} {x : Addr}
/-- a new object is told of, that stood untracked; where it was not at the entry -/
theorem Inv.told' {o : HO} (I : Inv X pins σ H s) (n : H x = none) (h0 : X.s₀.heap.get? x = none) (hL : x ≠ X.env.locals) (hc : ∀ y c, X.env.cells.lookup y = some c → c ≠ x) (hp : ∀ p ∈ X.pn ++ pins, p.1 ≠ x) (ok : ObjOk X.prog X.w (upd H x o) s.heap x o) : Inv X pins σ (upd H x o) s := by
  have away : ∀ b u, X.s₀.heap.get? b = some u → b ≠ x := fun b u e z => by rw [z, h0] at e; cases e
  refine ⟨I.ok, I.os, I.bare, ⟨I.base.keep, I.base.slot, fun b u e n' hx => ?_, I.base.there, fun b xs e => ?_, fun b ob u e => ?_, fun b ps e => ?_⟩, I.loc, I.cell, ?_, fun y c e => ?_, fun p hp' => ?_, fun b u e => ?_, I.len⟩
  · rw [upd_ne (away b u e)]; exact I.base.free b u e n' hx
  · have z := I.base.tups b xs e
    rw [upd_ne (ne_of_none z n)]; exact z
  · have z := I.base.frzs b ob u e
    rw [upd_ne (ne_of_none z n)]; exact z
  · obtain ⟨m, e1⟩ := I.base.tbls b ps e
    exact ⟨m, by rw [upd_ne (ne_of_none e1 n)]; exact e1⟩
  · rw [upd_ne (Ne.symm hL)]; exact I.free
  · rw [upd_ne (hc y c e)]; exact I.freeC y c e
  · obtain ⟨a, b, c⟩ := I.pin p hp'
    exact ⟨a, by rw [upd_ne (hp p hp')]; exact b, c⟩
  · by_cases hb : b = x
    · subst hb
      rw [upd_same] at e
      cases e
      exact ok
    · rw [upd_ne hb] at e
      exact (I.hok b u e).stay (fun _ _ _ q => q) (fun c q => by rw [upd_ne (ne_of_none q n)]; exact q) fun c xs q => by rw [upd_ne (ne_of_none q n)]; exact q
/-- the suite's name goes -/
theorem Inv.goes {M : Model} {A : Around} {E : Value → Shared → Prop} {i : Nat} {n : Str} {pos : Pos} {Q : Unit → Shared → Prop} (I : Inv X pins σ H s) (hN : X.N.Nodup) (hi : X.N[i]? = some n) (hk : X.env.scope.names.lookup n = some .local)
    (h : ∀ s', Inv X pins (σ.set i none) H s' → Q () s') : wpAny M A (do bindName X.env n .none; unbindBehindTheSuite X.env n pos) Q E s := by
  obtain ⟨m, hn, hl⟩ := id I.loc
  have fun_ : (X.env.scope.kind == .class || (X.env.scope.kind == .module && X.env.locals != X.env.globals)) = false := by rw [I.ok.kind]; rfl
  have hlt : i < σ.length := by rw [I.len]; exact (List.getElem?_eq_some_iff.mp hi).1
  have cne := I.cne
  obtain ⟨oL, _, _, hoL, _⟩ := id hn
  refine wpAny_nameGoes_keeps hk hn fun_ fun h' v hn' hs => h _ ?_
  have under : ∀ b o, X.s₀.heap.get? b = some o → h'.get? b = s.heap.get? b := fun b o e => hs.2 b (Nat.ne_of_lt (Nat.lt_of_lt_of_le (Heap.lt_size e) I.ok.above))
  refine ⟨I.ok, I.os, I.bare, ⟨fun b o e z hb hx => (under b o e).trans (I.base.keep b o e z hb hx), fun b o e z hb hx => ?_, I.base.free, fun b o e hx => ?_, I.base.tups, I.base.frzs, I.base.tbls⟩, ⟨_, hn', fun j y v' e1 e2 e3 => ?_⟩, fun y c e => ?_, I.free, I.freeC, fun p hp => ?_, fun b ob e => ?_, by simpa using I.len⟩
  · obtain ⟨sl, e1⟩ := I.base.slot b o e z hb hx
    exact ⟨sl, (under b o e).trans e1⟩
  · obtain ⟨o', e1⟩ := I.base.there b o e hx
    exact ⟨o', (under b o e).trans e1⟩
  · by_cases hj : j = i
    · subst hj
      rw [List.getElem?_set_self hlt] at e2
      cases e2
    · rw [List.getElem?_set_ne (Ne.symm hj)] at e2
      obtain ⟨u', r', q⟩ := hl j y v' e1 e2 e3
      refine ⟨u', r', ?_⟩
      rcases q with ⟨k, e⟩ | ⟨k, c, e, z⟩
      · have ny : y ≠ n := fun z => hj (nodup_ix hN e1 (z ▸ hi))
        exact .inl ⟨k, by simp [ny, e]⟩
      · exact .inr ⟨k, c, e, z.sameBut hs (cne y c e)⟩
  · obtain ⟨w', z⟩ := I.cell y c e
    exact ⟨w', z.sameBut hs (cne y c e)⟩
  · obtain ⟨e, z, ne, nf, d⟩ := I.pin p hp
    exact ⟨(hs.2 p.1 ne).trans e, z, ne, nf, d⟩
  · refine (I.hok b ob e).stay (fun c w' hc q => (hs.2 c ?_).trans q) (fun _ q => q) fun _ _ q => q
    rintro rfl
    rcases hc with rfl | hc
    · rw [I.free] at e; cases e
    · rw [I.free] at hc; cases hc
end
/-- try: f(..) / except C as e: .. -/
def tTryAs (K : PySem.W.Frag) (CH : Addr) (i : Nat) (sp : Sp) (ta : TA) (ts : TS) : TS := fun D σ H => ta σ H fun vs H1 => sp vs H1 (fun _ H2 => D.nx σ H2) fun cls _ H2 => PySem.W.exmOne K cls (.ref CH) = some true ∧
  ∃ C, cls = .ref C ∧ ∀ y, H2 y = none → ts (D.drop i) (σ.set i (some (.ref y))) (upd H2 y (ExcO y C))
section
variable {X : Cx} {k i : Nat} {f CH : Addr} {fd : FuncData} {ps : List Str} {sp : Sp} {fx cx n : Str} {p pos pos' np hpos tpos : Pos} {e : Expr} {es : List Expr} {ta : TA} {ts : TS} {b0 : Stmt} {suite : List Stmt}
theorem ps_tryAs (hN : X.N.Nodup) (hi : X.N[i]? = some n) (hloc : X.env.scope.names.lookup n = some .local) (hex : X.ex = []) (F : FnOk X.prog X.w X.K X.mg X.base (CX1 X.prog X.w) k f fd ps sp) (hr : Room k X.A) (hg : Gl X fx) (hm : X.mg fx = some (.ref f)) (hk : PySem.W.keepIn X.K (.ref f) = true) (hb : Binds X.K fd ps [])
    (ha : ∀ pn xe, PA { X with pn := pn, xe := xe } (e :: es) ta) (hst : X.stack = X.env :: X.outer) (hfr : X.env.frame = some X.env.locals) (hgC : Gl X cx) (hmC : X.mg cx = some (.ref CH)) (hs : ∀ x, PSs (X.inSuite x) (b0 :: suite) ts)
    (hdb : (fx == ("__debug__" : Str)) = false := by decide) (hdc : (cx == ("__debug__" : Str)) = false := by decide) (he : starEach (e :: es) X.env = (false, eval e X.env) :: starEach es X.env := by rfl) (hpl : (backTo pos (starEach es X.env)).any (·.1) = false := by rfl)
    (hsw : swapsWith (.Call (.Name fx p) (e :: es) [] pos) none pos'.line X.env = pure false := by rfl) :
    PS X (.Try [.Expr (.Call (.Name fx p) (e :: es) [] pos) pos'] [.ExceptHandler (some (.Name cx np)) (some n) (b0 :: suite) hpos] [] [] tpos) (tTryAs X.K CH i sp ta ts) := by
  intro pins s σ H D I h
  have hd : X.calm = true → X.A.handled = none := I.ok.hd
  have call : PE (X.pinned pins fun x s' => ∃ H1 s1, Inv X pins σ H1 s1 ∧ CX1 X.prog X.w X.stack H1 s1 (fun cls _ H2 => PySem.W.exmOne X.K cls (.ref CH) = some true ∧ ∃ C, cls = .ref C ∧ ∀ y, H2 y = none → ts (D.drop i) (σ.set i (some (.ref y))) (upd H2 y (ExcO y C))) x s') (.Call (.Name fx p) (e :: es) [] pos)
      (fun σ' H' Q => σ' = σ ∧ ta σ H' fun vs H1 => sp vs H1 Q fun cls _ H2 => PySem.W.exmOne X.K cls (.ref CH) = some true ∧ ∃ C, cls = .ref C ∧ ∀ y, H2 y = none → ts (D.drop i) (σ.set i (some (.ref y))) (upd H2 y (ExcO y C))) := by
    intro pins' s' σ' H' Q I' h'
    obtain ⟨rfl, h'⟩ := h'
    refine wpAny_Call_Name_kw (ld_glob I' hg hm ?_ hdb)
    refine PySem.W.callWith_K (h₀ := X.base) I'.ok.mod.kin hk (thn (ha _ _ pos pins' s' σ' H' _ I' h') fun us s1 ⟨vs, H1, I1, r, q⟩ => ⟨I1.kIn, ?_⟩) he hpl
    have hl : us.length = ps.length := by rw [← r.length]; exact F.len _ _ _ _ q
    have bnd := hb s1 us I1.kIn (by rw [List.append_nil]; exact hl)
    rw [List.append_nil] at bnd
    refine wpAny_call (codeAny_mono (F.run X.A X.stack s1 H1 ⟨us, []⟩ us vs Q _ hr I1.ofPn.env0 bnd r q) fun r s2 hq => ?_)
    cases r with
    | error x => exact ⟨H1, s1, I1.ofPn, hq⟩
    | ok fl =>
      cases fl with
      | ret u => exact I1.after hq
      | next => exact False.elim hq
      | brk => exact False.elim hq
      | cont => exact False.elim hq
  have body := pss_one (ps_expr (pos := pos') call hsw) [] s σ H { nx := D.nx, rt := fun _ _ => False } (I.toPn _) ⟨rfl, h⟩
  refine wpAny_Try_except (wpAny_mono body (fun fl s1 hf => ?_) fun x s1 hx => ?_)
  · cases fl with
    | next =>
      obtain ⟨σ', H', I', q⟩ := hf
      exact wpAny_execs_nil ⟨σ', H', I'.ofPn, q⟩
    | ret u => obtain ⟨_, _, _, _, _, q⟩ := hf; exact False.elim q
    | brk => obtain ⟨_, _, _, q⟩ := hf; exact False.elim q
    | cont => obtain ⟨_, _, _, q⟩ := hf; exact False.elim q
  · obtain ⟨H1, s0, I0, y, cls, a0, B, H', rfl, Y⟩ := hx
    obtain ⟨hmat, C, rfl, hq⟩ := Y.want
    have fl := Y.fl
    have stk : X.A.frames = some (X.env :: X.outer) := by rw [← hst]; exact I.ok.frames
    rw [hst] at fl
    refine wpAny_looks_onW stk hfr fl fun h4 held4 up4 => ?_
    refine wpAny_landsW held4 fun h5 held5 up5 => ?_
    have up := up4.trans up5
    have state : ∀ {h6 : Heap}, B.StaysIn h6 → s1.heap.UpToSlots h6 → Inv X pins σ H' { s1 with heap := h6 } := fun {h6} st up6 => by
      obtain ⟨u, hok⟩ := Y.move I0 st up6
      exact I0.call' (s' := { s1 with heap := h6 }) Y.os u hok Y.bare fun b z => absurd z (by simp)
    have I5 := state held5.1 up
    refine wpAny_handleBy_cons (codeAny_handlers_test (ld_glob (X := X.inSuite y) (I5.inSuite y) hgC hmC ?_ hdc)) (by intro q; cases q)
    obtain ⟨ob, hob, hobc⟩ := held5.there
    have LT : PySem.W.Looks (model X.prog X.w) h5 (typeOf (.ref y)) (.ref C) := by
      rw [← hobc]
      exact (PySem.W.Looks.ld hob).andThen .now
    refine (PySem.W.exm_one (I5.kIn) LT hmat).here ?_
    refine codeAny_handlers_suite_as ?_
    refine lands_againW held5 fun h6 held6 up6 => ?_
    have I6 := state held6.1 (up.trans up6)
    obtain ⟨o6, ho6, ho6c⟩ := held6.there
    -- the exception stands apart from all that was there
    have noB : B.get? y = none := fl.2.1
    have nH : H' y = none := by
      cases e : H' y with
      | none => rfl
      | some u => obtain ⟨o, ho⟩ := Y.trk y u e; rw [noB] at ho; cases ho
    have rec6 : ∃ vs, o6.data = .fields vs := by
      obtain ⟨_, _, _, oe, vs, _, _, _, he6, _, hd6, _⟩ := held6
      rw [ho6] at he6
      cases he6
      exact ⟨vs, hd6⟩
    have notFr : ∀ b ∈ frs X.stack, b ≠ y := fun b hb z => by
      obtain ⟨_, o', ho', hdd⟩ := (I6.stack.mem hb)
      rw [z, ho6] at ho'
      cases ho'
      obtain ⟨vs, hv⟩ := rec6
      exact hdd vs hv
    have out : ∀ b o, s0.heap.get? b = some o → b ≠ y := fun b o e z => by
      by_cases hb : b ∈ frs X.stack
      · exact notFr b hb z
      · obtain ⟨o', ho'⟩ := Y.old b o e hb
        rw [z, noB] at ho'
        cases ho'
    have hL : y ≠ X.env.locals := by
      obtain ⟨m0, ⟨oL, _, _, hoL, _⟩, _⟩ := I0.loc
      exact fun z => out _ _ hoL z.symm
    have hC : ∀ z c, X.env.cells.lookup z = some c → c ≠ y := fun z c e => by
      obtain ⟨_, o', ho', _⟩ := I0.cell z c e
      exact out c o' ho'
    have hP : ∀ q ∈ X.pn ++ pins, q.1 ≠ y := fun q hq' => out q.1 _ (I0.pin q hq').1
    have h0 : X.s₀.heap.get? y = none := by
      cases e : X.s₀.heap.get? y with
      | none => rfl
      | some o =>
        obtain ⟨o', ho'⟩ := I0.base.there y o e (by rw [hex]; simp)
        exact absurd rfl (out y o' ho')
    have I7 := (I6.told' (o := ExcO y C) nH h0 hL hC hP (excO_ok ⟨o6, ho6, ho6c⟩)).inSuite y
    refine store_ok (X := X.inSuite y) I7 hN hi (.inl hloc) (show RelV (.ref y) (.ref y) from rfl) (fun s8 I8 => ?_) (.inr hloc)
    refine wpAny_mono (hs y pins s8 (σ.set i (some (.ref y))) (upd H' y (ExcO y C)) (D.drop i) I8 (hq y nH)) (fun fl s9 q9 => ?_) fun _ _ z => False.elim z
    have q10 := q9.outSuite hd
    cases fl with
    | next => obtain ⟨σ', H9, I9, q⟩ := q10; exact I9.goes hN hi hloc fun s' I' => ⟨_, _, I', q⟩
    | brk => obtain ⟨σ', H9, I9, q⟩ := q10; exact I9.goes hN hi hloc fun s' I' => ⟨_, _, I', q⟩
    | cont => obtain ⟨σ', H9, I9, q⟩ := q10; exact I9.goes hN hi hloc fun s' I' => ⟨_, _, I', q⟩
    | ret u => obtain ⟨v, σ', H9, I9, r, q⟩ := q10; exact I9.goes hN hi hloc fun s' I' => ⟨v, _, _, I', r, q⟩
end
end L2

/-! ### texts -/
namespace L2
open PySem PySem.Spec PyProof.Rows
/-- a text's signs, one by one -/
def Its (z : Str) : It := ⟨fun i _ => i < z.cps.size, fun i H x H' => H' = H ∧ ∃ c, z.cps[i]? = some c ∧ x = .str ⟨#[c]⟩, fun i _ => z.cps.size ≤ i⟩
section
variable {P : Program} {w : World} {K : PySem.W.Frag} {tg : Expr}
theorem turn_strA (z : Str) (t : Tok) (it : Addr) : Turn P w K tg (Its z) [it] it (fun i h => h.IsStrIter it "str_ascii_iterator" z t i) where
  mem := by simp
  obj := fun i h st b hb => by
    have e : b = it := by simpa using hb
    subst e
    obtain ⟨o, e, c, d⟩ := st
    exact ⟨o, e, fun v y => by rw [d] at y; cases y⟩
  keep := fun i h h' st k => let ⟨o, ho, r⟩ := st; ⟨o, k it (by simp) o ho, r⟩
  item := by
    intro X hP hw hK hc i pins s σ H E I hf st hg
    subst hP hw hK
    obtain ⟨f0, f1, f2, f3, f4, f5⟩ := hf it (by simp)
    have hlt : i < z.cps.size := hg
    refine wpAny_pyNext_ascii_item st (c := z.cps[i]) (by simp [hlt]) fun h' st' sb => ?_
    have I1 : Inv X pins σ H { s with heap := h', toks := s.toks + 1 } := I.turned (fun b o hb e => (sb.2 b hb).trans e) f0 f1 f3 f4 f5
    obtain ⟨o, e, c, d⟩ := id st'
    exact ⟨_, rfl, go_of (s := { s with heap := h', toks := s.toks + 1 }) e c d (by decide) ⟨.str ⟨#[z.cps[i]]⟩, H, I1, ⟨_, rfl⟩, ⟨rfl, z.cps[i], by simp [hlt], rfl⟩, st', fun b hb => (hf b hb).1⟩⟩
  done := by
    intro X hP hw hK hc i pins s σ H E I hf st hg
    subst hP hw hK
    obtain ⟨f0, f1, f2, f3, f4, f5⟩ := hf it (by simp)
    have hle : z.cps.size ≤ i := hg
    exact wpAny_pyNext_ascii_end (I.ok.hd hc) st (by simp [hle]) fun h' eb => ⟨rfl, I.turned (t' := s.toks) (fun b o hb e => eb b o hb e) f0 f1 f3 f4 f5⟩
  self := fun _ _ _ _ _ st h => wpAny_pyIter_striter_ascii st h
theorem turn_strW (z : Str) (t : Tok) (it : Addr) : Turn P w K tg (Its z) [it] it (fun i h => h.IsStrIter it "str_iterator" z t i) where
  mem := by simp
  obj := fun i h st b hb => by
    have e : b = it := by simpa using hb
    subst e
    obtain ⟨o, e, c, d⟩ := st
    exact ⟨o, e, fun v y => by rw [d] at y; cases y⟩
  keep := fun i h h' st k => let ⟨o, ho, r⟩ := st; ⟨o, k it (by simp) o ho, r⟩
  item := by
    intro X hP hw hK hc i pins s σ H E I hf st hg
    subst hP hw hK
    obtain ⟨f0, f1, f2, f3, f4, f5⟩ := hf it (by simp)
    have hlt : i < z.cps.size := hg
    refine wpAny_pyNext_wide_item st (c := z.cps[i]) (by simp [hlt]) fun h' st' sb => ?_
    have I1 : Inv X pins σ H { s with heap := h', toks := s.toks + 1 } := I.turned (fun b o hb e => (sb.2 b hb).trans e) f0 f1 f3 f4 f5
    obtain ⟨o, e, c, d⟩ := id st'
    exact ⟨_, rfl, go_of (s := { s with heap := h', toks := s.toks + 1 }) e c d (by decide) ⟨.str ⟨#[z.cps[i]]⟩, H, I1, ⟨_, rfl⟩, ⟨rfl, z.cps[i], by simp [hlt], rfl⟩, st', fun b hb => (hf b hb).1⟩⟩
  done := by
    intro X hP hw hK hc i pins s σ H E I hf st hg
    subst hP hw hK
    obtain ⟨f0, f1, f2, f3, f4, f5⟩ := hf it (by simp)
    have hle : z.cps.size ≤ i := hg
    exact wpAny_pyNext_wide_end (I.ok.hd hc) st (by simp [hle]) fun h' eb => ⟨rfl, I.turned (t' := s.toks) (fun b o hb e => eb b o hb e) f0 f1 f3 f4 f5⟩
  self := fun _ _ _ _ _ st h => wpAny_pyIter_striter_wide st h
end
section
variable {X : Cx} {tg : Expr}
def iStr (tl : TE) : TI := fun σ H R => tl σ H fun x H1 => ∃ z, x = .str z ∧ R (Its z) H1
theorem pi_str {l : Expr} {tl : TE} (hl : PE X l tl) : PI X tg l (iStr tl) := by
  intro pins s σ H R I h
  refine thn (hl pins s σ H _ I h) fun v s1 ⟨x, H1, I1, r1, q1⟩ => ?_
  obtain ⟨z, e, q⟩ := q1
  subst e
  obtain ⟨t, rfl⟩ := r1
  have fp : ∀ b ∈ [s1.heap.objs.size], FpOk X pins H1 b := fun b hb => by
    have e : b = s1.heap.objs.size := by simpa using hb
    subst e
    exact I1.fpOk (Nat.le_refl _) (I1.hok.fresh (Nat.le_refl _))
  cases ha : z.cps.all (· < 128) with
  | false => exact wpAny_pyIter_wide ha ⟨s1.heap.objs.size, [s1.heap.objs.size], _, _, H1, rfl, I1.kept (t' := s1.toks) fun b o e => Heap.get?_push_of_some _ e, turn_strW z t _, ⟨_, Heap.get?_push_size _ rfl, rfl, rfl⟩, fp, q⟩
  | true => exact wpAny_pyIter_ascii ha ⟨s1.heap.objs.size, [s1.heap.objs.size], _, _, H1, rfl, I1.kept (t' := s1.toks) fun b o e => Heap.get?_push_of_some _ e, turn_strA z t _, ⟨_, Heap.get?_push_size _ rfl, rfl, rfl⟩, fp, q⟩
end
theorem for_str {z : Str} {g : TG} {tb : TS} {D : Ends} {σ : St} {H : Hp} (Pv : Nat → St → Hp → Prop) (h0 : Pv 0 σ H)
    (hs : ∀ i c σ H, z.cps.toList[i]? = some c → Pv i σ H → g (.str ⟨#[c]⟩) σ H fun σ2 H2 => tb { D with nx := Pv (i + 1), ct := Pv (i + 1), bk := D.nx } σ2 H2) (hd : ∀ σ H, Pv z.length σ H → D.nx σ H) :
    ∃ W : Nat → Nat → St → Hp → Prop, (∃ m, W 0 m σ H) ∧ ∀ i m σ H, W i m σ H →
      ((Its z).stop i H ∧ D.nx σ H) ∨ ((Its z).go i H ∧ ∃ N : St → Hp → Prop, (∀ σ' H', N σ' H' → ∃ m', m' < m ∧ W (i + 1) m' σ' H') ∧ ∀ x H', (Its z).yld i H x H' → g x σ H' fun σ2 H2 => tb { D with nx := N, ct := N, bk := D.nx } σ2 H2) := by
  refine ⟨fun i m σ H => m = z.cps.size - i ∧ i ≤ z.cps.size ∧ Pv i σ H, ⟨z.cps.size, by simp, Nat.zero_le _, h0⟩, ?_⟩
  rintro i m σ H ⟨rfl, hi, p⟩
  by_cases hlt : i < z.cps.size
  · refine .inr ⟨hlt, Pv (i + 1), fun σ' H' p' => ⟨z.cps.size - (i + 1), by omega, rfl, hlt, p'⟩, fun x H' y => ?_⟩
    obtain ⟨rfl, c, hc, rfl⟩ := y
    exact hs i c σ _ (by simpa using hc) p
  · have e : i = z.cps.size := by omega
    subst e
    exact .inl ⟨Nat.le_refl _, hd σ H p⟩
/-! ### operations -/
/-- a part of a text -/
def cutS (z : Str) (lo hi : Option Int) : Str := ⟨((z.cps.toList.drop (HT.sIx z.length 0 lo)).take (HT.sIx z.length z.length hi - HT.sIx z.length 0 lo)).toArray⟩
theorem sIx_le {n d : Nat} (hd : d ≤ n) (o : Option Int) : HT.sIx n d o ≤ n := by
  cases o with
  | none => exact hd
  | some i =>
    show (if i < 0 then (i + n).toNat else min i.toNat n) ≤ n
    split <;> omega
theorem cut_text (x : Str) (lo hi : Option Int) : Txt.slice x lo hi = cutS x lo hi := by
  have e : (Builtin.Str.strSliceIndices lo hi 1 x.length).filterMap (x.cps[·]?) = (x.cps.toList.drop (HT.sIx x.length 0 lo)).take (HT.sIx x.length x.length hi - HT.sIx x.length 0 lo) := by
    obtain ⟨h1, h2, h3⟩ := slice_bounds lo hi x.length
    have : Builtin.Str.strSliceIndices lo hi 1 x.length = sliceRange (HT.sIx x.length 0 lo : Nat) (HT.sIx x.length x.length hi : Nat) 1 := by
      rw [← h1, ← h2]
      rfl
    rw [this, sliceRange_one, pick_run]
  unfold Txt.slice cutS
  rw [e]
  split
  · rename_i c
    have hl : (Builtin.Str.strSliceIndices lo hi 1 x.length).length = x.length := by
      simp only [beq_self_eq_true, Bool.true_and, beq_iff_eq] at c
      exact c
    obtain ⟨h1, h2, h3⟩ := slice_bounds lo hi x.length
    have e2 : Builtin.Str.strSliceIndices lo hi 1 x.length = sliceRange (HT.sIx x.length 0 lo : Nat) (HT.sIx x.length x.length hi : Nat) 1 := by
      rw [← h1, ← h2]
      rfl
    rw [e2, sliceRange_one, List.length_map, List.length_range] at hl
    have b1 := sIx_le (n := x.length) (Nat.zero_le _) lo
    have b2 := sIx_le (n := x.length) (Nat.le_refl _) hi
    have z0 : HT.sIx x.length 0 lo = 0 ∨ x.length = 0 := by omega
    have hx : x.cps.toList.length = x.length := by simp [Str.length]
    have : (x.cps.toList.drop (HT.sIx x.length 0 lo)).take (HT.sIx x.length x.length hi - HT.sIx x.length 0 lo) = x.cps.toList := by
      rcases z0 with z0 | z0
      · rw [hl, z0, List.drop_zero]
        exact List.take_of_length_le (by omega)
      · have : x.cps.toList = [] := List.eq_nil_of_length_eq_zero (by omega)
        rw [this]; simp
    rw [this]
  · rfl
section
variable {X : Cx}
def rSlS : V → Option Int → Option Int → Hp → VK → Prop := fun x lo hi H Q => ∃ z, x = .str z ∧ z.length ≤ sizeLine ∧ Q (.str (cutS z lo hi)) H
theorem sl_str : SlR X rSlS := by
  intro pins s σ H x v vl vu lo hi sl Q I rx hs pl pu h
  obtain ⟨z, rfl, hz, q⟩ := h
  obtain ⟨t, rfl⟩ := rx
  obtain ⟨o, ho, hc, hd⟩ := hs
  refine ⟨"str", _, F.slot_str_getitem.lookup, typeIs_str _ _ _, ?_⟩
  have fin : ∀ t' k, EP X pins σ Q (.str (Txt.slice z lo hi) t') { s with toks := k } := fun t' k => ⟨.str (cutS z lo hi), H, I.tok k, ⟨t', by rw [cut_text]⟩, q⟩
  cases pl with
  | none =>
    cases pu with
    | none => exact wpAny_getItem_str_slice (l := none) (u := none) (st := none) ⟨o, ho, hc, hd⟩ rfl (post_val_or_str ⟨Nat.le_trans (Txt.slice_le z _ _) hz, fin⟩)
    | int j tj => exact wpAny_getItem_str_slice (l := none) (u := some (j, tj)) (st := none) ⟨o, ho, hc, hd⟩ rfl (post_val_or_str ⟨Nat.le_trans (Txt.slice_le z _ _) hz, fin⟩)
  | int i ti =>
    cases pu with
    | none => exact wpAny_getItem_str_slice (l := some (i, ti)) (u := none) (st := none) ⟨o, ho, hc, hd⟩ rfl (post_val_or_str ⟨Nat.le_trans (Txt.slice_le z _ _) hz, fin⟩)
    | int j tj => exact wpAny_getItem_str_slice (l := some (i, ti)) (u := some (j, tj)) (st := none) ⟨o, ho, hc, hd⟩ rfl (post_val_or_str ⟨Nat.le_trans (Txt.slice_le z _ _) hz, fin⟩)
/-- x * n -/
def repS (z : Str) (n : Nat) : Str := ⟨(List.replicate n z.cps).foldl (· ++ ·) #[]⟩
theorem op_rep_str : OpR X (binaryOp .Mult) (fun x y H Q => ∃ z n, x = .str z ∧ y = .int n ∧ -(2 ^ 63) ≤ n ∧ n < 2 ^ 31 ∧ z.length * n.toNat ≤ sizeLine ∧ Q (.str (repS z n.toNat)) H) := by
  intro pins s σ H x y v u Q I rx ry h
  obtain ⟨z, n, rfl, rfl, h1, h2, hz, q⟩ := h
  obtain ⟨t, rfl⟩ := rx
  obtain ⟨t', rfl⟩ := ry
  have line := line63
  refine P.mul_str (by
    have e1 : decide (n < -(2 ^ 63 : Int)) = false := decide_eq_false (by omega)
    have e2 : decide (n ≥ 2 ^ 63) = false := decide_eq_false (by omega)
    rw [e1, e2, Bool.or_false]) (fun c _ => ?_) (fun _ _ => ?_) ?_
  · have hn : 0 < n := by omega
    have : (z.length : Int) ≤ (2 ^ 63 - 1) / n := by
      apply Int.le_ediv_of_mul_le hn
      have e : (z.length : Int) * n = ((z.length * n.toNat : Nat) : Int) := by rw [Int.natCast_mul, Int.toNat_of_nonneg (by omega)]
      rw [e]
      omega
    omega
  · unfold Builtin.Str.tooLong
    simp only [gt_iff_lt, decide_eq_false_iff_not, Nat.not_lt]
    exact hz
  · by_cases c1 : n < 1
    · rw [if_pos c1]
      have e : n.toNat = 0 := by omega
      rw [e] at q
      exact ⟨by decide, ⟨.str Str.empty, H, I.tok _, ⟨_, rfl⟩, q⟩⟩
    · rw [if_neg c1]
      by_cases c2 : (n == 1 || z.length == 0) = true
      · rw [if_pos c2]
        have e : repS z n.toNat = z := by
          unfold repS
          rcases Bool.or_eq_true_iff.mp c2 with c | c
          · have e1 : n.toNat = 1 := by have := beq_iff_eq.mp c; omega
            rw [e1]
            simp
          · have e0 : z.cps = #[] := by
              have : z.cps.size = 0 := beq_iff_eq.mp c
              exact Array.eq_empty_of_size_eq_zero this
            have all : ∀ k : Nat, (List.replicate k (#[] : Array Nat)).foldl (· ++ ·) #[] = #[] := fun k => by
              induction k with
              | zero => rfl
              | succ k ih => rw [List.replicate_succ, List.foldl_cons]; exact ih
            obtain ⟨cps⟩ := z
            simp only at e0
            rw [e0, all]
        rw [e] at q
        exact ⟨.str z, H, I, ⟨t, rfl⟩, q⟩
      · rw [if_neg c2]
        refine ⟨?_, ⟨.str (repS z n.toNat), H, I.tok _, ⟨_, rfl⟩, q⟩⟩
        show (repS z n.toNat).length ≤ sizeLine
        have len : ∀ (k : Nat) (acc : Array Nat), ((List.replicate k z.cps).foldl (· ++ ·) acc).size = acc.size + k * z.cps.size := fun k => by
          induction k with
          | zero => intro acc; simp
          | succ k ih => intro acc; rw [List.replicate_succ, List.foldl_cons, ih, Array.size_append, Nat.succ_mul]; omega
        show ((List.replicate n.toNat z.cps).foldl (· ++ ·) #[]).size ≤ sizeLine
        rw [len]
        have : n.toNat * z.cps.size = z.length * n.toNat := Nat.mul_comm _ _
        simp only [List.size_toArray, List.length_nil]
        omega
/-- int(text) -/
theorem call_int_str : CallR X (.type "int") (fun xs H Q => ∃ z n, xs = [.str z] ∧ PySem.intText? z = some n ∧ z.length ≤ 640 ∧ Q (.int n) H) := by
  intro pins s σ H xs us Q I r h
  obtain ⟨z, n, rfl, hn, hl, q⟩ := h
  obtain ⟨u, rfl, ru⟩ := vals1 r
  obtain ⟨t, rfl⟩ := ru
  exact PySem.W.KIN.call_text hn hl ⟨.int n, H, I.tok _, ⟨_, rfl⟩, q⟩
/-- all of a list of truths -/
theorem call_all (hc : X.calm = true) : CallR X (.builtin "all") (fun xs H Q => ∃ (p : Addr) (bs : List Bool), xs = [.ref p] ∧ SqL X.K H p (bs.map V.bl) ∧ Q (.bl (bs.all id)) H) := by
  intro pins s σ H xs us Q I r h
  obtain ⟨p, bs, rfl, hl, q⟩ := h
  obtain ⟨u, rfl, ru⟩ := vals1 r
  cases (show u = Value.ref p from ru)
  obtain ⟨its, rv, pl, _⟩ := I.list hl
  have hlt : p < s.heap.objs.size := by
    obtain ⟨o, _, e, _⟩ := pl
    exact Heap.lt_size e
  refine call_all_walk (wpAny_pyIter_list pl.isList ?_)
  have ne : p ≠ s.heap.objs.size := Nat.ne_of_lt hlt
  refine ⟨s.heap.objs.size, _, _, _, _, _, fun i => bs.getD i true, rfl, Walks.list (show X.A.in1.handled = none from I.ok.hd hc) _ p ne its.toArray, ⟨⟨_, Heap.get?_push_size _ rfl, rfl, rfl⟩, pl.isList.push _⟩, fun i v s' Q' E' hv hq => ?_, fun h' tk hk => ?_⟩
  · have hv' : its[i]? = some v := by simpa using hv
    have hb : ∃ b, bs[i]? = some b := by
      have : i < bs.length := by
        have l1 := rv.length
        rw [List.length_map] at l1
        have := (List.getElem?_eq_some_iff.mp hv').1
        omega
      exact ⟨bs[i], List.getElem?_eq_getElem this⟩
    obtain ⟨b, hb⟩ := hb
    obtain ⟨u, hu, ru⟩ := rv.get (i := i) (x := .bl b) (by rw [List.getElem?_map, hb]; rfl)
    rw [hv'] at hu
    cases hu
    cases (show v = Value.bool b from ru)
    have e : bs.getD i true = b := by rw [List.getD_eq_getElem?_getD, hb]; rfl
    have hq' : Q' (bs.getD i true) s' := hq
    rw [e] at hq'
    exact wpAny_pure hq'
  · refine ⟨.bl (bs.all id), H, I.kept (h' := h') (t' := tk) (fun b o e => hk b o ?_ (Heap.get?_push_of_some _ e)), ?_, q⟩
    · have : b ≠ s.heap.objs.size := Nat.ne_of_lt (Heap.lt_size e)
      simpa using this
    · have ln : its.toArray.size = bs.length := by rw [List.size_toArray, ← rv.length, List.length_map]
      show Value.bool ((List.range its.toArray.size).all fun i => bs.getD i true) = Value.bool (bs.all id)
      rw [ln]
      congr 1
      have key : ∀ l : List Bool, ((List.range l.length).all fun i => l.getD i true) = l.all id := fun l => by
        rw [Bool.eq_iff_iff, List.all_eq_true, List.all_eq_true]
        constructor
        · intro h x hx
          obtain ⟨i, hi, rfl⟩ := List.getElem_of_mem hx
          have := h i (List.mem_range.mpr hi)
          rw [List.getD_eq_getElem?_getD, List.getElem?_eq_getElem hi] at this
          exact this
        · intro h i hi
          have hi := List.mem_range.mp hi
          rw [List.getD_eq_getElem?_getD, List.getElem?_eq_getElem hi]
          exact h _ (List.getElem_mem hi)
      exact key bs
end
/-- a comprehension whose test and element leave the heap as it is, over fixed items -/
theorem comp_gen {J : It} {D : Addr} {tc : TT} {te : TE} {Q : VK} {r : St} {H : Hp} (xs : List V) (p : V → Bool) (f : V → V) (hl : xs.length ≤ 16000000)
    (go : ∀ i ys, i < xs.length → J.go i (upd H D (.lst ys))) (yld : ∀ i ys x H', J.yld i (upd H D (.lst ys)) x H' → H' = upd H D (.lst ys) ∧ xs[i]? = some x) (stop : ∀ ys, J.stop xs.length (upd H D (.lst ys)))
    (test : ∀ x ∈ xs, ∀ ys (R : Bool → Hp → Prop), R (p x) (upd H D (.lst ys)) → tc (some x :: r) (upd H D (.lst ys)) R)
    (step : ∀ x ∈ xs, p x = true → ∀ ys (R : VK), R (f x) (upd H D (.lst ys)) → te (some x :: r) (upd H D (.lst ys)) R)
    (q : Q (.ref D) (upd H D (.lst ((xs.filter p).map f)))) : compW J D (gName 0) tc te Q (none :: r) (upd H D (.lst [])) := by
  refine ⟨fun i m τ H2 => m = xs.length - i ∧ i ≤ xs.length ∧ (∃ x, τ = x :: r) ∧ H2 = upd H D (.lst (((xs.take i).filter p).map f)), ⟨xs.length, by simp, Nat.zero_le _, ⟨none, rfl⟩, by simp⟩, ?_⟩
  rintro i m τ H2 ⟨rfl, hi, ⟨x, rfl⟩, rfl⟩
  by_cases hlt : i < xs.length
  · refine .inr ⟨go i _ hlt, fun τ' H' => (∃ x, τ' = x :: r) ∧ H' = upd H D (.lst (((xs.take (i + 1)).filter p).map f)), fun τ' H' ⟨h1, h2⟩ => ⟨xs.length - (i + 1), by omega, rfl, hlt, h1, h2⟩, fun y H' hy => ?_⟩
    obtain ⟨rfl, hz⟩ := yld i _ y H' hy
    clear hy
    have hy := hz
    rw [List.getElem?_eq_getElem hlt] at hy
    cases hy
    have mem := List.getElem_mem hlt
    simp only [gName, List.set]
    refine test _ mem _ _ ?_
    rw [List.take_succ_eq_append_getElem hlt, List.filter_append, List.map_append]
    cases hp : p xs[i] with
    | false =>
      rw [if_neg Bool.false_ne_true]
      refine ⟨⟨_, rfl⟩, ?_⟩
      simp [hp]
    | true =>
      rw [if_pos rfl]
      refine step _ mem hp _ _ ⟨_, upd_same, ?_, ⟨_, rfl⟩, ?_⟩
      · have h1 : (((xs.take i).filter p).map f).length ≤ i := by
          rw [List.length_map]
          exact Nat.le_trans (List.length_filter_le _ _) (by rw [List.length_take]; omega)
        have : sizeLine = 2 ^ 24 := rfl
        omega
      · rw [upd_upd]
        simp [hp]
  · have e : i = xs.length := by omega
    subst e
    refine .inl ⟨stop _, ?_⟩
    rw [List.take_length]
    exact q
/-- over a text's signs -/
theorem comp_str {z : Str} {D : Addr} {tc : TT} {te : TE} {Q : VK} {r : St} {H : Hp} (p : Nat → Bool) (f : Nat → V) (hl : z.length ≤ 16000000)
    (test : ∀ c ∈ z.cps.toList, ∀ ys (R : Bool → Hp → Prop), R (p c) (upd H D (.lst ys)) → tc (some (.str ⟨#[c]⟩) :: r) (upd H D (.lst ys)) R)
    (step : ∀ c ∈ z.cps.toList, p c = true → ∀ ys (R : VK), R (f c) (upd H D (.lst ys)) → te (some (.str ⟨#[c]⟩) :: r) (upd H D (.lst ys)) R)
    (q : Q (.ref D) (upd H D (.lst ((z.cps.toList.filter p).map f)))) : compW (Its z) D (gName 0) tc te Q (none :: r) (upd H D (.lst [])) := by
  have code : ∀ (c : Nat), (match V.str ⟨#[c]⟩ with | .str y => y.cps.toList.headD 0 | _ => 0) = c := fun c => rfl
  refine comp_gen (z.cps.toList.map fun c => V.str ⟨#[c]⟩) (fun x => p (match x with | .str y => y.cps.toList.headD 0 | _ => 0)) (fun x => f (match x with | .str y => y.cps.toList.headD 0 | _ => 0)) (by rw [List.length_map]; simpa [Str.length] using hl)
    (fun i ys hi => ?_) (fun i ys x H' hy => ?_) (fun ys => ?_) (fun x hx ys R hR => ?_) (fun x hx hp ys R hR => ?_) ?_
  · show i < z.cps.size
    simpa using hi
  · obtain ⟨rfl, c, hc, rfl⟩ := hy
    refine ⟨rfl, ?_⟩
    rw [List.getElem?_map]
    have : z.cps.toList[i]? = some c := by simpa using hc
    rw [this]
    rfl
  · show z.cps.size ≤ _
    simp
  · obtain ⟨c, hc, rfl⟩ := List.mem_map.mp hx
    exact test c hc ys R hR
  · obtain ⟨c, hc, rfl⟩ := List.mem_map.mp hx
    exact step c hc hp ys R hR
  · rw [List.filter_map, List.map_map]
    exact q
end L2

/-! ### words by their codes; what the reader of expressions promises -/
namespace L2
open PySem PySem.Spec PyProof.Rows
abbrev W := PM.W
def S (w : W) : Str := ⟨w.toArray⟩
def sv (w : W) : V := .str (S w)
theorem S_list (w : W) : (S w).cps.toList = w := rfl
theorem S_len (w : W) : (S w).length = w.length := by simp [S, Str.length]
theorem S_eta (z : Str) : S z.cps.toList = z := by obtain ⟨a⟩ := z; simp [S]
theorem S_inj {a b : W} : S a = S b ↔ a = b := ⟨fun h => by have := congrArg (fun z : Str => z.cps.toList) h; simpa [S] using this, fun h => by rw [h]⟩
theorem S_app (a b : W) : S a ++ S b = S (a ++ b) := by
  show (⟨a.toArray ++ b.toArray⟩ : Str) = _
  simp [S]
theorem sv_inj {a b : W} : sv a = sv b ↔ a = b := by unfold sv; rw [V.str.injEq]; exact S_inj
theorem S_one (c : Nat) : (⟨#[c]⟩ : Str) = S [c] := rfl
def dpT : PM.Tr → Dp
  | .num n => .tup [.str "number", .int n]
  | .box x => .tup [.str "box", .str (S x)]
  | .bin o l r => .tup [.str (S o), dpT l, dpT r]
def kindS : Nat → Str
  | 0 => "letter"
  | 1 => "figure"
  | 2 => "sign"
  | _ => ""
def Upto (p : Addr) (H H' : Hp) : Prop := ∀ b o, b ≠ p → H b = some o → H' b = some o
theorem Upto.refl (p : Addr) (H : Hp) : Upto p H H := fun _ _ _ h => h
theorem Upto.trans {p : Addr} {H H1 H2 : Hp} (a : Upto p H H1) (b : Upto p H1 H2) : Upto p H H2 := fun c o n h => b c o n (a c o n h)
theorem Upto.of {p : Addr} {H H' : Hp} (s : Same H H') : Upto p H H' := fun b o _ h => s b o h
theorem Upto.put {p : Addr} {H H1 : Hp} (a : Upto p H H1) (o : HO) : Upto p H (upd H1 p o) := fun b u n h => by rw [upd_ne n]; exact a b u n h
theorem Upto.new {p q : Addr} {H H1 : Hp} (a : Upto p H H1) (h : H1 q = none) (o : HO) : Upto p H (upd H1 q o) := fun b u n e => by rw [upd_ne (ne_of_none (a b u n e) h)]; exact a b u n e
/-- the reader's place in the pieces -/
structure PcO (CP : Addr) (H : Hp) (p l dx : Addr) (ps : List W) (k : Nat) : Prop where
  ins : H p = some (.ins CP dx [("pieces", .ref l), ("place", .int k)])
  own : H dx = some (.own p)
  lst : H l = some (.lst (ps.map sv))
  le : k ≤ ps.length
  pos : ∀ q ∈ ps, q ≠ []
  len : ∀ q ∈ ps, q.length ≤ 60
  many : ps.length ≤ 60
theorem PcO.nd {CP p l dx : Addr} {H : Hp} {ps : List W} {k : Nat} (o : PcO CP H p l dx ps k) : dx ≠ p := ne_of o.own o.ins (by intro z; cases z)
theorem PcO.nl {CP p l dx : Addr} {H : Hp} {ps : List W} {k : Nat} (o : PcO CP H p l dx ps k) : l ≠ p := ne_of o.lst o.ins (by intro z; cases z)
/-- another place -/
theorem PcO.at {CP p l dx : Addr} {H H' : Hp} {ps : List W} {k j : Nat} (o : PcO CP H p l dx ps k) (u : Upto p H H') (e : H' p = some (.ins CP dx [("pieces", .ref l), ("place", .int j)])) (hj : j ≤ ps.length) : PcO CP H' p l dx ps j :=
  ⟨e, u _ _ o.nd o.own, u _ _ o.nl o.lst, hj, o.pos, o.len, o.many⟩
theorem Rep.upto {K : PySem.W.Frag} {H H' : Hp} {p C dx : Addr} {fs : List (Str × V)} (hp : H p = some (.ins C dx fs)) (u : Upto p H H') : (∀ (d : Dp) (v : V), Rep K H d v → Rep K H' d v) ∧ ∀ (ds : List Dp) (vs : List V), Reps K H ds vs → Reps K H' ds vs := by
  have st : ∀ a xs, SqT K H a xs → SqT K H' a xs := fun a xs h => by
    rcases h with (h | ⟨o, h⟩) | h
    · exact .inl (.inl (u _ _ (ne_of h hp (by intro z; cases z)) h))
    · exact .inl (.inr ⟨o, u _ _ (ne_of h hp (by intro z; cases z)) h⟩)
    · exact .inr h
  have sl : ∀ a xs, SqL K H a xs → SqL K H' a xs := fun a xs h => by
    rcases h with (h | ⟨o, h⟩) | h
    · exact .inl (.inl (u _ _ (ne_of h hp (by intro z; cases z)) h))
    · exact .inl (.inr ⟨o, u _ _ (ne_of h hp (by intro z; cases z)) h⟩)
    · exact .inr h
  refine ⟨fun d => ?_, fun ds => ?_⟩
  · exact Dp.rec (motive_1 := fun d => ∀ v, Rep K H d v → Rep K H' d v) (motive_2 := fun ds => ∀ vs, Reps K H ds vs → Reps K H' ds vs)
      (fun v h => by rw [Rep.non_iff] at h ⊢; exact h) (fun b v h => by rw [Rep.bl_iff] at h ⊢; exact h) (fun i v h => by rw [Rep.int_iff] at h ⊢; exact h) (fun x v h => by rw [Rep.str_iff] at h ⊢; exact h)
      (fun l ih v h => by rw [Rep.tup_iff] at h ⊢; obtain ⟨a, xs, e, q, r⟩ := h; exact ⟨a, xs, e, st a xs q, ih xs r⟩)
      (fun l ih v h => by rw [Rep.lst_iff] at h ⊢; obtain ⟨a, xs, e, q, r⟩ := h; exact ⟨a, xs, e, sl a xs q, ih xs r⟩)
      (fun vs h => by rw [Reps.nil_iff] at h ⊢; exact h)
      (fun d ds i1 i2 vs h => by rw [Reps.cons_iff] at h ⊢; obtain ⟨v, r, e, x, y⟩ := h; exact ⟨v, r, e, i1 v x, i2 r y⟩) d
  · exact Dp.rec_1 (motive_1 := fun d => ∀ v, Rep K H d v → Rep K H' d v) (motive_2 := fun ds => ∀ vs, Reps K H ds vs → Reps K H' ds vs)
      (fun v h => by rw [Rep.non_iff] at h ⊢; exact h) (fun b v h => by rw [Rep.bl_iff] at h ⊢; exact h) (fun i v h => by rw [Rep.int_iff] at h ⊢; exact h) (fun x v h => by rw [Rep.str_iff] at h ⊢; exact h)
      (fun l ih v h => by rw [Rep.tup_iff] at h ⊢; obtain ⟨a, xs, e, q, r⟩ := h; exact ⟨a, xs, e, st a xs q, ih xs r⟩)
      (fun l ih v h => by rw [Rep.lst_iff] at h ⊢; obtain ⟨a, xs, e, q, r⟩ := h; exact ⟨a, xs, e, sl a xs q, ih xs r⟩)
      (fun vs h => by rw [Reps.nil_iff] at h ⊢; exact h)
      (fun d ds i1 i2 vs h => by rw [Reps.cons_iff] at h ⊢; obtain ⟨v, r, e, x, y⟩ := h; exact ⟨v, r, e, i1 v x, i2 r y⟩) ds
/-! the promises -/
section
variable (K : PySem.W.Frag) (CP CN : Addr)
def spIsOf (ok : Nat → Bool) (signs : Str) : Sp := fun vs H Q _ => ∃ w : W, vs = [sv w, .str signs] ∧ w.length ≤ 1000 ∧ (∀ c, decide (c ∈ signs.cps.toList) = ok c) ∧ ∀ H', Same H H' → Q (.bl (w.all ok)) H'
def spIsName : Sp := fun vs H Q _ => ∃ w : W, vs = [sv w] ∧ w.length ≤ 16000000 ∧ ∀ H', Same H H' → Q (.bl (PM.isName w)) H'
def spIsNumber : Sp := fun vs H Q _ => ∃ w : W, vs = [sv w] ∧ w.length ≤ 16000000 ∧ ∀ H', Same H H' → Q (.bl (PM.isNumber w)) H'
def spKindOf : Sp := fun vs H Q _ => ∃ c : Nat, vs = [sv [c]] ∧ Q (.str (kindS (PM.kind c))) H
def spPiecesOf : Sp := fun vs H Q _ => ∃ w : W, vs = [sv w] ∧ w.length ≤ 60 ∧ ∀ l H', Same H H' → H l = none → H' l = some (.lst ((PM.pieces w).map sv)) → Q (.ref l) H'
def spInit : Sp := fun vs H Q _ => ∃ (p dx : Addr) (w : W), vs = [.ref p, sv w] ∧ H p = some (.ins CP dx []) ∧ H dx = some (.own p) ∧ w.length ≤ 60 ∧ ∀ l H', Upto p H H' → PcO CP H' p l dx (PM.pieces w) 0 → Q .non H'
def spAhead : Sp := fun vs H Q _ => ∃ (p l dx : Addr) (ps : List W) (k : Nat), vs = [.ref p] ∧ PcO CP H p l dx ps k ∧ Q (sv ((ps.drop k).headD [])) H
def spTake : Sp := fun vs H Q E => ∃ (p l dx : Addr) (ps : List W) (k : Nat), vs = [.ref p] ∧ PcO CP H p l dx ps k ∧
  match ps.drop k with
  | [] => E (.ref CN) none H
  | q :: _ => ∀ H', Upto p H H' → PcO CP H' p l dx ps (k + 1) → Q (sv q) H'
/-- a reader by its mirror, d deep -/
def spRead (f : PM.P) (d : Int) : Sp := fun vs H Q E => ∃ (p l dx : Addr) (ps : List W) (k : Nat), vs = [.ref p, .int d] ∧ PcO CP H p l dx ps k ∧
  match f (ps.drop k) with
  | none => ∀ H', Upto p H H' → E (.ref CN) none H'
  | some (t, r) => ∀ v H' j, Upto p H H' → PcO CP H' p l dx ps j → ps.drop j = r → Rep K H' (dpT t) v → Q v H'
/-- behind an open bracket; n brackets more may be -/
def brP : Nat → PM.P
  | 0 => fun _ => none
  | n + 1 => fun ps => match PM.sumP (PM.factor n) ps with
    | some (e, q :: r) => if q = [41] then some (e, r) else none
    | _ => none
def spBracket (n : Nat) (d : Int) : Sp := spRead K CP CN (brP n) d
def spExpr : Sp := fun vs H Q E => ∃ w : W, vs = [sv w] ∧ w.length ≤ 16000000 ∧
  match PM.expr w with
  | none => ∀ H', Same H H' → E (.ref CN) none H'
  | some t => ∀ v H', Same H H' → Rep K H' (dpT t) v → Q v H'
end
theorem factor_step (n : Nat) (y : W) (r : List W) : PM.factor n (y :: r) = if PM.isNumber y then some (.num (PM.numVal y), r) else if PM.isName y then some (.box y, r) else if y = [40] then brP n r else none := by
  cases n with
  | zero =>
    show PM.facOf _ _ = _
    rw [PM.facOf_cons]
    rfl
  | succ n =>
    show PM.facOf _ _ = _
    rw [PM.facOf_cons]
    rfl
theorem num_text {y : W} (h : PM.isNumber y = true) : PySem.intText? (S y) = some (PM.numVal y) := by
  simp only [PM.isNumber, Bool.and_eq_true, decide_eq_true_eq] at h
  obtain ⟨⟨⟨h1, h2⟩, h3⟩, _⟩ := h
  have fig : ∀ c ∈ y, 48 ≤ c ∧ c ≤ 57 := fun c hc => by
    have := List.all_eq_true.mp h3 c hc
    simpa [PM.isFigure] using this
  have ne : y ≠ [] := by rintro rfl; simp at h1
  have := PySem.intText_digits (x := S y) fig ne (by rw [S_len]; omega)
  rw [this]
  congr 1
  have key : ∀ (l : W), (∀ c ∈ l, 48 ≤ c ∧ c ≤ 57) → ∀ a : Nat, ((l.foldl (fun a c => a * 10 + (c - 48)) a : Nat) : Int) = l.foldl (fun (a : Int) (c : Nat) => a * 10 + ((c : Int) - 48)) (a : Int) := by
    intro l
    induction l with
    | nil => intro _ a; rfl
    | cons c r ih =>
      intro hc a
      rw [List.foldl_cons, List.foldl_cons, ih (fun x hx => hc x (by simp [hx]))]
      congr 1
      have := (hc c (by simp)).1
      omega
  exact key y fig 0
theorem pass10 {X : Cx} {P : Program} {w : World} : Passes (CX1 P w) X E0 := fun _ _ _ _ _ _ _ h => by
  obtain ⟨_, _, _, _, _, _, F⟩ := h
  exact F.want.elim
section
variable {P : Program} {w : World} {K : PySem.W.Frag} {mg : Str → Option Value} {base : Heap}
/-- a def that may raise -/
theorem Fun.okX {x qual : Str} {st : Stmt} {f : Addr} {fd : FuncData} {N ps : List Str} {k : Nat} {sp : Sp} (F : Fun K x qual st f fd) (S : FnScope N ps (defScope st)) (len : ∀ vs H Q E, sp vs H Q E → vs.length = ps.length)
    (hbody : ∀ (cdv : Value) (A : Around) (outer : List Env) (s : Shared) (H : Hp) (vs : List V) (Q : VK) (E : XK), Room k (A.deeper (envOfC qual (defScope st) s.heap.objs.size f cdv)) → sp vs H Q E →
      ∃ t σ, PSs (cxOf (CX1 P w) P w K mg base N qual (defScope st) f cdv A outer s H E) (defBody st) t ∧ L2.start N vs = σ ∧ t { nx := fun _ H' => Q .non H', rt := Q } σ H) : FnOk P w K mg base (CX1 P w) (k + 1) f fd ps sp := by
  obtain ⟨oc, od, kV, doc, pm, an, cdv, ct, osl, rfl, lk, hcd⟩ := F.ex
  refine fn_of lk hcd S len fun A outer s H vs Q E hr hsp => ?_
  obtain ⟨t, σ, h, e, q⟩ := hbody cdv A outer s H vs Q E hr hsp
  exact ⟨t, h, by rw [e]; exact q⟩
end
end L2

/-! ### == of deep values -/
namespace L2
open PySem PySem.Spec PyProof.Rows
mutual
def Dp.py : Dp → PyData
  | .non => .none
  | .bl b => .bool b
  | .int i => .int i
  | .str x => .str x
  | .tup l => .tuple (Dp.pys l)
  | .lst l => .list (Dp.pys l)
def Dp.pys : List Dp → List PyData
  | [] => []
  | d :: r => d.py :: Dp.pys r
end
section
variable {X : Cx} {pins : List (Addr × Obj)} {σ : St} {H : Hp} {s : Shared}
mutual
theorem reads_of (I : Inv X pins σ H s) : ∀ {d : Dp} {v : V} {u : Value}, Rep X.K H d v → RelV v u → ∃ as, Reads s.heap u d.py as
  | .non, v, u, h, r => by rw [Rep.non_iff] at h; subst h; cases (show u = Value.none from r); exact ⟨_, .none⟩
  | .bl b, v, u, h, r => by rw [Rep.bl_iff] at h; subst h; cases (show u = Value.bool b from r); exact ⟨_, .bool b⟩
  | .int i, v, u, h, r => by rw [Rep.int_iff] at h; subst h; obtain ⟨t, rfl⟩ := (show ∃ t, u = Value.int i t from r); exact ⟨_, .int i t⟩
  | .str x, v, u, h, r => by rw [Rep.str_iff] at h; subst h; obtain ⟨t, rfl⟩ := (show ∃ t, u = Value.str x t from r); exact ⟨_, .str x t⟩
  | .tup l, v, u, h, r => by
    rw [Rep.tup_iff] at h
    obtain ⟨p, xs, rfl, q, w⟩ := h
    cases (show u = Value.ref p from r)
    obtain ⟨its, v1, t1, _⟩ := I.tuple q
    obtain ⟨as, ra⟩ := reads_ofs I w v1
    obtain ⟨o, h1, h2, n, h3⟩ := t1
    unfold Dp.py
    exact ⟨as, .tuple h1 h2 h3 (by simpa using ra)⟩
  | .lst l, v, u, h, r => by
    rw [Rep.lst_iff] at h
    obtain ⟨p, xs, rfl, q, w⟩ := h
    cases (show u = Value.ref p from r)
    obtain ⟨its, v1, t1, _⟩ := I.list q
    obtain ⟨as, ra⟩ := reads_ofs I w v1
    obtain ⟨o, h1, h2, n, h3⟩ := t1.isList
    unfold Dp.py
    exact ⟨_, .list h1 h2 h3 (by simpa using ra)⟩
theorem reads_ofs (I : Inv X pins σ H s) : ∀ {ds : List Dp} {vs : List V} {us : List Value}, Reps X.K H ds vs → Vals vs us → ∃ as, ReadsAll s.heap us (Dp.pys ds) as
  | [], _, _, h, r => by rw [Reps.nil_iff] at h; subst h; cases r; unfold Dp.pys; exact ⟨_, .nil⟩
  | d :: ds, _, _, h, r => by
    rw [Reps.cons_iff] at h
    obtain ⟨v, vs, rfl, x, y⟩ := h
    cases r with
    | cons r1 r2 =>
      obtain ⟨a, ra⟩ := reads_of I x r1
      obtain ⟨b, rb⟩ := reads_ofs I y r2
      unfold Dp.pys
      exact ⟨_, .cons ra rb⟩
end
end
section
variable {X : Cx}
def rEqD (K : PySem.W.Frag) (neg : Bool) : R2 := fun x y H Q => ∃ d e, Rep K H d x ∧ Rep K H e y ∧ SeqAt.shaped d.py = true ∧ SeqAt.shaped e.py = true ∧ Q (.bl (if neg then !PyData.eqv d.py e.py else PyData.eqv d.py e.py)) H
theorem op_neD (hu : X.A.units + 64 < cLine) : OpR X (compareOp .NotEq) (rEqD X.K true) := by
  intro pins s σ H x y v u Q I rx ry h
  obtain ⟨d, e, h1, h2, s1, s2, q⟩ := h
  obtain ⟨as, ra⟩ := reads_of I h1 rx
  obtain ⟨bs, rb⟩ := reads_of I h2 ry
  exact ne_dataH ra rb s1 s2 hu ⟨.bl (!PyData.eqv d.py e.py), H, I, rfl, q⟩
/-- str(x) of an int or a text -/
theorem call_str_any : CallR X (.type "str") (fun xs H Q => (∃ i, xs = [.int i] ∧ i.natAbs.log2 < 1920 ∧ Q (.str (toString i)) H) ∨ ∃ x, xs = [.str x] ∧ Q (.str x) H) := by
  intro pins s σ H xs us Q I r h
  rcases h with h | ⟨x, rfl, q⟩
  · exact call_str_int pins s σ H xs us Q I r h
  · obtain ⟨u, rfl, ru⟩ := vals1 r
    obtain ⟨t, rfl⟩ := ru
    exact P.str_of_str ⟨.str x, H, I, ⟨t, rfl⟩, q⟩
end
mutual
theorem eqv_refl : ∀ d : Dp, PyData.eqv d.py d.py = true
  | .non => rfl
  | .bl b => by simp [Dp.py, PyData.eqv]
  | .int i => by simp [Dp.py, PyData.eqv]
  | .str x => by simp [Dp.py, PyData.eqv]
  | .tup l => by simp only [Dp.py, PyData.eqv]; exact eqvs_refl l
  | .lst l => by simp only [Dp.py, PyData.eqv]; exact eqvs_refl l
theorem eqvs_refl : ∀ l : List Dp, PyData.eqvAll (Dp.pys l) (Dp.pys l) = true
  | [] => rfl
  | d :: r => by simp only [Dp.pys, PyData.eqvAll, eqv_refl d, eqvs_refl r, Bool.and_true]
end
/-- a statement, what comes behind it kept shut -/
theorem seq_gen {t u : TS} {D : Ends} {σ : St} {H : Hp} (h : ∀ U : St → Hp → Prop, (∀ σ' H', U σ' H' ↔ u D σ' H') → t { D with nx := U } σ H) : tSeq t u D σ H := h (u D) fun _ _ => Iff.rfl
/-! a long display, kept shut -/
def hideElts (es : List Expr) : Stmt → Stmt
  | .Assign ts (.List _ p) q => .Assign ts (.List es p) q
  | s => s
def eltsIn : Stmt → List Expr
  | .Assign _ (.List es _) _ => es
  | _ => []
theorem hu64 {A : Around} {k : Nat} (hr : Room k A) : A.units + 64 < cLine := hr.units
end L2

/-! ### what several laws reckon by -/
namespace L2
open PySem
def stir (cell k : Int) : Int := if 10 ^ 18 ≤ cell then ((cell - 10 ^ 18) / 2 ^ (28 * k).toNat) % 2 ^ 28 else
  ((((cell + 1013 * k + 1) * 16807 % 2147483647) * ((cell + 1013 * k + 1) * 16807 % 2147483647) % 2147483629) * 39373 % 2147483587) / 8
theorem stir_bound (cell k : Int) : 0 ≤ stir cell k ∧ stir cell k < 2 ^ 28 := by
  unfold stir
  split
  · have := Int.emod_nonneg ((cell - 10 ^ 18) / 2 ^ (28 * k).toNat) (show (2 ^ 28 : Int) ≠ 0 by decide)
    have := Int.emod_lt_of_pos ((cell - 10 ^ 18) / 2 ^ (28 * k).toNat) (show (0 : Int) < 2 ^ 28 by decide)
    omega
  · generalize ((((cell + 1013 * k + 1) * 16807 % 2147483647) * ((cell + 1013 * k + 1) * 16807 % 2147483647) % 2147483629) * 39373) = z
    omega
def spStir : Sp := fun vs H Q _ => ∃ cell k : Int, vs = [.int cell, .int k] ∧ 0 ≤ k ∧ k ≤ 100000 ∧ Q (.int (stir cell k)) H
theorem spStir_i {cell k : Int} {H : Hp} {Q : VK} {E : XK} : spStir [.int cell, .int k] H Q E ↔ 0 ≤ k ∧ k ≤ 100000 ∧ Q (.int (stir cell k)) H := by
  constructor
  · rintro ⟨c, k', e, h⟩; cases e; exact h
  · exact fun h => ⟨_, _, rfl, h⟩
/-! trees by a cell -/
def htT : PM.Tr → Nat
  | .bin _ l r => max (htT l) (htT r) + 1
  | _ => 0
/-! the promises -/
section
variable (K : PySem.W.Frag)
end
end L2

/-! ### deepness by whole numbers; chains -/
namespace L2
open PySem
/-! chains -/
section
variable (K : PySem.W.Frag)
end
theorem strOk_S {x : W} (h : ∀ c ∈ x, c < 1114112) : PyData.strOk (S x) = true := by
  unfold PyData.strOk
  show x.toArray.all _ = true
  rw [List.all_toArray, List.all_eq_true]
  exact fun c hc => decide_eq_true (h c hc)
theorem dpT_lay : ∀ t : PM.Tr, PM.TrOk t → PyData.canLay0 (dpT t).py = true ∧ (dpT t).py.depth ≤ htT t + 1
  | .num n, _ => by
    have e : PyData.strOk (Str.ofString "number") = true := by decide +kernel
    simp [dpT, Dp.py, Dp.pys, PyData.canLay0, PyData.canLayAll0, PyData.depth, PyData.depthAll, e]
  | .box x, ok => by
    have e : PyData.strOk (Str.ofString "box") = true := by decide +kernel
    have e2 : PyData.strOk (S x) = true := strOk_S fun c hc => by
      have ok : PM.isName x = true := ok
      simp only [PM.isName, Bool.and_eq_true] at ok
      have := List.all_eq_true.mp ok.1.2 c hc
      simp only [PM.isLetter, Bool.and_eq_true, decide_eq_true_eq] at this
      omega
    simp [dpT, Dp.py, Dp.pys, PyData.canLay0, PyData.canLayAll0, PyData.depth, PyData.depthAll, e, e2]
  | .bin o l r, ok => by
    obtain ⟨ho, okl, okr⟩ := ok
    obtain ⟨l1, l2⟩ := dpT_lay l okl
    obtain ⟨r1, r2⟩ := dpT_lay r okr
    have e2 : PyData.strOk (S o) = true := by rcases ho with rfl | rfl | rfl <;> decide +kernel
    refine ⟨by simp [dpT, Dp.py, Dp.pys, PyData.canLay0, PyData.canLayAll0, e2, l1, r1], ?_⟩
    simp only [dpT, Dp.py, Dp.pys, PyData.depth, PyData.depthAll, htT]
    omega
theorem dpT_shaped {t : PM.Tr} (ok : PM.TrOk t) (h : htT t ≤ 60) : SeqAt.shaped (dpT t).py = true := by
  obtain ⟨a, b⟩ := dpT_lay t ok
  unfold SeqAt.shaped
  rw [a, Bool.true_and]
  exact decide_eq_true (by omega)
end L2
namespace L2
open PySem
/-- isinstance(x, T) of a tuple however it stands -/
theorem call_isQ {X : Cx} : CallR X (.builtin "isinstance") (fun xs H Q => ∃ a T l b, xs = [.ref a, .ty T] ∧ SqT X.K H a l ∧ PySem.W.kitOne X.K (.type "tuple") (.type T) = some b ∧ Q (.bl b) H) := by
  intro pins s σ H xs us Q I r h
  obtain ⟨a, T, l, b, rfl, hS, e, q⟩ := h
  cases r with
  | cons r1 r2 =>
    cases r2 with
    | cons r3 r4 =>
      cases r4
      cases (show _ = Value.ref a from r1)
      cases (show _ = Value.type T from r3)
      obtain ⟨its, _, ⟨o, h1, h2, _⟩, _⟩ := I.tuple hS
      exact PySem.W.kia_one PySem.W.kitx_tuple I.kIn ⟨o, h1, h2⟩ e (fun z => nomatch z) fun tk => ⟨.bl b, H, I.tok tk, rfl, q⟩
end L2
namespace L2
open PySem
end L2
namespace L2
open PySem
def spLaw (K : PySem.W.Frag) : Sp := fun vs H Q _ => ∃ (a : Addr) (ns : List Int), vs = [.ref a] ∧ SqL K H a (ns.map .int) ∧ ns.length ≤ 63 ∧ ∀ H', Q (.bl true) H'
theorem cut63 (ns : List Int) (h : ns.length ≤ 63) : cutV (ns.map V.int) none (some 63) = ns.map V.int := by
  unfold cutV
  rw [HT.sIx_none, show (63 : Int) = ((63 : Nat) : Int) from rfl, HT.sIx_nat, List.length_map, List.drop_zero, Nat.sub_zero]
  exact List.take_of_length_le (by rw [List.length_map]; omega)
end L2

/-! ### for i, x in enumerate(list) -/
namespace L2
open PySem PySem.Spec PyProof.Rows
section
variable {X : Cx} {pins : List (Addr × Obj)} {σ : St} {H : Hp} {s : Shared} {h' : Heap}
/-- several objects of an iterator turned -/
theorem Inv.turnedAll {t' : Nat} {fp : List Addr} (I : Inv X pins σ H s) (k : ∀ b o, b ∉ fp → s.heap.get? b = some o → h'.get? b = some o) (hf : ∀ b ∈ fp, FpOk X pins H b) : Inv X pins σ H { s with heap := h', toks := t' } := by
  have nit : ∀ b u, H b = some u → b ∉ fp := fun b u e z => by rw [(hf b z).1] at e; cases e
  refine I.step (g' := s.gens) (d' := s.drawn) (ch := fp) (fun b hb => ?_) (fun b o _ _ hc e _ => k b o hc e) (fun b o _ _ hc e _ => ⟨o.slots, k b o hc e⟩) (fun _ _ _ _ n => n)
    (fun b o hc e => ⟨o, k b o hc e⟩) (fun _ _ e => e) (fun _ _ _ e => e) (fun b ps e => ⟨#[], by rw [e]; simp⟩) (fun m hm => ?_) (fun b u e => ?_) I.bare
  · obtain ⟨_, f1, _, f3, f4, f5⟩ := hf b hb
    exact ⟨f3, f1, f4, f5⟩
  · obtain ⟨o, es, ep, ho, r⟩ := hm
    exact ⟨o, es, ep, k _ o (fun z => (hf _ z).2.1 rfl) ho, r⟩
  · refine (I.hok b u e).stay (fun c v hc q => k c v ?_ q) (fun _ q => q) fun _ _ q => q
    rcases hc with z | z
    · rw [z]; exact nit b u e
    · exact nit c _ z
end
def Ite (K : PySem.W.Frag) (a : Addr) : It :=
  ⟨fun i H => ∃ xs x, SqL K H a xs ∧ xs[i]? = some x, fun i H x H' => ∃ p y, x = .ref p ∧ H p = none ∧ H' = upd H p (.tup [.int i, y]) ∧ ∀ xs, SqL K H a xs → xs[i]? = some y, fun i H => ∃ xs, SqL K H a xs ∧ xs.length ≤ i⟩
theorem turn_enum {P : Program} {w : World} {K : PySem.W.Frag} {elts : List Expr} {x1} {pos : Pos} (a e it : Addr) (hne : e ≠ it) :
    Turn P w K (.Tuple elts x1 pos) (Ite K a) [e, it] e (fun i h => (∃ old, IsEnum h e it i old) ∧ h.IsListIter it a i) where
  mem := by simp
  obj := fun i h st b hb => by
    obtain ⟨⟨old, he⟩, o, eo, c, d⟩ := st
    rcases List.mem_cons.mp hb with rfl | hb
    · exact ⟨_, he, fun v z => by cases (show Data.fields _ = Data.cell v from z)⟩
    · have z : b = it := by simpa using hb
      subst z
      exact ⟨o, eo, fun v z => by rw [d] at z; cases z⟩
  keep := fun i h h' st k => ⟨st.1.elim fun old he => ⟨old, k e (by simp) _ he⟩, st.2.at fun o x => k it (by simp) o x⟩
  item := by
    intro X hP hw hK hc i pins s σ H E I hf st hg
    subst hP hw hK
    obtain ⟨xs, x, hq, hx⟩ := hg
    obtain ⟨⟨old, he⟩, hit⟩ := st
    obtain ⟨its, rv, p, hz⟩ := I.list hq
    obtain ⟨u, hu, ru⟩ := rv.get hx
    refine wpAny_pyNext_enum_item he hit p.isList (x := u) (by simpa using hu) hne fun h' ho hit' hT hsz hk => ?_
    refine ⟨_, rfl, ?_⟩
    refine wpAny_letOwnedTupleGo_enum ho fun h2 he2 sb => ?_
    have lt_e : e < s.heap.objs.size := Heap.lt_size he
    have lt_it : it < s.heap.objs.size := by obtain ⟨_, x, _⟩ := hit; exact Heap.lt_size x
    have I1 : Inv X pins σ H { s with heap := h2, toks := s.toks + 1 } := I.turnedAll (t' := s.toks + 1) (fun b o hb q => (sb.2 b fun z => hb (by simp [z])).trans (hk b o (fun z => hb (by simp [z])) (fun z => hb (by simp [z])) q)) hf
    have fr : H s.heap.objs.size = none := I.hok.fresh (Nat.le_refl _)
    obtain ⟨g0, g1, g2, g3, g4, g5⟩ := I.fpOk (Nat.le_refl _) fr
    have tup2 : h2.get? s.heap.objs.size = some { cls := .type "tuple", data := .seq #[.int i s.toks, u] } := (sb.2 _ (Nat.ne_of_gt lt_e)).trans hT
    have I2 := I1.told (o := .tup [.int i, x]) fr I.sz g1 g4 g5 ⟨(show (2 : Nat) ≤ sizeLine by decide), [.int i s.toks, u], .cons ⟨_, rfl⟩ (.cons ru .nil), ⟨_, tup2, rfl, _, rfl⟩⟩
    refine ⟨.ref s.heap.objs.size, _, I2, rfl, ⟨_, x, rfl, fr, rfl, fun ys hy => by rw [I.list_inj hy hq]; exact hx⟩, ⟨⟨_, by exact_mod_cast he2⟩, hit'.at fun o q => (sb.2 it (Ne.symm hne)).trans q⟩, fun b hb => ?_⟩
    rw [upd_ne ?_]
    · exact (hf b hb).1
    · rcases List.mem_cons.mp hb with rfl | hb
      · exact Nat.ne_of_lt lt_e
      · have z : b = it := by simpa using hb
        subst z
        exact Nat.ne_of_lt lt_it
  done := by
    intro X hP hw hK hc i pins s σ H E I hf st hg
    subst hP hw hK
    obtain ⟨xs, hq, hx⟩ := hg
    obtain ⟨⟨old, he⟩, hit⟩ := st
    obtain ⟨its, rv, p, hz⟩ := I.list hq
    have hl := rv.length
    exact wpAny_pyNext_enum_end (I.ok.hd hc) he hit p.isList (by simp; omega) fun h' eb => ⟨rfl, I.turnedAll (t' := s.toks) (fun b o hb q => eb b o (fun z => hb (by simp [z])) q) hf⟩
  self := fun _ _ _ _ _ st h => st.1.elim fun _ he => wpAny_pyIter_enum he h
def iEnum (K : PySem.W.Frag) (ta : TA) : TI := fun σ H R => ta σ H fun vs H1 => ∃ a, vs = [.ref a] ∧ (∃ xs, SqL K H1 a xs) ∧ R (Ite K a) H1
theorem pi_enum {X : Cx} {elts : List Expr} {x1} {tp : Pos} {a : Expr} {ta : TA} {p pos : Pos} (hg : Gl X "enumerate") (hm : X.mg "enumerate" = none) (ha : PA X [a] ta) (hs : starEach [a] X.env = [(false, eval a X.env)] := by rfl) :
    PI X (.Tuple elts x1 tp) (.Call (.Name "enumerate" p) [a] [] pos) (iEnum X.K ta) := by
  intro pins s σ H R I h
  refine Call_ (ld_blt I hg hm PyProof.Rows.Boot.«enumerate» (PyProof.Rows.callWith_type1 (thn (ha pos pins s σ H _ I h) fun us s1 ⟨vs, H1, I1, r1, q1⟩ => ?_) hs rfl))
  obtain ⟨l, e, ⟨xs, hq⟩, q⟩ := q1
  subst e
  cases r1 with
  | cons r rr =>
    cases rr
    cases (show _ = Value.ref l from r)
    obtain ⟨its, rv, p, hz⟩ := I1.list hq
    refine call_enumerate_list p.isList fun h' he hit hsz hk => ?_
    refine wpAny_pyIter_enum he ?_
    have fr : ∀ b, s1.heap.objs.size ≤ b → H1 b = none := fun b hb => I1.hok.fresh hb
    refine ⟨s1.heap.objs.size + 1, [s1.heap.objs.size + 1, s1.heap.objs.size], _, _, H1, rfl, I1.kept (t' := s1.toks) hk, turn_enum l _ _ (Nat.succ_ne_self _), ⟨⟨_, he⟩, hit⟩, fun b hb => ?_, q⟩
    have hb' : s1.heap.objs.size ≤ b := by
      rcases List.mem_cons.mp hb with rfl | hb
      · exact Nat.le_succ _
      · have z : b = s1.heap.objs.size := by simpa using hb
        rw [z]; exact Nat.le_refl _
    exact I1.fpOk hb' (fr b hb')
theorem for_enum {K : PySem.W.Frag} {a : Addr} {xs : List V} {g : TG} {tb : TS} {D : Ends} {σ : St} {H : Hp} (Pv : Nat → St → Hp → Prop) (h0 : Pv 0 σ H) (hl : ∀ i σ H, i ≤ xs.length → Pv i σ H → SqL K H a xs)
    (hs : ∀ i x σ H p, xs[i]? = some x → Pv i σ H → H p = none → g (.ref p) σ (upd H p (.tup [.int i, x])) fun σ2 H2 => tb { D with nx := Pv (i + 1), ct := Pv (i + 1), bk := D.nx } σ2 H2) (hd : ∀ σ H, Pv xs.length σ H → D.nx σ H) :
    ∃ W : Nat → Nat → St → Hp → Prop, (∃ m, W 0 m σ H) ∧ ∀ i m σ H, W i m σ H →
      ((Ite K a).stop i H ∧ D.nx σ H) ∨ ((Ite K a).go i H ∧ ∃ N : St → Hp → Prop, (∀ σ' H', N σ' H' → ∃ m', m' < m ∧ W (i + 1) m' σ' H') ∧ ∀ x H', (Ite K a).yld i H x H' → g x σ H' fun σ2 H2 => tb { D with nx := N, ct := N, bk := D.nx } σ2 H2) := by
  refine ⟨fun i m σ H => m = xs.length - i ∧ i ≤ xs.length ∧ Pv i σ H, ⟨xs.length, by simp, Nat.zero_le _, h0⟩, ?_⟩
  rintro i m σ H ⟨rfl, hi, p⟩
  have q := hl i σ H hi p
  by_cases hlt : i < xs.length
  · refine .inr ⟨⟨xs, xs[i], q, by simp [hlt]⟩, Pv (i + 1), fun σ' H' p' => ⟨xs.length - (i + 1), by omega, rfl, hlt, p'⟩, fun x H' y => ?_⟩
    obtain ⟨pp, v, rfl, hn, rfl, y⟩ := y
    exact hs i v σ H pp (y xs q) p hn
  · have e : i = xs.length := by omega
    subst e
    exact .inl ⟨⟨xs, q, Nat.le_refl _⟩, hd σ H p⟩
end L2
namespace L2
open PySem
end L2

/-! ### a walk from sign to sign: its parts -/
namespace PM
end PM
namespace L2
open PySem
section
variable (K : PySem.W.Frag)
end
end L2
namespace L2
open PySem PySem.SeqAt
/-- x != [] -/
theorem op_ne_nil {X : Cx} (hu : X.A.units + 1 < cLine) : OpR X (compareOp .NotEq) (fun x y H Q => ∃ a b xs, x = .ref a ∧ y = .ref b ∧ SqL X.K H a xs ∧ SqL X.K H b [] ∧ Q (.bl (!xs.isEmpty)) H) := by
  intro pins s σ H x y v u Q I rx ry h
  obtain ⟨a, b, xs, rfl, rfl, h1, h2, q⟩ := h
  cases (show v = Value.ref a from rx)
  cases (show u = Value.ref b from ry)
  obtain ⟨its, v1, p1, _⟩ := I.list h1
  obtain ⟨its', v2, p2, _⟩ := I.list h2
  cases v2
  cases xs with
  | nil =>
    cases v1
    exact (RcNeAt.lists (e := fun _ => true) p1.isList p2.isList rfl (by omega) (fun j h1 => absurd h1 (by simp))) _ _ _ _ ⟨.bl false, H, I, rfl, q⟩
  | cons z zs =>
    cases v1
    exact (RcNeAt.lists_lengths p1.isList p2.isList (by simp) (by omega)) _ _ _ _ ⟨.bl true, H, I, rfl, q⟩
end L2
namespace PM
end PM
namespace L2
open PySem
end L2
namespace L2
open PySem
end L2
namespace L2
open PySem
theorem cutS_len (z : Str) (lo hi : Option Int) : (cutS z lo hi).length ≤ z.length := by
  unfold cutS
  show (List.take _ (List.drop _ z.cps.toList)).toArray.size ≤ z.cps.size
  rw [List.size_toArray, List.length_take, List.length_drop, Array.length_toList]
  omega
theorem repS_len (z : Str) (n : Nat) : (repS z n).length = z.length * n := by
  have key : ∀ (n : Nat) (a : Array Nat), ((List.replicate n z.cps).foldl (· ++ ·) a).size = a.size + z.cps.size * n := by
    intro n
    induction n with
    | zero => intro a; simp
    | succ n ih =>
      intro a
      rw [List.replicate_succ, List.foldl_cons, ih, Array.size_append, Nat.mul_succ]
      omega
  show ((List.replicate n z.cps).foldl (· ++ ·) #[]).size = z.cps.size * n
  rw [key]
  simp
theorem app_len (a b : Str) : (a ++ b).length = a.length + b.length := by
  show (a.cps ++ b.cps).size = _
  rw [Array.size_append]
  rfl
end L2

/-! ### worths; two heaps -/
namespace L2
open PySem
def names3 : List W := [[97], [98, 98], [99]]
section
variable (K : PySem.W.Frag)
end
end L2

namespace L2
open PySem PySem.Spec PyProof.Rows
theorem words_vals : ∀ {L : List W} {us : List Value}, Vals (L.map sv) us → ∃ l : List (Str × Tok), us = strValues l ∧ l.map (·.1) = L.map S
  | [], us, h => by
    cases h
    exact ⟨[], rfl, rfl⟩
  | w :: L, us, h => by
    cases h with
    | cons r t =>
      obtain ⟨tk, rfl⟩ := (show ∃ t, _ = Value.str (S w) t from r)
      obtain ⟨l, rfl, e⟩ := words_vals t
      exact ⟨(S w, tk) :: l, rfl, by rw [List.map_cons, List.map_cons, e]⟩
theorem glue_words : ∀ (L : List W), Builtin.Str.glued (Str.ofString "") (L.map S) = S L.flatten
  | [] => rfl
  | w :: L => by
    have key : ∀ (L : List W) (acc : W), ((L.map S).foldl (fun acc p => acc ++ (Str.ofString "").cps ++ p.cps) acc.toArray) = (acc ++ L.flatten).toArray := by
      intro L
      induction L with
      | nil => intro acc; simp
      | cons x r ih =>
        intro acc
        rw [List.map_cons, List.foldl_cons]
        have e : acc.toArray ++ (Str.ofString "").cps ++ (S x).cps = (acc ++ x).toArray := by
          have e0 : (Str.ofString "").cps = #[] := rfl
          rw [e0]
          show acc.toArray ++ #[] ++ x.toArray = _
          simp
        rw [e, ih]
        simp
    show (⟨(L.map S).foldl (fun acc p => acc ++ (Str.ofString "").cps ++ p.cps) (S w).cps⟩ : Str) = _
    have := key L w
    rw [show (S w).cps = w.toArray from rfl, this]
    rfl
theorem mt_join {X : Cx} : MtR X "str.join" (fun x vs H Q => ∃ (a : Addr) (L : List W), x = .str (Str.ofString "") ∧ vs = [.ref a] ∧ SqL X.K H a (L.map sv) ∧ L.flatten.length ≤ 1000000 ∧ Q (sv L.flatten) H) := by
  intro pins s σ H x vs v us Q I rx rv h
  obtain ⟨a, L, rfl, rfl, hS, hl, q⟩ := h
  obtain ⟨t, rfl⟩ := (show ∃ t, v = Value.str (Str.ofString "") t from rx)
  obtain ⟨u, rfl, ru⟩ := vals1 rv
  cases (show u = Value.ref a from ru)
  obtain ⟨its, r, p, _⟩ := I.list hS
  obtain ⟨l, rfl, el⟩ := words_vals r
  have e0 : (Str.ofString "").length = 0 := by decide
  have fold : ∀ (xs : List Str) (n : Nat), xs.foldl (fun a x => a + x.length + (Str.ofString "").length) n = n + (xs.map (·.length)).sum := by
    intro xs
    induction xs with
    | nil => intro n; simp
    | cons y ys ih => intro n; rw [List.foldl_cons, ih, List.map_cons, List.sum_cons, e0]; omega
  have tot : ((L.map S).map (·.length)).sum = L.flatten.length := by
    rw [List.map_map, List.length_flatten]
    congr 1
  have hlen : Builtin.Str.tooLong ((l.map (·.1)).toArray.foldl (· + ·.length + (Str.ofString "").length) 0) = false := by
    rw [List.foldl_toArray, el, fold, tot]
    unfold Builtin.Str.tooLong
    rw [decide_eq_false_iff_not]
    have : sizeLine = 2 ^ 24 := rfl
    omega
  have fit : (S L.flatten).length ≤ sizeLine := by
    rw [S_len]
    have : sizeLine = 2 ^ 24 := rfl
    omega
  refine call_meets F.slot_str_join (typeIs_str s _ _) F.entry_str_join (F.args_str_join_2 _ _) (meets_str_join_list (Str.ofString "") t a l hlen) ⟨p.isList, ?_⟩
  have hst : ∀ tk, EP X pins σ Q (.str (S L.flatten) tk) { s with toks := s.toks + 1 } := fun tk => ⟨sv L.flatten, H, I.tok _, ⟨_, rfl⟩, q⟩
  have hst0 : ∀ tk, EP X pins σ Q (.str (S L.flatten) tk) s := fun tk => ⟨sv L.flatten, H, I, ⟨_, rfl⟩, q⟩
  have eg : Builtin.Str.glued (Str.ofString "") (l.map (·.1)) = S L.flatten := by rw [el, glue_words]
  match l, el, eg with
  | [], el, eg =>
    refine ⟨?_, ?_⟩
    · show (Builtin.Str.glued (Str.ofString "") []).length ≤ sizeLine
      decide
    · have eg' : Builtin.Str.glued (Str.ofString "") [] = S L.flatten := eg
      show wants _ _ (.ok (.ret (.str (Builtin.Str.glued (Str.ofString "") []) _))) _
      rw [eg']
      exact hst _
  | [x], el, eg =>
    have eg' : Builtin.Str.glued (Str.ofString "") [x.1] = S L.flatten := eg
    have e1 : Builtin.Str.glued (Str.ofString "") [x.1] = x.1 := rfl
    have e2 : x.1 = S L.flatten := e1.symm.trans eg'
    simp only [joinMade, Made.post]
    have := hst0 x.2
    rw [← e2] at this
    exact this
  | x :: y :: r, el, eg =>
    have eg' : Builtin.Str.glued (Str.ofString "") ((x :: y :: r).map (·.1)) = S L.flatten := eg
    refine ⟨?_, ?_⟩
    · show (Builtin.Str.glued (Str.ofString "") ((x :: y :: r).map (·.1))).length ≤ sizeLine
      rw [eg']; exact fit
    · show wants _ _ (.ok (.ret (.str (Builtin.Str.glued (Str.ofString "") ((x :: y :: r).map (·.1))) _))) _
      rw [eg']
      exact hst _
end L2
namespace L2
open PySem
theorem str_dig (k : Int) (h : 0 ≤ k) : V.str (Str.ofString (toString k)) = sv (PM.dig k.toNat) := by
  unfold sv
  congr 1
  have hk : k = ((k.toNat : Nat) : Int) := by omega
  rw [Str.ofString_eq_toList]
  conv => lhs; rw [hk]
  show (⟨((toString ((k.toNat : Nat) : Int)).toList.map Char.toNat).toArray⟩ : Str) = S ((Nat.toDigits 10 k.toNat).map Char.toNat)
  have e2 : (toString ((k.toNat : Nat) : Int)).toList = Nat.toDigits 10 k.toNat := by
    show (Nat.repr k.toNat).toList = _
    unfold Nat.repr
    exact String.toList_ofList
  rw [e2]
  rfl
end L2
namespace L2
open PySem
end L2
namespace PM
end PM
namespace L2
open PySem
end L2
namespace L2
open PySem
def Tok (p : W) : Prop := p = [40] ∨ p = [41] ∨ p ∈ PM.opsAll ∨ (PM.fac p = true ∧ (PM.isName p = true → p ∈ names3))
end L2

/-! ### words of names, numbers and brackets -/
namespace L2
open PySem
theorem tVar_10 {a : Option V} {r : St} {H : Hp} {Q : VK} : tVar 10 (a :: r) H Q ↔ tVar 9 r H Q := Iff.rfl
theorem tVar_11 {a : Option V} {r : St} {H : Hp} {Q : VK} : tVar 11 (a :: r) H Q ↔ tVar 10 r H Q := Iff.rfl
theorem tVar_12 {a : Option V} {r : St} {H : Hp} {Q : VK} : tVar 12 (a :: r) H Q ↔ tVar 11 r H Q := Iff.rfl
/-- a comprehension whose test and element leave the heap as it is, over fixed items -/
theorem comp_gen2 {J : It} {D : Addr} {tc : TT} {te : TE} {Q : VK} {r : St} {H : Hp} (xs : List V) (p : V → Bool) (f : V → V) (hl : xs.length ≤ 16000000)
    (go : ∀ i ys, i < xs.length → J.go i (upd H D (.lst ys))) (yld : ∀ i ys x H', i < xs.length → J.yld i (upd H D (.lst ys)) x H' → H' = upd H D (.lst ys) ∧ xs[i]? = some x) (stop : ∀ ys, J.stop xs.length (upd H D (.lst ys)))
    (test : ∀ x ∈ xs, ∀ ys (R : Bool → Hp → Prop), R (p x) (upd H D (.lst ys)) → tc (some x :: r) (upd H D (.lst ys)) R)
    (step : ∀ x ∈ xs, p x = true → ∀ ys (R : VK), R (f x) (upd H D (.lst ys)) → te (some x :: r) (upd H D (.lst ys)) R)
    (q : Q (.ref D) (upd H D (.lst ((xs.filter p).map f)))) : compW J D (gName 0) tc te Q (none :: r) (upd H D (.lst [])) := by
  refine ⟨fun i m τ H2 => m = xs.length - i ∧ i ≤ xs.length ∧ (∃ x, τ = x :: r) ∧ H2 = upd H D (.lst (((xs.take i).filter p).map f)), ⟨xs.length, by simp, Nat.zero_le _, ⟨none, rfl⟩, by simp⟩, ?_⟩
  rintro i m τ H2 ⟨rfl, hi, ⟨x, rfl⟩, rfl⟩
  by_cases hlt : i < xs.length
  · refine .inr ⟨go i _ hlt, fun τ' H' => (∃ x, τ' = x :: r) ∧ H' = upd H D (.lst (((xs.take (i + 1)).filter p).map f)), fun τ' H' ⟨h1, h2⟩ => ⟨xs.length - (i + 1), by omega, rfl, hlt, h1, h2⟩, fun y H' hy => ?_⟩
    obtain ⟨rfl, hz⟩ := yld i _ y H' hlt hy
    clear hy
    have hy := hz
    rw [List.getElem?_eq_getElem hlt] at hy
    cases hy
    have mem := List.getElem_mem hlt
    simp only [gName, List.set]
    refine test _ mem _ _ ?_
    rw [List.take_succ_eq_append_getElem hlt, List.filter_append, List.map_append]
    cases hp : p xs[i] with
    | false =>
      rw [if_neg Bool.false_ne_true]
      refine ⟨⟨_, rfl⟩, ?_⟩
      simp [hp]
    | true =>
      rw [if_pos rfl]
      refine step _ mem hp _ _ ⟨_, upd_same, ?_, ⟨_, rfl⟩, ?_⟩
      · have h1 : (((xs.take i).filter p).map f).length ≤ i := by
          rw [List.length_map]
          exact Nat.le_trans (List.length_filter_le _ _) (by rw [List.length_take]; omega)
        have : sizeLine = 2 ^ 24 := rfl
        omega
      · rw [upd_upd]
        simp [hp]
  · have e : i = xs.length := by omega
    subst e
    refine .inl ⟨stop _, ?_⟩
    rw [List.take_length]
    exact q
/-- over a range's numbers -/
theorem comp_rng {n : Nat} {D : Addr} {te : TE} {Q : VK} {r : St} {H : Hp} (f : Nat → V) (hl : n ≤ 16000000)
    (step : ∀ i, i < n → ∀ ys (R : VK), R (f i) (upd H D (.lst ys)) → te (some (.int (i : Nat)) :: r) (upd H D (.lst ys)) R)
    (q : Q (.ref D) (upd H D (.lst ((List.range n).map f)))) : compW (Itr 0 n) D (gName 0) tYes te Q (none :: r) (upd H D (.lst [])) := by
  refine comp_gen2 ((List.range n).map fun i => V.int (i : Nat)) (fun _ => true) (fun x => f (match x with | .int i => i.toNat | _ => 0)) (by simpa using hl)
    (fun i ys hi => ?_) (fun i ys x H' hi hy => ?_) (fun ys => ?_) (fun x hx ys R hR => hR) (fun x hx _ ys R hR => ?_) ?_
  · show i < n
    simpa using hi
  · obtain ⟨rfl, rfl⟩ := hy
    refine ⟨rfl, ?_⟩
    have hi' : i < n := by simpa using hi
    rw [List.getElem?_map, List.getElem?_range hi']
    simp
  · show n ≤ _
    simp
  · obtain ⟨i, hi, rfl⟩ := List.mem_map.mp hx
    exact step i (List.mem_range.mp hi) ys R hR
  · rw [List.filter_eq_self.mpr (fun _ _ => rfl), List.map_map]
    exact q
def NoS (z : Str) : Prop := PM.NoOp z.cps.toList
theorem NoS.app {a b : Str} (ha : NoS a) (hb : NoS b) : NoS (a ++ b) := fun c hc => by
  have : c ∈ a.cps.toList ++ b.cps.toList := by
    have e : (a ++ b).cps = a.cps ++ b.cps := rfl
    rw [e, Array.toList_append] at hc
    exact hc
  rcases List.mem_append.mp this with h | h
  · exact ha c h
  · exact hb c h
theorem NoS.cut {a : Str} (ha : NoS a) (lo hi : Option Int) : NoS (cutS a lo hi) := fun c hc => by
  have : c ∈ (a.cps.toList.drop (HT.sIx a.length 0 lo)).take (HT.sIx a.length a.length hi - HT.sIx a.length 0 lo) := by simpa [cutS] using hc
  exact ha c (List.mem_of_mem_drop (List.mem_of_mem_take this))
theorem NoS.rep {a : Str} (ha : NoS a) (n : Nat) : NoS (repS a n) := fun c hc => by
  have key : ∀ (n : Nat) (acc : Array Nat), (∀ c ∈ acc.toList, c ≠ 43 ∧ c ≠ 45 ∧ c ≠ 42) → ∀ c ∈ ((List.replicate n a.cps).foldl (· ++ ·) acc).toList, c ≠ 43 ∧ c ≠ 45 ∧ c ≠ 42 := by
    intro n
    induction n with
    | zero => intro acc h; exact h
    | succ n ih =>
      intro acc h
      rw [List.replicate_succ, List.foldl_cons]
      refine ih _ fun c hc => ?_
      rw [Array.toList_append] at hc
      rcases List.mem_append.mp hc with z | z
      · exact h c z
      · exact ha c z
  exact key n #[] (by simp) c hc
theorem NoS.one {a : Str} (ha : NoS a) {c : Nat} (hc : c ∈ a.cps.toList) : NoS ⟨#[c]⟩ := fun x hx => by
  have : x = c := by simpa using hx
  rw [this]
  exact ha c hc
theorem NoS.due {z : Str} (h : NoS z) : PM.expr z.cps.toList = PM.due z.cps.toList := PM.expr_due h
section
variable (K : PySem.W.Frag)
def spWord : Sp := fun vs H Q _ => ∃ cell : Int, vs = [.int cell] ∧ ∀ (z : Str) H', z.length ≤ 200 → PM.expr z.cps.toList = PM.due z.cps.toList → Same H H' → Q (.str z) H'
def spDueW : Sp := fun vs H Q _ => ∃ w : W, vs = [sv w] ∧ w.length ≤ 100000 ∧
  match PM.due w with
  | none => ∀ H', Same H H' → Q .non H'
  | some t => ∀ v H', Same H H' → Rep K H' (dpT t) v → Q v H'
def bad14 : List V := .bl true :: List.replicate 13 (.bl false)
def spRefL : Sp := fun vs H Q _ => ∃ w : W, vs = [sv w] ∧ w.length ≤ 100000 ∧ PM.expr w = none ∧ ∀ a H', Same H H' → H' a = some (.lst bad14) → Q (.ref a) H'
end
end L2
namespace L2
open PySem PySem.SeqAt
/-- x == [] -/
theorem op_eq_nil {X : Cx} (hu : X.A.units + 1 < cLine) : OpR X (compareOp .Eq) (fun x y H Q => ∃ a b xs, x = .ref a ∧ y = .ref b ∧ SqL X.K H a xs ∧ SqL X.K H b [] ∧ Q (.bl xs.isEmpty) H) := by
  intro pins s σ H x y v u Q I rx ry h
  obtain ⟨a, b, xs, rfl, rfl, h1, h2, q⟩ := h
  cases (show v = Value.ref a from rx)
  cases (show u = Value.ref b from ry)
  obtain ⟨its, v1, p1, _⟩ := I.list h1
  obtain ⟨its', v2, p2, _⟩ := I.list h2
  cases v2
  cases xs with
  | nil =>
    cases v1
    exact (RcAt.lists (e := fun _ => true) p1.isList p2.isList rfl (by omega) (fun j h1 => absurd h1 (by simp))) _ _ _ _ ⟨.bl true, H, I, rfl, q⟩
  | cons z zs =>
    cases v1
    exact (RcAt.lists_lengths p1.isList p2.isList (by simp) (by omega)) _ _ _ _ ⟨.bl false, H, I, rfl, q⟩
end L2
namespace L2
open PySem
/-- a display of written constants, a text so many times among them -/
def constR : Expr → Option V
  | .BinOp (.Constant (.str x) _ _) .Mult (.Constant (.int n) _ _) _ => if 0 ≤ n ∧ n < 100 ∧ x.length ≤ 100 then some (.str (repS x n.toNat)) else none
  | e => constV e
theorem pa_constR {X : Cx} : ∀ {es : List Expr} {vs : List V}, es.map constR = vs.map some → PA X es (tVals vs)
  | [], [], _ => pa_nil
  | [], _ :: _, h => by cases h
  | _ :: _, [], h => by cases h
  | e :: es, v :: vs, h => by
    rw [List.map_cons, List.map_cons] at h
    injection h with h1 h2
    have ih := pa_constR (X := X) h2
    have one : ∀ {e : Expr} {v : V}, PE X e (tC v) → (starEach (e :: es) X.env = (false, eval e X.env) :: starEach es X.env) → PA X (e :: es) (tVals (v :: vs)) := fun he hs pos pins s σ H Q I q => pa_cons he ih hs pos pins s σ H Q I q
    unfold constR at h1
    split at h1
    · rename_i x _ _ n _ _ _
      split at h1
      · rename_i c
        cases h1
        have line : sizeLine = 2 ^ 24 := rfl
        have hm : x.length * n.toNat ≤ 100 * 100 := Nat.mul_le_mul c.2.2 (by omega)
        exact one (fun pins s σ H Q I q => pe_op op_rep_str pe_str pe_int pins s σ H Q I ⟨x, n, rfl, rfl, by omega, by omega, by omega, q⟩) st_bin
      · cases h1
    · unfold constV at h1
      split at h1
      · cases h1; exact one pe_int st_const
      · cases h1; exact one pe_str st_const
      · cases h1; exact one pe_bl st_const
      · cases h1; exact one pe_non st_const
      · cases h1
end L2
namespace L2
open PySem
theorem kt_bb {K : PySem.W.Frag} : PySem.W.kitOne K (.type "bool") (.type "bool") = some true := by unfold PySem.W.kitOne; rw [if_pos (beq_self_eq_true _)]
theorem kt_ib {K : PySem.W.Frag} : PySem.W.kitOne K (.type "int") (.type "bool") = some false := by kernel_rfl
theorem kt_sb {K : PySem.W.Frag} : PySem.W.kitOne K (.type "str") (.type "bool") = some false := by kernel_rfl
theorem kt_tt {K : PySem.W.Frag} : PySem.W.kitOne K (.type "tuple") (.type "tuple") = some true := by unfold PySem.W.kitOne; rw [if_pos (beq_self_eq_true _)]
end L2

section
set_option maxHeartbeats 4000000
namespace K01
open PySem L2
def top (i : Nat) : Stmt := PySem.Challenge.pw_everyrow_k01_names_and_leaves.main.body.getD i (.Pass ⟨0, 0, 0, 0⟩)
abbrev s_is_of : Stmt := top 23
abbrev s_is_name : Stmt := top 24
abbrev s_is_number : Stmt := top 25
abbrev s_expression : Stmt := top 26
abbrev s_pieces_of : Stmt := top 28
abbrev s_kind_of : Stmt := top 29
abbrev s_sum_from : Stmt := top 30
abbrev s_product_from : Stmt := top 31
abbrev s_factor_from : Stmt := top 32
abbrev s_bracket_from : Stmt := top 33
abbrev s__law_stir : Stmt := top 35
abbrev s__law_word : Stmt := top 36
abbrev s__law_good_name : Stmt := top 37
abbrev s__law_due : Stmt := top 38
abbrev s__law_refused : Stmt := top 39
abbrev s_law : Stmt := top 40
abbrev s_Pieces_init : Stmt := inClass (top 27) 0
abbrev s_Pieces_ahead : Stmt := inClass (top 27) 1
abbrev s_Pieces_take : Stmt := inClass (top 27) 2
theorem sc_is_of : FnScope ["word", "signs"] ["word", "signs"] (defScope s_is_of) := ⟨rfl, rfl, rfl, by decide +kernel, rfl, by decide +kernel, by decide +kernel⟩
theorem sc_is_name : FnScope ["word"] ["word"] (defScope s_is_name) := ⟨rfl, rfl, rfl, by decide +kernel, rfl, by decide +kernel, by decide +kernel⟩
theorem sc_is_number : FnScope ["word"] ["word"] (defScope s_is_number) := ⟨rfl, rfl, rfl, by decide +kernel, rfl, by decide +kernel, by decide +kernel⟩
theorem sc_expression : FnScope ["word", "pieces", "e"] ["word"] (defScope s_expression) := ⟨rfl, rfl, rfl, by decide +kernel, rfl, by decide +kernel, by decide +kernel⟩
theorem sc_pieces_of : FnScope ["word", "pieces", "before", "sign", "kind"] ["word"] (defScope s_pieces_of) := ⟨rfl, rfl, rfl, by decide +kernel, rfl, by decide +kernel, by decide +kernel⟩
theorem sc_kind_of : FnScope ["sign"] ["sign"] (defScope s_kind_of) := ⟨rfl, rfl, rfl, by decide +kernel, rfl, by decide +kernel, by decide +kernel⟩
theorem sc_sum_from : FnScope ["pieces", "depth", "e", "sign"] ["pieces", "depth"] (defScope s_sum_from) := ⟨rfl, rfl, rfl, by decide +kernel, rfl, by decide +kernel, by decide +kernel⟩
theorem sc_product_from : FnScope ["pieces", "depth", "e", "sign"] ["pieces", "depth"] (defScope s_product_from) := ⟨rfl, rfl, rfl, by decide +kernel, rfl, by decide +kernel, by decide +kernel⟩
theorem sc_factor_from : FnScope ["pieces", "depth", "piece"] ["pieces", "depth"] (defScope s_factor_from) := ⟨rfl, rfl, rfl, by decide +kernel, rfl, by decide +kernel, by decide +kernel⟩
theorem sc_bracket_from : FnScope ["pieces", "depth", "e"] ["pieces", "depth"] (defScope s_bracket_from) := ⟨rfl, rfl, rfl, by decide +kernel, rfl, by decide +kernel, by decide +kernel⟩
theorem sc__law_stir : FnScope ["cell", "k", "number"] ["cell", "k"] (defScope s__law_stir) := ⟨rfl, rfl, rfl, by decide +kernel, rfl, by decide +kernel, by decide +kernel⟩
theorem sc__law_word : FnScope ["cell", "number", "far", "barred", "letters", "few", "word", "signs", "at", "many", "inner", "some"] ["cell"] (defScope s__law_word) := ⟨rfl, rfl, rfl, by decide +kernel, rfl, by decide +kernel, by decide +kernel⟩
theorem sc__law_good_name : FnScope ["word", "barred", "strange"] ["word"] (defScope s__law_good_name) := ⟨rfl, rfl, rfl, by decide +kernel, rfl, by decide +kernel, by decide +kernel⟩
theorem sc__law_due : FnScope ["word", "brackets", "strange"] ["word"] (defScope s__law_due) := ⟨rfl, rfl, rfl, by decide +kernel, rfl, by decide +kernel, by decide +kernel⟩
theorem sc__law_refused : FnScope ["word", "told", "e"] ["word"] (defScope s__law_refused) := ⟨rfl, rfl, rfl, by decide +kernel, rfl, by decide +kernel, by decide +kernel⟩
theorem sc_law : FnScope ["script", "place", "cell", "word", "told", "due", "found"] ["script"] (defScope s_law) := ⟨rfl, rfl, rfl, by decide +kernel, rfl, by decide +kernel, by decide +kernel⟩
theorem sc_Pieces_init : FnScope ["self", "word"] ["self", "word"] (defScope s_Pieces_init) := ⟨rfl, rfl, rfl, by decide +kernel, rfl, by decide +kernel, by decide +kernel⟩
theorem sc_Pieces_ahead : FnScope ["self"] ["self"] (defScope s_Pieces_ahead) := ⟨rfl, rfl, rfl, by decide +kernel, rfl, by decide +kernel, by decide +kernel⟩
theorem sc_Pieces_take : FnScope ["self", "piece"] ["self"] (defScope s_Pieces_take) := ⟨rfl, rfl, rfl, by decide +kernel, rfl, by decide +kernel, by decide +kernel⟩
@[irreducible] def es__law_word_2 : List Expr := eltsIn ((defBody s__law_word).getD 2 (.Pass ⟨0, 0, 0, 0⟩))
@[irreducible] def es__law_word_10 : List Expr := eltsIn ((defBody s__law_word).getD 10 (.Pass ⟨0, 0, 0, 0⟩))
theorem hb__law_word : defBody s__law_word = [(defBody s__law_word).getD 0 (.Pass ⟨0, 0, 0, 0⟩), (defBody s__law_word).getD 1 (.Pass ⟨0, 0, 0, 0⟩), hideElts es__law_word_2 ((defBody s__law_word).getD 2 (.Pass ⟨0, 0, 0, 0⟩)), (defBody s__law_word).getD 3 (.Pass ⟨0, 0, 0, 0⟩), (defBody s__law_word).getD 4 (.Pass ⟨0, 0, 0, 0⟩), (defBody s__law_word).getD 5 (.Pass ⟨0, 0, 0, 0⟩), (defBody s__law_word).getD 6 (.Pass ⟨0, 0, 0, 0⟩), (defBody s__law_word).getD 7 (.Pass ⟨0, 0, 0, 0⟩), (defBody s__law_word).getD 8 (.Pass ⟨0, 0, 0, 0⟩), (defBody s__law_word).getD 9 (.Pass ⟨0, 0, 0, 0⟩), hideElts es__law_word_10 ((defBody s__law_word).getD 10 (.Pass ⟨0, 0, 0, 0⟩)), (defBody s__law_word).getD 11 (.Pass ⟨0, 0, 0, 0⟩)] := by kernel_rfl
@[irreducible] def es__law_good_name_0 : List Expr := eltsIn ((defBody s__law_good_name).getD 0 (.Pass ⟨0, 0, 0, 0⟩))
theorem hb__law_good_name : defBody s__law_good_name = [hideElts es__law_good_name_0 ((defBody s__law_good_name).getD 0 (.Pass ⟨0, 0, 0, 0⟩)), (defBody s__law_good_name).getD 1 (.Pass ⟨0, 0, 0, 0⟩), (defBody s__law_good_name).getD 2 (.Pass ⟨0, 0, 0, 0⟩)] := by kernel_rfl
set_option genInjectivity false in
structure Ad where
  f_is_of : Addr
  fd_is_of : FuncData
  f_is_name : Addr
  fd_is_name : FuncData
  f_is_number : Addr
  fd_is_number : FuncData
  f_expression : Addr
  fd_expression : FuncData
  f_pieces_of : Addr
  fd_pieces_of : FuncData
  f_kind_of : Addr
  fd_kind_of : FuncData
  f_sum_from : Addr
  fd_sum_from : FuncData
  f_product_from : Addr
  fd_product_from : FuncData
  f_factor_from : Addr
  fd_factor_from : FuncData
  f_bracket_from : Addr
  fd_bracket_from : FuncData
  f__law_stir : Addr
  fd__law_stir : FuncData
  f__law_word : Addr
  fd__law_word : FuncData
  f__law_good_name : Addr
  fd__law_good_name : FuncData
  f__law_due : Addr
  fd__law_due : FuncData
  f__law_refused : Addr
  fd__law_refused : FuncData
  f_law : Addr
  fd_law : FuncData
  f_Pieces_init : Addr
  fd_Pieces_init : FuncData
  f_Pieces_ahead : Addr
  fd_Pieces_ahead : FuncData
  f_Pieces_take : Addr
  fd_Pieces_take : FuncData
  C_Pieces : Addr
  C_RowError : Addr
  C_TooLong : Addr
  C_NoRow : Addr
  C_NoPlace : Addr
  C_TooDeep : Addr
  C_NoMeasure : Addr
  C_Twice : Addr
  C_Full : Addr
  C_NoBox : Addr
  C_Open : Addr
  C_TooMany : Addr
  C_NoForm : Addr
  C_NoneYet : Addr
  C_NoTarget : Addr
  a_NO_NAMES : Addr
set_option genInjectivity false in
structure Tx (K : PySem.W.Frag) (mg : Str → Option Value) (t : Ad) : Prop where
  D_is_of : DefAt K mg "is_of" s_is_of ["word", "signs"] t.f_is_of t.fd_is_of
  D_is_name : DefAt K mg "is_name" s_is_name ["word"] t.f_is_name t.fd_is_name
  D_is_number : DefAt K mg "is_number" s_is_number ["word"] t.f_is_number t.fd_is_number
  D_expression : DefAt K mg "expression" s_expression ["word"] t.f_expression t.fd_expression
  D_pieces_of : DefAt K mg "pieces_of" s_pieces_of ["word"] t.f_pieces_of t.fd_pieces_of
  D_kind_of : DefAt K mg "kind_of" s_kind_of ["sign"] t.f_kind_of t.fd_kind_of
  D_sum_from : DefAt K mg "sum_from" s_sum_from ["pieces", "depth"] t.f_sum_from t.fd_sum_from
  D_product_from : DefAt K mg "product_from" s_product_from ["pieces", "depth"] t.f_product_from t.fd_product_from
  D_factor_from : DefAt K mg "factor_from" s_factor_from ["pieces", "depth"] t.f_factor_from t.fd_factor_from
  D_bracket_from : DefAt K mg "bracket_from" s_bracket_from ["pieces", "depth"] t.f_bracket_from t.fd_bracket_from
  D__law_stir : DefAt K mg "_law_stir" s__law_stir ["cell", "k"] t.f__law_stir t.fd__law_stir
  D__law_word : DefAt K mg "_law_word" s__law_word ["cell"] t.f__law_word t.fd__law_word
  D__law_good_name : DefAt K mg "_law_good_name" s__law_good_name ["word"] t.f__law_good_name t.fd__law_good_name
  D__law_due : DefAt K mg "_law_due" s__law_due ["word"] t.f__law_due t.fd__law_due
  D__law_refused : DefAt K mg "_law_refused" s__law_refused ["word"] t.f__law_refused t.fd__law_refused
  D_law : DefAt K mg "law" s_law ["script"] t.f_law t.fd_law
  F_Pieces_init : Fun K "__init__" "Pieces.__init__" s_Pieces_init t.f_Pieces_init t.fd_Pieces_init
  b_Pieces_init : Binds K t.fd_Pieces_init ["self", "word"] []
  F_Pieces_ahead : Fun K "ahead" "Pieces.ahead" s_Pieces_ahead t.f_Pieces_ahead t.fd_Pieces_ahead
  b_Pieces_ahead : Binds K t.fd_Pieces_ahead ["self"] []
  M_Pieces_ahead : Meth K t.C_Pieces "ahead" t.f_Pieces_ahead
  F_Pieces_take : Fun K "take" "Pieces.take" s_Pieces_take t.f_Pieces_take t.fd_Pieces_take
  b_Pieces_take : Binds K t.fd_Pieces_take ["self"] []
  M_Pieces_take : Meth K t.C_Pieces "take" t.f_Pieces_take
  cl_Pieces : Cls K t.C_Pieces
  mg_Pieces : mg "Pieces" = some (.ref t.C_Pieces)
  mk_Pieces : Mk K t.C_Pieces t.f_Pieces_init
  no_Pieces_pieces : NoAttr K t.C_Pieces "pieces"
  no_Pieces_place : NoAttr K t.C_Pieces "place"
  mg_RowError : mg "RowError" = some (.ref t.C_RowError)
  mg_TooLong : mg "TooLong" = some (.ref t.C_TooLong)
  x_NoRow : XCls K t.C_NoRow
  xm_NoRow : PySem.W.exmOne K (.ref t.C_NoRow) (.ref t.C_NoRow) = some true
  mg_NoRow : mg "NoRow" = some (.ref t.C_NoRow)
  mg_NoPlace : mg "NoPlace" = some (.ref t.C_NoPlace)
  mg_TooDeep : mg "TooDeep" = some (.ref t.C_TooDeep)
  mg_NoMeasure : mg "NoMeasure" = some (.ref t.C_NoMeasure)
  mg_Twice : mg "Twice" = some (.ref t.C_Twice)
  mg_Full : mg "Full" = some (.ref t.C_Full)
  mg_NoBox : mg "NoBox" = some (.ref t.C_NoBox)
  mg_Open : mg "Open" = some (.ref t.C_Open)
  mg_TooMany : mg "TooMany" = some (.ref t.C_TooMany)
  mg_NoForm : mg "NoForm" = some (.ref t.C_NoForm)
  mg_NoneYet : mg "NoneYet" = some (.ref t.C_NoneYet)
  mg_NoTarget : mg "NoTarget" = some (.ref t.C_NoTarget)
  xr_NoRow : PySem.W.exmOne K (.ref t.C_NoRow) (.ref t.C_RowError) = some true
  xi_NoRow : XIs K t.C_NoRow
  kv_NoRow : PySem.W.kitOne K (.ref t.C_NoRow) (.type "ValueError") = some true
  ki_NoRow_RowError : PySem.W.kitOne K (.ref t.C_NoRow) (.ref t.C_RowError) = some true
  ki_NoRow_TooLong : PySem.W.kitOne K (.ref t.C_NoRow) (.ref t.C_TooLong) = some false
  ki_NoRow_NoRow : PySem.W.kitOne K (.ref t.C_NoRow) (.ref t.C_NoRow) = some true
  ki_NoRow_NoPlace : PySem.W.kitOne K (.ref t.C_NoRow) (.ref t.C_NoPlace) = some false
  ki_NoRow_TooDeep : PySem.W.kitOne K (.ref t.C_NoRow) (.ref t.C_TooDeep) = some false
  ki_NoRow_NoMeasure : PySem.W.kitOne K (.ref t.C_NoRow) (.ref t.C_NoMeasure) = some false
  ki_NoRow_Twice : PySem.W.kitOne K (.ref t.C_NoRow) (.ref t.C_Twice) = some false
  ki_NoRow_Full : PySem.W.kitOne K (.ref t.C_NoRow) (.ref t.C_Full) = some false
  ki_NoRow_NoBox : PySem.W.kitOne K (.ref t.C_NoRow) (.ref t.C_NoBox) = some false
  ki_NoRow_Open : PySem.W.kitOne K (.ref t.C_NoRow) (.ref t.C_Open) = some false
  ki_NoRow_TooMany : PySem.W.kitOne K (.ref t.C_NoRow) (.ref t.C_TooMany) = some false
  ki_NoRow_NoForm : PySem.W.kitOne K (.ref t.C_NoRow) (.ref t.C_NoForm) = some false
  ki_NoRow_NoneYet : PySem.W.kitOne K (.ref t.C_NoRow) (.ref t.C_NoneYet) = some false
  ki_NoRow_NoTarget : PySem.W.kitOne K (.ref t.C_NoRow) (.ref t.C_NoTarget) = some false
  mg_LETTERS : ∃ u, mg "LETTERS" = some u ∧ RelV (.str "abcdefghijklmnopqrstuvwxyz") u
  mg_FIGURES : ∃ u, mg "FIGURES" = some u ∧ RelV (.str "0123456789") u
  mg_NO_NAMES : mg "NO_NAMES" = some (.ref t.a_NO_NAMES)
  v_NO_NAMES : ∀ H : Hp, SqT K H t.a_NO_NAMES [.str "box", .str "ask", .str "put", .str "say", .str "if", .str "else", .str "while", .str "must", .str "stop", .str "end"]
  mg_MOST_LETTERS : ∃ u, mg "MOST_LETTERS" = some u ∧ RelV (.int 8) u
  mg_MOST_FIGURES : ∃ u, mg "MOST_FIGURES" = some u ∧ RelV (.int 3) u
  mg_MOST_SIGNS : ∃ u, mg "MOST_SIGNS" = some u ∧ RelV (.int 60) u
  mg_MOST_BRACKETS : ∃ u, mg "MOST_BRACKETS" = some u ∧ RelV (.int 5) u
  z_len : mg "len" = none
  z_range : mg "range" = none
  z_int : mg "int" = none
  z_bool : mg "bool" = none
  z_str : mg "str" = none
  z_tuple : mg "tuple" = none
  z_all : mg "all" = none
  z_isinstance : mg "isinstance" = none
  z_enumerate : mg "enumerate" = none
  z_ValueError : mg "ValueError" = none
end K01

end

section
set_option maxHeartbeats 4000000
namespace K01
open PySem L2
local macro_rules | `(tactic| walk_at "rd") => `(tactic| simp only [tChain, tMake, tAndV, tOrV, tNotV, tIf, tAnd, tDrop, tAug, tBM, tBM0, tSl, tPart, tNoPart, tMeth, tFld, sFld, sFldAug, tTest, tUn, rU, iStr, iList, iRng1, iRng2, tRetN, tBreak, tCont, ex_int, ex_ref, gTup, gCons, gNil, gSub, rSame, tSeq, tIfS, tTest_i, tOp_i, tVar_0, tVar_1, tVar_2, tVar_3, tVar_4, tVar_5, tVar_6, tVar_7, tVar_8, tVar_9, tVar_10, tVar_11, tVar_12, tC_i, tRet, tNext, tAsg, gName, rI0_i, rI_i, rEq_i, rNe_i, ex_bl, ite_dec, ite_ndec, int_eq, str_eq, List.set, tCall_i, tCons_i, tNil_i, tVals_i, tDGet_i, tDNewK_i, sDPut_i, tCB_i, tB_i, tNot_i, tTup_i, tLst_i, tOr, List.append_nil, List.nil_append, List.cons_append, scal_ii, scal_ss, true_and, and_true, List.length_cons, List.length_nil, le_line, CDiv_i, cxOf_K, cmpCx_K, Int.reduceLT, Int.reduceLE, Nat.reduceLeDiff, Nat.reduceAdd, and_self])

section
variable {P : Program} {w : World} {K : PySem.W.Frag} {mg : Str → Option Value} {base : Heap} {t : Ad}
theorem ok_is_of (T : Tx K mg t) (ok : Nat → Bool) (signs : Str) : FnOk P w K mg base CX0 1 t.f_is_of t.fd_is_of ["word", "signs"] (spIsOf ok signs) := by
  refine T.D_is_of.F.okS sc_is_of (fun vs H Q E h => ?_) (fun cdv A outer s H vs Q E hr h => ?_)
  · obtain ⟨_, rfl, _⟩ := h
    rfl
  obtain ⟨wd, rfl, hl, hok, q⟩ := h
  have nd := sc_is_of.nd
  refine ⟨_, [some (sv wd), some (.str signs)], (pss_one (ps_ret (pe_callB (call_all rfl) rfl T.z_all PyProof.Rows.Boot.«all» (pa_cons (pe_comp (own := ["sign"]) (ix := [1]) rfl (by rfl) (by rfl) (pi_str (pv 0)) (fun _ _ _ _ => (pg_name (i := 0) (by show List.Nodup (["sign", "signs"] : List Str); decide +kernel) rfl (Or.inl rfl))) (fun _ _ _ _ => pts_nil) (fun _ _ _ _ => (pe_cmpR op_in_str (pv 0) (pv 1) rfl))) pa_nil st_comp)))), rfl, ?_⟩
  walk_at "rd"
  refine ⟨_, rfl, S wd, rfl, fun D hD => ?_⟩
  refine comp_str (r := [some (.str signs)]) (fun _ => true) (fun c => V.bl (ok c)) (by rw [S_len]; omega) (fun c _ ys R hR => hR) (fun c hc _ ys R hR => ?_) ?_
  · walk_at "rd"
    refine ⟨_, _, rfl, rfl, ?_⟩
    rw [PySem.StrLaws.found_one, hok]
    exact hR
  · refine ⟨D, wd.map ok, rfl, .of ?_, ?_⟩
    · rw [upd_same, S_list, List.filter_eq_self.mpr (fun _ _ => rfl), List.map_map]
      rfl
    · rw [List.all_map]
      exact q _ (Same.new hD _)
theorem in_letters (c : Nat) : decide (c ∈ (("abcdefghijklmnopqrstuvwxyz" : Str)).cps.toList) = PM.isLetter c := by
  have e : (("abcdefghijklmnopqrstuvwxyz" : Str)).cps.toList = (List.range 26).map (97 + ·) := by decide +kernel
  rw [e, Bool.eq_iff_iff, decide_eq_true_eq, List.mem_map]
  simp only [PM.isLetter, Bool.and_eq_true, decide_eq_true_eq]
  constructor
  · rintro ⟨a, ha, rfl⟩
    have := List.mem_range.mp ha
    omega
  · rintro ⟨h1, h2⟩
    exact ⟨c - 97, List.mem_range.mpr (by omega), by omega⟩
theorem in_figures (c : Nat) : decide (c ∈ (("0123456789" : Str)).cps.toList) = PM.isFigure c := by
  have e : (("0123456789" : Str)).cps.toList = (List.range 10).map (48 + ·) := by decide +kernel
  rw [e, Bool.eq_iff_iff, decide_eq_true_eq, List.mem_map]
  simp only [PM.isFigure, Bool.and_eq_true, decide_eq_true_eq]
  constructor
  · rintro ⟨a, ha, rfl⟩
    have := List.mem_range.mp ha
    omega
  · rintro ⟨h1, h2⟩
    exact ⟨c - 48, List.mem_range.mpr (by omega), by omega⟩
theorem ok_kind_of (T : Tx K mg t) : FnOk P w K mg base CX0 1 t.f_kind_of t.fd_kind_of ["sign"] spKindOf := by
  refine T.D_kind_of.F.okS sc_kind_of (fun vs H Q E h => ?_) (fun cdv A outer s H vs Q E hr h => ?_)
  · obtain ⟨_, rfl, _⟩ := h
    rfl
  obtain ⟨c, rfl, q⟩ := h
  have nd := sc_kind_of.nd
  obtain ⟨u_LETTERS, m_LETTERS, r_LETTERS⟩ := T.mg_LETTERS
  obtain ⟨u_FIGURES, m_FIGURES, r_FIGURES⟩ := T.mg_FIGURES
  refine ⟨_, [some (sv [c])], (pss_cons (ps_if (pt_cmpR op_in_str (pv 0) (pe_glob rfl m_LETTERS r_LETTERS) rfl)
 (pss_one (ps_ret pe_str))
 pss_nil)
 (pss_cons (ps_if (pt_cmpR op_in_str (pv 0) (pe_glob rfl m_FIGURES r_FIGURES) rfl)
 (pss_one (ps_ret pe_str))
 pss_nil)
 (pss_one (ps_ret pe_str)))), rfl, ?_⟩
  walk_at "rd"
  refine ⟨S [c], _, rfl, rfl, ?_⟩
  rw [← S_one, PySem.StrLaws.found_one, in_letters]
  unfold PM.kind at q
  refine ite2 (fun hc => ?_) (fun hc => ?_)
  · rw [if_pos hc] at q
    exact q
  rw [if_neg hc] at q
  refine ⟨S [c], _, rfl, rfl, ?_⟩
  rw [← S_one, PySem.StrLaws.found_one, in_figures]
  refine ite2 (fun hc => ?_) (fun hc => ?_)
  · rw [if_pos hc] at q
    exact q
  · rw [if_neg hc] at q
    exact q
theorem all_false_of_len {w : W} (h : ¬ (1 ≤ w.length ∧ w.length ≤ 8)) : PM.isName w = false := by
  unfold PM.isName
  by_cases h1 : 1 ≤ w.length
  · by_cases h2 : w.length ≤ 8
    · exact absurd ⟨h1, h2⟩ h
    · simp [h2]
  · simp [h1]
theorem in_words (x : W) (l : List W) : inV (sv x) (l.map sv) = l.contains x := by
  unfold inV
  rw [List.any_map, Bool.eq_iff_iff, List.any_eq_true, List.contains_iff_mem]
  constructor
  · rintro ⟨y, hy, e⟩
    have e' : decide (S y = S x) = true := e
    rw [decide_eq_true_eq, S_inj] at e'
    rw [← e']
    exact hy
  · intro h
    exact ⟨x, h, (show decide (S x = S x) = true from decide_eq_true rfl)⟩
theorem ok_is_name (T : Tx K mg t) : FnOk P w K mg base CX0 2 t.f_is_name t.fd_is_name ["word"] spIsName := by
  have G_is_of : FnOk P w K mg base CX0 1 t.f_is_of t.fd_is_of ["word", "signs"] (spIsOf PM.isLetter "abcdefghijklmnopqrstuvwxyz") := ok_is_of T _ _
  refine T.D_is_name.F.okS sc_is_name (fun vs H Q E h => ?_) (fun cdv A outer s H vs Q E hr h => ?_)
  · obtain ⟨_, rfl, _⟩ := h
    rfl
  obtain ⟨wd, rfl, hl, q⟩ := h
  have nd := sc_is_name.nd
  obtain ⟨u_LETTERS, m_LETTERS, r_LETTERS⟩ := T.mg_LETTERS
  obtain ⟨u_MOST_LETTERS, m_MOST_LETTERS, r_MOST_LETTERS⟩ := T.mg_MOST_LETTERS
  refine ⟨_, [some (sv wd)], (pss_one (ps_ret (pe_and (pe_chain op_le op_le pe_int (pe_callB call_len_str rfl T.z_len PyProof.Rows.Boot.«len» (pa_cons (pv 0) pa_nil st_name)) (pe_glob rfl m_MOST_LETTERS r_MOST_LETTERS)) (pe_and (pe_call G_is_of (hr.mono (by omega)) rfl T.D_is_of.m T.D_is_of.F.kp T.D_is_of.b .nil pass0 (pa_cons (pv 0) (pa_cons (pe_glob rfl m_LETTERS r_LETTERS) pa_nil st_name) st_name)) (pe_one (pe_cmpR op_notIn_seq (pv 0) (pe_glob (v := .ref t.a_NO_NAMES) rfl T.mg_NO_NAMES rfl) rfl)))))), rfl, ?_⟩
  walk_at "rd"
  have line : sizeLine = 2 ^ 24 := rfl
  refine ⟨S wd, rfl, by rw [S_len]; omega, ?_⟩
  rw [S_len]
  refine ite2 (fun h1 => ?_) (fun h1 => ?_)
  · refine ite2 (fun h2 => ?_) (fun h2 => ?_)
    · refine ⟨wd, rfl, by omega, in_letters, fun H1 s1 => ⟨_, rfl, ?_⟩⟩
      cases ha : wd.all PM.isLetter with
      | false =>
        rw [if_neg Bool.false_ne_true]
        have e : PM.isName wd = false := by unfold PM.isName; rw [ha]; simp
        rw [← e]
        exact q _ s1
      | true =>
        rw [if_pos rfl]
        refine ⟨t.a_NO_NAMES, _, rfl, .inr (T.v_NO_NAMES H1), rfl, rfl, ?_⟩
        have e : PM.isName wd = !PM.noNames.contains wd := by
          unfold PM.isName
          rw [ha, decide_eq_true (show 1 ≤ wd.length by omega), decide_eq_true (show wd.length ≤ 8 by omega)]
          rfl
        have m : inV (sv wd) [.str "box", .str "ask", .str "put", .str "say", .str "if", .str "else", .str "while", .str "must", .str "stop", .str "end"] = PM.noNames.contains wd := by
          have l : ([.str "box", .str "ask", .str "put", .str "say", .str "if", .str "else", .str "while", .str "must", .str "stop", .str "end"] : List V) = PM.noNames.map sv := by decide +kernel
          rw [l]
          exact in_words wd _
        have q' := q _ s1
        rw [e] at q'
        rw [m]
        exact q'
    · have := all_false_of_len (w := wd) (by omega)
      have q' := q _ (Same.refl _)
      rw [this] at q'
      exact q'
  · rw [if_neg Bool.false_ne_true]
    have := all_false_of_len (w := wd) (by omega)
    have q' := q _ (Same.refl _)
    rw [this] at q'
    exact q'
theorem ok_is_number (T : Tx K mg t) : FnOk P w K mg base CX0 2 t.f_is_number t.fd_is_number ["word"] spIsNumber := by
  have G_is_of : FnOk P w K mg base CX0 1 t.f_is_of t.fd_is_of ["word", "signs"] (spIsOf PM.isFigure "0123456789") := ok_is_of T _ _
  refine T.D_is_number.F.okS sc_is_number (fun vs H Q E h => ?_) (fun cdv A outer s H vs Q E hr h => ?_)
  · obtain ⟨_, rfl, _⟩ := h
    rfl
  obtain ⟨wd, rfl, hl, q⟩ := h
  have nd := sc_is_number.nd
  obtain ⟨u_FIGURES, m_FIGURES, r_FIGURES⟩ := T.mg_FIGURES
  obtain ⟨u_MOST_FIGURES, m_MOST_FIGURES, r_MOST_FIGURES⟩ := T.mg_MOST_FIGURES
  refine ⟨_, [some (sv wd)], (pss_one (ps_ret (pe_and (pe_chain op_le op_le pe_int (pe_callB call_len_str rfl T.z_len PyProof.Rows.Boot.«len» (pa_cons (pv 0) pa_nil st_name)) (pe_glob rfl m_MOST_FIGURES r_MOST_FIGURES)) (pe_and (pe_call G_is_of (hr.mono (by omega)) rfl T.D_is_of.m T.D_is_of.F.kp T.D_is_of.b .nil pass0 (pa_cons (pv 0) (pa_cons (pe_glob rfl m_FIGURES r_FIGURES) pa_nil st_name) st_name)) (pe_one (pe_or (pe_cmpR op_eq (pv 0) pe_str (nomark _)) (pe_one (pe_cmpR op_ne (pe_ix ix_str (pv 0) pe_int pl_const) pe_str (nomark _))))))))), rfl, ?_⟩
  walk_at "rd"
  have line : sizeLine = 2 ^ 24 := rfl
  refine ⟨S wd, rfl, by rw [S_len]; omega, ?_⟩
  rw [S_len]
  refine ite2 (fun h1 => ?_) (fun h1 => ?_)
  · refine ite2 (fun h2 => ?_) (fun h2 => ?_)
    · refine ⟨wd, rfl, by omega, in_figures, fun H1 s1 => ⟨_, rfl, ?_⟩⟩
      have q' := q _ s1
      cases ha : wd.all PM.isFigure with
      | false =>
        rw [if_neg Bool.false_ne_true]
        have e : PM.isNumber wd = false := by unfold PM.isNumber; rw [ha]; simp
        rw [e] at q'
        exact q'
      | true =>
        rw [if_pos rfl]
        have e : PM.isNumber wd = (decide (wd = [48]) || !decide (wd.head? = some 48)) := by
          unfold PM.isNumber
          rw [ha, decide_eq_true (show 1 ≤ wd.length by omega), decide_eq_true (show wd.length ≤ 3 by omega)]
          rfl
        rw [e] at q'
        have z : (V.str (Str.ofString "0")) = sv [48] := by decide +kernel
        refine ⟨rfl, ?_⟩
        rw [z]
        refine ite2 (fun hz => ?_) (fun hz => ?_)
        · rw [sv_inj.mp hz] at q'
          exact q'
        · rw [decide_eq_false (fun e => hz (sv_inj.mpr e)), Bool.false_or] at q'
          cases wd with
          | nil => simp at h1
          | cons c r =>
            refine ⟨S (c :: r), 0, c, rfl, rfl, by rw [S_len]; omega, atI_nat (j := 0) rfl, rfl, ?_⟩
            rw [S_one]
            have e2 : decide (V.str (S [c]) = sv [48]) = decide ((c :: r).head? = some 48) := by
              rw [decide_eq_decide]
              show sv [c] = sv [48] ↔ _
              rw [sv_inj]
              simp
            rw [e2]
            exact q'
    · have e : PM.isNumber wd = false := by unfold PM.isNumber; simp [show ¬ wd.length ≤ 3 by omega]
      have q' := q _ (Same.refl _)
      rw [e] at q'
      exact q'
  · rw [if_neg Bool.false_ne_true]
    have e : PM.isNumber wd = false := by unfold PM.isNumber; simp [show ¬ 1 ≤ wd.length by omega]
    have q' := q _ (Same.refl _)
    rw [e] at q'
    exact q'
theorem kindS_inj {a b : Nat} (ha : a ≤ 3) (hb : b ≤ 3) : kindS a = kindS b ↔ a = b := by
  have all : ∀ (a b : Fin 4), kindS a.1 = kindS b.1 ↔ a.1 = b.1 := by decide +kernel
  exact all ⟨a, by omega⟩ ⟨b, by omega⟩
theorem ok_pieces_of (T : Tx K mg t) : FnOk P w K mg base CX0 2 t.f_pieces_of t.fd_pieces_of ["word"] spPiecesOf := by
  have G_kind_of : FnOk P w K mg base CX0 1 t.f_kind_of t.fd_kind_of ["sign"] spKindOf := ok_kind_of T
  refine T.D_pieces_of.F.okS sc_pieces_of (fun vs H Q E h => ?_) (fun cdv A outer s H vs Q E hr h => ?_)
  · obtain ⟨_, rfl, _⟩ := h
    rfl
  obtain ⟨wd, rfl, hl, q⟩ := h
  have nd := sc_pieces_of.nd
  refine ⟨_, [some (sv wd), none, none, none, none], (pss_cons (ps_set (i := 1) nd rfl (Or.inl rfl) (pe_lst pa_nil))
 (pss_cons (ps_set (i := 2) nd rfl (Or.inl rfl) pe_str)
 (pss_cons (ps_for PassesOwn.never rfl (pi_str (pv 0)) (pg_name (i := 3) nd rfl (Or.inl rfl))
 (pss_cons (ps_set (i := 4) nd rfl (Or.inl rfl) (pe_call G_kind_of (hr.mono (by omega)) rfl T.D_kind_of.m T.D_kind_of.F.kp T.D_kind_of.b .nil pass0 (pa_cons (pv 3) pa_nil st_name)))
 (pss_cons (ps_if (PW.pt (pw_and (pt_cmpR op_ne (pv 4) pe_str (nomark _)) (pw_and1 (pt_cmpR op_eq (pv 4) (pv 2) (nomark _)))))
 (pss_one (ps_asg (pe_op op_add_str (pe_ix ix_list (pv 1) (pe_un un_neg pe_int) pl_un) (pv 3)) (pg_sub (pv 1) (pe_un un_neg pe_int) set_list)))
 (pss_one (ps_expr (pe_bm PySem.F.plainAttrs_list PySem.F.slot_list_append PySem.F.type_list_append mt_append (pv 1) (pa_cons (pv 3) pa_nil st_name)))))
 (pss_one (ps_set (i := 2) nd rfl (Or.inl rfl) (pv 4))))))
 (pss_one (ps_ret (pv 1)))))), rfl, ?_⟩
  walk_at "rd"
  intro l hl0
  refine ⟨_, rfl, S wd, rfl, for_str (z := S wd) (fun i σ H2 => ∃ a b : Option V, σ = [some (sv wd), some (.ref l), some (.str (kindS (PM.piecesSt (wd.take i)).2)), a, b] ∧ Same H H2 ∧ H2 l = some (.lst ((PM.piecesSt (wd.take i)).1.map sv)))
    ⟨none, none, rfl, Same.new hl0 _, upd_same⟩ ?_ ?_⟩
  · rintro i c σ H2 hi ⟨a, b, rfl, s2, h2⟩
    have hi' : wd[i]? = some c := hi
    obtain ⟨hlt, hci⟩ := List.getElem?_eq_some_iff.mp hi'
    have tk : wd.take (i + 1) = wd.take i ++ [c] := by rw [List.take_succ_eq_append_getElem hlt, hci]
    have st : PM.piecesSt (wd.take (i + 1)) = PM.stepP (PM.piecesSt (wd.take i)) c := by rw [tk, PM.st_snoc]
    have ok := PM.pcOk (wd.take i)
    have lenP : (PM.piecesSt (wd.take i)).1.length ≤ 60 := Nat.le_trans (PM.pieces_len (wd.take i)) (by rw [List.length_take]; omega)
    have lenQ : ∀ p ∈ (PM.piecesSt (wd.take i)).1, p.length ≤ 60 := fun p hp => Nat.le_trans (PM.piece_len (w := wd.take i) hp) (by rw [List.length_take]; omega)
    have k3 : (PM.piecesSt (wd.take i)).2 ≤ 3 := by
      by_cases e : wd.take i = []
      · rw [e]; decide
      · have key : ∀ w : W, (PM.piecesSt w).2 ≤ 3 := PM.snoc_rec (by decide) fun w c ih => by
          rw [PM.st_snoc]
          unfold PM.stepP
          have := PM.kind_le c
          split <;> (show PM.kind c ≤ 3; omega)
        exact key _
    generalize PM.piecesSt (wd.take i) = st0 at *
    generalize PM.piecesSt (wd.take (i + 1)) = st1 at *
    subst st
    obtain ⟨ps, b0⟩ := st0
    have k2 := PM.kind_le c
    have e1 : (kindS (PM.kind c) = Str.ofString "sign") ↔ PM.kind c = 2 := by
      have : Str.ofString "sign" = kindS 2 := rfl
      rw [this]
      exact kindS_inj (by omega) (by omega)
    have e2 : (kindS (PM.kind c) = kindS b0) ↔ PM.kind c = b0 := kindS_inj (by omega) k3
    have h2 : H2 l = some (.lst (ps.map sv)) := h2
    have lenP : ps.length ≤ 60 := lenP
    have stay : ∀ o, Same H (upd H2 l o) := fun o b u e => by rw [upd_ne (ne_of_none e hl0)]; exact s2 b u e
    have app : ¬ (PM.kind c ≠ 2 ∧ PM.kind c = b0) → PM.stepP (ps, b0) c = (ps ++ [[c]], PM.kind c) := fun h => by unfold PM.stepP; rw [if_neg h]
    have sz : (ps.map sv).length < sizeLine := small1000 (by rw [List.length_map]; omega)
    walk_at "rd"
    refine ⟨c, rfl, rfl, ?_⟩
    refine ite2 (fun h => ?_) (fun h => ?_)
    · have hk := e1.mp (V.str.inj h)
      rw [if_neg Bool.false_ne_true, app (by omega)]
      refine ⟨.inl ⟨rfl, _, .of h2⟩, l, _, _, rfl, rfl, h2, sz, _, _, rfl, stay _, ?_⟩
      rw [upd_same, List.map_append]
      rfl
    have hn : PM.kind c ≠ 2 := fun e => h (by rw [e1.mpr e])
    refine ⟨rfl, ?_⟩
    refine ite2 (fun h' => ?_) (fun h' => ?_)
    · have hk := e2.mp (V.str.inj h')
      have hne : ps ≠ [] := ok.last (by show b0 < 2; omega)
      obtain ⟨p, hp, _⟩ := ok.mark hne
      have es := PM.split_last hp
      have hpl : p.length ≤ 60 := lenQ p (by show p ∈ ps; rw [show ps = (ps, b0).1 from rfl, es]; simp)
      have eD : ps.getLastD [] = p := by rw [List.getLastD_eq_getLast?, hp]; rfl
      have stp : PM.stepP (ps, b0) c = (ps.dropLast ++ [p ++ [c]], PM.kind c) := by unfold PM.stepP; rw [if_pos ⟨hn, hk⟩, eD]
      have es' : ps = ps.dropLast ++ [p] := es
      have em : ps.map sv = ps.dropLast.map sv ++ [sv p] := (congrArg (List.map sv) es').trans (by rw [List.map_append]; rfl)
      rw [stp]
      refine ⟨1, rfl, l, ps.map sv, _, sv p, rfl, rfl, .of h2, ?_, S p, _, rfl, rfl, ?_, 1, rfl, ?_⟩
      · rw [em]
        exact atI_last _ _
      · rw [S_len]
        exact small_i (by show p.length + 1 ≤ 1000; omega)
      · refine ⟨l, ps.map sv, _, (ps.dropLast.map sv).length, rfl, rfl, h2, ?_, _, _, rfl, stay _, ?_⟩
        · rw [em, List.length_append]
          have : (ps.dropLast.map sv).length ≤ 60 := by rw [List.length_map, List.length_dropLast]; omega
          unfold ixN
          rw [if_neg (by decide), if_pos (by simp only [List.length_cons, List.length_nil]; omega)]
          congr 1
          simp only [List.length_cons, List.length_nil]
          omega
        · rw [upd_same, em, List.map_append, List.set_append_right _ _ (Nat.le_refl _), Nat.sub_self]
          simp only [List.set, List.map_cons, List.map_nil]
          rw [show (⟨#[c]⟩ : Str) = S [c] from rfl, S_app]
          rfl
    · have hk : PM.kind c ≠ b0 := fun e => h' (by rw [e2.mpr e])
      rw [app (by omega)]
      refine ⟨.inl ⟨rfl, _, .of h2⟩, l, _, _, rfl, rfl, h2, sz, _, _, rfl, stay _, ?_⟩
      rw [upd_same, List.map_append]
      rfl
  · rintro σ H2 ⟨a, b, rfl, s2, h2⟩
    walk_at "rd"
    refine q l H2 s2 hl0 ?_
    rw [h2, S_len, List.take_length]
    rfl
theorem ok_Pieces_init (T : Tx K mg t) : FnOk P w K mg base CX0 3 t.f_Pieces_init t.fd_Pieces_init ["self", "word"] (spInit t.C_Pieces) := by
  have G_pieces_of : FnOk P w K mg base CX0 2 t.f_pieces_of t.fd_pieces_of ["word"] spPiecesOf := ok_pieces_of T
  refine T.F_Pieces_init.okS sc_Pieces_init (fun vs H Q E h => ?_) (fun cdv A outer s H vs Q E hr h => ?_)
  · obtain ⟨_, _, _, rfl, _⟩ := h
    rfl
  obtain ⟨p, dx, wd, rfl, hp, hdx, hl, q⟩ := h
  have nd := sc_Pieces_init.nd
  refine ⟨_, [some (.ref p), some (sv wd)], (pss_cons (ps_fld (pv 0) (pe_call G_pieces_of (hr.mono (by omega)) rfl T.D_pieces_of.m T.D_pieces_of.F.kp T.D_pieces_of.b .nil pass0 (pa_cons (pv 1) pa_nil st_name)) rfl)
 (pss_one (ps_fld (pv 0) pe_int rfl))), rfl, ?_⟩
  walk_at "rd"
  refine ⟨wd, rfl, hl, fun l H1 s1 hl0 h1 => ?_⟩
  have np : p ≠ l := ne_of_none hp hl0
  refine ⟨p, _, dx, [], rfl, s1 _ _ hp, T.cl_Pieces, T.no_Pieces_pieces, (by decide), p, _, dx, _, rfl, upd_same, T.cl_Pieces, T.no_Pieces_place, (by show 1 < 1000; decide), ?_⟩
  rw [upd_upd]
  have pk := PM.pcOk wd
  refine q l _ (fun b o n e => by rw [upd_ne n]; exact s1 b o e) ⟨upd_same, ?_, ?_, Nat.zero_le _, pk.some_, fun x hx => Nat.le_trans (PM.piece_len hx) hl, Nat.le_trans (PM.pieces_len wd) hl⟩
  · rw [upd_ne (ne_of hdx hp (by intro z; cases z))]
    exact s1 _ _ hdx
  · rw [upd_ne (Ne.symm np)]
    exact h1
theorem ok_Pieces_ahead (T : Tx K mg t) : FnOk P w K mg base CX0 1 t.f_Pieces_ahead t.fd_Pieces_ahead ["self"] (spAhead t.C_Pieces) := by
  refine T.F_Pieces_ahead.okS sc_Pieces_ahead (fun vs H Q E h => ?_) (fun cdv A outer s H vs Q E hr h => ?_)
  · obtain ⟨_, _, _, _, _, rfl, _⟩ := h
    rfl
  obtain ⟨p, l, dx, ps, k, rfl, o, q⟩ := h
  have nd := sc_Pieces_ahead.nd
  refine ⟨_, [some (.ref p)], (pss_cons (ps_if (pt_cmpR op_eq (pe_fld (pv 0) rfl) (pe_callB call_len_seq rfl T.z_len PyProof.Rows.Boot.«len» (pa_cons (pe_fld (pv 0) rfl) pa_nil st_attr)) (nomark _))
 (pss_one (ps_ret pe_str))
 pss_nil)
 (pss_one (ps_ret (pe_ix ix_list (pe_fld (pv 0) rfl) (pe_fld (pv 0) rfl) pl_attr)))), rfl, ?_⟩
  walk_at "rd"
  refine ⟨p, _, dx, _, .int k, rfl, o.ins, T.cl_Pieces, T.no_Pieces_place, rfl, p, _, dx, _, .ref l, rfl, o.ins, T.cl_Pieces, T.no_Pieces_pieces, rfl, l, _, rfl, .inl (.of o.lst), rfl, ?_⟩
  rw [List.length_map]
  have le := o.le
  refine ite2 (fun h => ?_) (fun h => ?_)
  · have e : k = ps.length := by have := V.int.inj h; omega
    rw [e, List.drop_length] at q
    exact q
  · have hk : k < ps.length := by
      have : ¬ k = ps.length := fun e => h (by rw [e])
      omega
    refine ⟨p, _, dx, _, .ref l, rfl, o.ins, T.cl_Pieces, T.no_Pieces_pieces, rfl, p, _, dx, _, .int k, rfl, o.ins, T.cl_Pieces, T.no_Pieces_place, rfl, ?_⟩
    refine rIxL_i (.of o.lst) (atI_nat (by rw [List.getElem?_map, List.getElem?_eq_getElem hk]; rfl)) ?_
    rw [List.drop_eq_getElem_cons hk] at q
    exact q
theorem ok_Pieces_take (T : Tx K mg t) : FnOk P w K mg base (CX1 P w) 2 t.f_Pieces_take t.fd_Pieces_take ["self"] (spTake t.C_Pieces t.C_NoRow) := by
  have G_Pieces_ahead : FnOk P w K mg base CX0 1 t.f_Pieces_ahead t.fd_Pieces_ahead ["self"] (spAhead t.C_Pieces) := ok_Pieces_ahead T
  refine T.F_Pieces_take.okX sc_Pieces_take (fun vs H Q E h => ?_) (fun cdv A outer s H vs Q E hr h => ?_)
  · obtain ⟨_, _, _, _, _, rfl, _⟩ := h
    rfl
  obtain ⟨p, l, dx, ps, k, rfl, o, q⟩ := h
  have nd := sc_Pieces_take.nd
  refine ⟨_, [some (.ref p), none], (pss_cons (ps_set (i := 1) nd rfl (Or.inl rfl) (pe_meth0 (pv 0) T.cl_Pieces T.M_Pieces_ahead G_Pieces_ahead (hr.mono (by omega)) T.b_Pieces_ahead .nil pass0))
 (pss_cons (ps_if (pt_cmpR op_eq (pv 1) pe_str (nomark _))
 (pss_one (ps_raise flies1 T.x_NoRow rfl T.mg_NoRow rfl (pa_cons pe_str pa_nil st_const)))
 pss_nil)
 (pss_cons (ps_fldaug (pv 0) pe_int in_add)
 (pss_one (ps_ret (pv 1)))))), rfl, ?_⟩
  walk_at "rd"
  refine ⟨p, dx, _, rfl, o.ins, rfl, p, l, dx, ps, k, rfl, o, rfl, ?_⟩
  have le := o.le
  cases hd : ps.drop k with
  | nil =>
    rw [hd] at q
    refine (if_pos (show sv ([].headD []) = V.str (Str.ofString "") from rfl)).mpr ?_
    exact ⟨by decide, q⟩
  | cons y r =>
    rw [hd] at q
    have hk : k < ps.length := by
      have := congrArg List.length hd
      rw [List.length_drop, List.length_cons] at this
      omega
    have hy : y ∈ ps := List.mem_of_mem_drop (i := k) (by rw [hd]; simp)
    have ne : ¬ sv y = V.str (Str.ofString "") := by
      have : V.str (Str.ofString "") = sv [] := rfl
      rw [this, sv_inj]
      exact o.pos y hy
    rw [List.headD_cons, if_neg ne]
    refine ⟨p, _, dx, _, .int k, rfl, o.ins, T.cl_Pieces, T.no_Pieces_place, rfl, ?_⟩
    refine ⟨k, 1, rfl, rfl, dx, _, o.ins, (by show 2 < 1000; decide), ?_⟩
    have e : putF (Str.ofString "place") (V.int ((k : Int) + 1)) ([("pieces", V.ref l), ("place", V.int k)] : List (Str × V)) = ([("pieces", V.ref l), ("place", V.int ((k + 1 : Nat) : Int))] : List (Str × V)) := by
      have d : ¬ Str.ofString "pieces" = Str.ofString "place" := by decide +kernel
      unfold putF
      rw [if_neg d]
      unfold putF
      rw [if_pos rfl]
      rfl
    rw [e]
    exact q _ ((Upto.refl _ _).put _) (o.at ((Upto.refl _ _).put _) upd_same (by omega))
/-! ### the readers -/
theorem PcO.headD_ne {CP p l dx : Addr} {H : Hp} {ps : List W} {k : Nat} {y : W} {r : List W} (o : PcO CP H p l dx ps k) (hd : ps.drop k = y :: r) : k < ps.length ∧ y ∈ ps ∧ ps.drop (k + 1) = r := by
  have hk : k < ps.length := by
    have := congrArg List.length hd
    rw [List.length_drop, List.length_cons] at this
    omega
  refine ⟨hk, List.mem_of_mem_drop (i := k) (by rw [hd]; simp), ?_⟩
  rw [List.drop_eq_getElem_cons hk] at hd
  exact (List.cons.inj hd).2
theorem ok_factor_from (T : Tx K mg t) {n : Nat} {d : Int} (G_bracket_from : FnOk P w K mg base (CX1 P w) (4 * n + 4) t.f_bracket_from t.fd_bracket_from ["pieces", "depth"] (spBracket K t.C_Pieces t.C_NoRow n (d + 1))) :
    FnOk P w K mg base (CX1 P w) (4 * n + 5) t.f_factor_from t.fd_factor_from ["pieces", "depth"] (spRead K t.C_Pieces t.C_NoRow (PM.factor n) d) := by
  have G_Pieces_take : FnOk P w K mg base (CX1 P w) 2 t.f_Pieces_take t.fd_Pieces_take ["self"] (spTake t.C_Pieces t.C_NoRow) := ok_Pieces_take T
  have G_is_number : FnOk P w K mg base CX0 2 t.f_is_number t.fd_is_number ["word"] spIsNumber := ok_is_number T
  have G_is_name : FnOk P w K mg base CX0 2 t.f_is_name t.fd_is_name ["word"] spIsName := ok_is_name T
  refine T.D_factor_from.F.okX sc_factor_from (fun vs H Q E h => ?_) (fun cdv A outer s H vs Q E hr h => ?_)
  · obtain ⟨_, _, _, _, _, rfl, _⟩ := h
    rfl
  obtain ⟨p, l, dx, ps, k, rfl, o, q⟩ := h
  have nd := sc_factor_from.nd
  refine ⟨_, [some (.ref p), some (.int d), none], (pss_cons (ps_set (i := 2) nd rfl (Or.inl rfl) (pe_meth0 (pv 0) T.cl_Pieces T.M_Pieces_take G_Pieces_take (hr.mono (by omega)) T.b_Pieces_take .nil pass1))
 (pss_cons (ps_if (pt_val (pe_call G_is_number (hr.mono (by omega)) rfl T.D_is_number.m T.D_is_number.F.kp T.D_is_number.b .nil pass0 (pa_cons (pv 2) pa_nil st_name)))
 (pss_one (ps_ret (pe_tup (pa_cons pe_str (pa_cons (pe_callTy call_int_str rfl T.z_int PyProof.Rows.Boot.«int» (pa_cons (pv 2) pa_nil st_name)) pa_nil st_call) st_const))))
 pss_nil)
 (pss_cons (ps_if (pt_val (pe_call G_is_name (hr.mono (by omega)) rfl T.D_is_name.m T.D_is_name.F.kp T.D_is_name.b .nil pass0 (pa_cons (pv 2) pa_nil st_name)))
 (pss_one (ps_ret (pe_tup (pa_cons pe_str (pa_cons (pv 2) pa_nil st_name) st_const))))
 pss_nil)
 (pss_cons (ps_if (pt_cmpR op_ne (pv 2) pe_str (nomark _))
 (pss_one (ps_raise flies1 T.x_NoRow rfl T.mg_NoRow rfl (pa_cons pe_str pa_nil st_const)))
 pss_nil)
 (pss_one (ps_ret (pe_call G_bracket_from (hr.mono (by omega)) rfl T.D_bracket_from.m T.D_bracket_from.F.kp T.D_bracket_from.b .nil pass1 (pa_cons (pv 0) (pa_cons (pe_op op_add (pv 1) pe_int) pa_nil st_bin) st_name)))))))), rfl, ?_⟩
  walk_at "rd"
  refine ⟨p, dx, _, rfl, o.ins, rfl, p, l, dx, ps, k, rfl, o, ?_⟩
  cases hd : ps.drop k with
  | nil =>
    rw [hd] at q
    have e : PM.factor n [] = none := by cases n <;> rfl
    rw [e] at q
    exact q H (Upto.refl _ _)
  | cons y r =>
    rw [hd, factor_step] at q
    obtain ⟨hk, hy, hr'⟩ := PcO.headD_ne o hd
    intro H1 u1 o1
    have yl := o.len y hy
    refine ⟨y, rfl, by omega, fun H2 s2 => ⟨_, rfl, ?_⟩⟩
    have u2 : Upto p H H2 := u1.trans (.of s2)
    have o2 : PcO t.C_Pieces H2 p l dx ps (k + 1) := o1.at (.of s2) (s2 _ _ o1.ins) o1.le
    refine ite2 (fun c1 => ?_) (fun c1 => ?_)
    · rw [if_pos c1] at q
      refine ⟨S y, _, rfl, num_text c1, by rw [S_len]; omega, fun a ha => ?_⟩
      refine q _ _ (k + 1) (u2.new ha _) (o2.at ((Upto.refl _ _).new ha _) (by rw [upd_ne (ne_of_none o2.ins ha)]; exact o2.ins) o2.le) hr' ?_
      exact Rep.new ha (.cons (Rep.str_iff.mpr rfl) (.cons (Rep.int_iff.mpr rfl) .nil))
    rw [if_neg c1] at q
    refine ⟨y, rfl, by omega, fun H3 s3 => ⟨_, rfl, ?_⟩⟩
    have u3 : Upto p H H3 := u2.trans (.of s3)
    have o3 : PcO t.C_Pieces H3 p l dx ps (k + 1) := o2.at (.of s3) (s3 _ _ o2.ins) o2.le
    refine ite2 (fun c2 => ?_) (fun c2 => ?_)
    · rw [if_pos c2] at q
      intro a ha
      refine q _ _ (k + 1) (u3.new ha _) (o3.at ((Upto.refl _ _).new ha _) (by rw [upd_ne (ne_of_none o3.ins ha)]; exact o3.ins) o3.le) hr' ?_
      exact Rep.new ha (.cons (Rep.str_iff.mpr rfl) (.cons (Rep.str_iff.mpr rfl) .nil))
    rw [if_neg c2] at q
    refine ⟨rfl, ?_⟩
    have z : V.str (Str.ofString "(") = sv [40] := by decide +kernel
    rw [z]
    refine ite2 (fun c3 => ?_) (fun c3 => ?_)
    · rw [if_pos (sv_inj.mp c3)] at q
      refine ⟨p, l, dx, ps, k + 1, rfl, o3, ?_⟩
      rw [hr']
      revert q
      cases brP n r with
      | none => exact fun q H' u => q H' (u3.trans u)
      | some x => exact fun q v H' j u => q v H' j (u3.trans u)
    · rw [if_neg (fun e => c3 (sv_inj.mpr e))] at q
      exact ⟨by decide, q H3 u3⟩
theorem new_in {p l dx CP a : Addr} {H : Hp} {ps : List W} {k : Nat} {o' : HO} (o : PcO CP H p l dx ps k) (ha : H a = none) : PcO CP (upd H a o') p l dx ps k :=
  o.at ((Upto.refl _ _).new ha _) (by rw [upd_ne (ne_of_none o.ins ha)]; exact o.ins) o.le
theorem ok_product_from (T : Tx K mg t) {n : Nat} {d : Int} (G_factor_from : FnOk P w K mg base (CX1 P w) (4 * n + 5) t.f_factor_from t.fd_factor_from ["pieces", "depth"] (spRead K t.C_Pieces t.C_NoRow (PM.factor n) d)) :
    FnOk P w K mg base (CX1 P w) (4 * n + 6) t.f_product_from t.fd_product_from ["pieces", "depth"] (spRead K t.C_Pieces t.C_NoRow (PM.prodP (PM.factor n)) d) := by
  have G_Pieces_take : FnOk P w K mg base (CX1 P w) 2 t.f_Pieces_take t.fd_Pieces_take ["self"] (spTake t.C_Pieces t.C_NoRow) := ok_Pieces_take T
  have G_Pieces_ahead : FnOk P w K mg base CX0 1 t.f_Pieces_ahead t.fd_Pieces_ahead ["self"] (spAhead t.C_Pieces) := ok_Pieces_ahead T
  refine T.D_product_from.F.okX sc_product_from (fun vs H Q E h => ?_) (fun cdv A outer s H vs Q E hr h => ?_)
  · obtain ⟨_, _, _, _, _, rfl, _⟩ := h
    rfl
  obtain ⟨p, l, dx, ps, k, rfl, o, q⟩ := h
  have nd := sc_product_from.nd
  refine ⟨_, [some (.ref p), some (.int d), none, none], (pss_cons (ps_set (i := 2) nd rfl (Or.inl rfl) (pe_call G_factor_from (hr.mono (by omega)) rfl T.D_factor_from.m T.D_factor_from.F.kp T.D_factor_from.b .nil pass1 (pa_cons (pv 0) (pa_cons (pv 1) pa_nil st_name) st_name)))
 (pss_cons (ps_while own1 (pt_cmpR op_eq (pe_meth0 (pv 0) T.cl_Pieces T.M_Pieces_ahead G_Pieces_ahead (hr.mono (by omega)) T.b_Pieces_ahead .nil pass0) pe_str (nomark _))
 (pss_cons (ps_set (i := 3) nd rfl (Or.inl rfl) (pe_meth0 (pv 0) T.cl_Pieces T.M_Pieces_take G_Pieces_take (hr.mono (by omega)) T.b_Pieces_take .nil pass1))
 (pss_one (ps_set (i := 2) nd rfl (Or.inl rfl) (pe_tup (pa_cons (pv 3) (pa_cons (pv 2) (pa_cons (pe_call G_factor_from (hr.mono (by omega)) rfl T.D_factor_from.m T.D_factor_from.F.kp T.D_factor_from.b .nil pass1 (pa_cons (pv 0) (pa_cons (pv 1) pa_nil st_name) st_name)) pa_nil st_call) st_name) st_name))))))
 (pss_one (ps_ret (pv 2))))), rfl, ?_⟩
  walk_at "rd"
  refine ⟨p, l, dx, ps, k, rfl, o, ?_⟩
  rw [PM.prodP_eq] at q
  cases hf : PM.factor n (ps.drop k) with
  | none =>
    rw [hf] at q
    exact q
  | some x =>
    obtain ⟨e0, r0⟩ := x
    rw [hf] at q
    intro v0 H0 j0 u0 o0 hj0 rep0
    refine ⟨fun m σ H2 => ∃ (ve : V) (j : Nat) (x : Option V) (e : PM.Tr), m = ps.length - j ∧ σ = [some (.ref p), some (.int d), some ve, x] ∧ Upto p H H2 ∧ PcO t.C_Pieces H2 p l dx ps j ∧ Rep K H2 (dpT e) ve ∧
      PM.loop [[42]] (PM.factor n) e0 r0 = PM.loop [[42]] (PM.factor n) e (ps.drop j), ⟨_, v0, j0, none, e0, rfl, rfl, u0, o0, rep0, by rw [hj0]⟩, ?_⟩
    rintro m σ H2 ⟨ve, j, x, e, rfl, rfl, u2, o2, rep2, hlp⟩
    have qq : match PM.loop [[42]] (PM.factor n) e (ps.drop j) with
        | none => ∀ H', Upto p H H' → E (Value.ref t.C_NoRow) none H'
        | some (t', r) => ∀ v H' j, Upto p H H' → PcO t.C_Pieces H' p l dx ps j → ps.drop j = r → Rep K H' (dpT t') v → Q v H' := by
      rw [← hlp]
      exact q
    walk_at "rd"
    refine ⟨p, dx, _, rfl, o2.ins, rfl, p, l, dx, ps, j, rfl, o2, rfl, ?_⟩
    have z : V.str (Str.ofString "*") = sv [42] := by decide +kernel
    rw [z]
    cases hd : ps.drop j with
    | nil =>
      refine (if_neg (fun e => absurd (sv_inj.mp e) (by decide))).mpr ?_
      rw [hd, PM.loop_nil] at qq
      exact qq ve H2 j u2 o2 hd rep2
    | cons y r =>
      obtain ⟨hk, hy, hr'⟩ := PcO.headD_ne o2 hd
      rw [List.headD_cons]
      refine ite2 (fun c => ?_) (fun c => ?_)
      · have hop : y ∈ ([[42]] : List W) := by rw [sv_inj.mp c]; simp
        refine ⟨fun σ' H' => ∃ (ve : V) (j' : Nat) (x : Option V) (e : PM.Tr), ps.length - j' < ps.length - j ∧ σ' = [some (.ref p), some (.int d), some ve, x] ∧ Upto p H H' ∧ PcO t.C_Pieces H' p l dx ps j' ∧ Rep K H' (dpT e) ve ∧
          PM.loop [[42]] (PM.factor n) e0 r0 = PM.loop [[42]] (PM.factor n) e (ps.drop j'), ?_, ?_⟩
        · rintro σ' H' ⟨ve, j', x, e, a1, a2, a3, a4, a5, a6⟩
          exact ⟨_, a1, ve, j', x, e, rfl, a2, a3, a4, a5, a6⟩
        refine ⟨p, dx, _, rfl, o2.ins, rfl, p, l, dx, ps, j, rfl, o2, ?_⟩
        rw [hd]
        intro H3 u3 o3
        refine ⟨p, l, dx, ps, j + 1, rfl, o3, ?_⟩
        rw [hr']
        rw [hd, PM.loop_go (PM.factor_short n) hop] at qq hlp
        have uu : Upto p H H3 := u2.trans u3
        cases hf2 : (PM.factor n) r with
        | none =>
          rw [hf2] at qq
          exact fun H' u => qq H' (uu.trans u)
        | some z =>
          obtain ⟨e2, r2⟩ := z
          rw [hf2] at qq hlp
          intro v2 H4 j2 u4 o4 hj2 rep4 a ha
          have rv : Rep K H4 (dpT e) ve := (Rep.upto o2.ins (u3.trans u4)).1 _ _ rep2
          have sh := (PM.factor_short n) _ _ _ hf2
          refine ⟨.ref a, j2, _, .bin y e e2, ?_, rfl, (uu.trans u4).new ha _, new_in o4 ha, ?_, ?_⟩
          · have e1 := congrArg List.length hj2
            have e2 := congrArg List.length hr'
            rw [List.length_drop] at e1 e2
            have := o4.le
            omega
          · exact Rep.new ha (.cons (Rep.str_iff.mpr rfl) (.cons rv (.cons rep4 .nil)))
          · rw [hlp, hj2]
      · rw [hd, PM.loop_stop (by rw [List.mem_singleton]; exact fun e => c (sv_inj.mpr e))] at qq
        exact qq ve H2 j u2 o2 hd rep2
theorem ok_sum_from (T : Tx K mg t) {n : Nat} {d : Int} (G_product_from : FnOk P w K mg base (CX1 P w) (4 * n + 6) t.f_product_from t.fd_product_from ["pieces", "depth"] (spRead K t.C_Pieces t.C_NoRow (PM.prodP (PM.factor n)) d)) :
    FnOk P w K mg base (CX1 P w) (4 * n + 7) t.f_sum_from t.fd_sum_from ["pieces", "depth"] (spRead K t.C_Pieces t.C_NoRow (PM.sumP (PM.factor n)) d) := by
  have G_Pieces_take : FnOk P w K mg base (CX1 P w) 2 t.f_Pieces_take t.fd_Pieces_take ["self"] (spTake t.C_Pieces t.C_NoRow) := ok_Pieces_take T
  have G_Pieces_ahead : FnOk P w K mg base CX0 1 t.f_Pieces_ahead t.fd_Pieces_ahead ["self"] (spAhead t.C_Pieces) := ok_Pieces_ahead T
  refine T.D_sum_from.F.okX sc_sum_from (fun vs H Q E h => ?_) (fun cdv A outer s H vs Q E hr h => ?_)
  · obtain ⟨_, _, _, _, _, rfl, _⟩ := h
    rfl
  obtain ⟨p, l, dx, ps, k, rfl, o, q⟩ := h
  have nd := sc_sum_from.nd
  refine ⟨_, [some (.ref p), some (.int d), none, none], (pss_cons (ps_set (i := 2) nd rfl (Or.inl rfl) (pe_call G_product_from (hr.mono (by omega)) rfl T.D_product_from.m T.D_product_from.F.kp T.D_product_from.b .nil pass1 (pa_cons (pv 0) (pa_cons (pv 1) pa_nil st_name) st_name)))
 (pss_cons (ps_while own1 (pt_cmpR op_in_seq (pe_meth0 (pv 0) T.cl_Pieces T.M_Pieces_ahead G_Pieces_ahead (hr.mono (by omega)) T.b_Pieces_ahead .nil pass0) (pe_tup (pa_consts (vs := [.str "+", .str "-"]) (by kernel_rfl))) rfl)
 (pss_cons (ps_set (i := 3) nd rfl (Or.inl rfl) (pe_meth0 (pv 0) T.cl_Pieces T.M_Pieces_take G_Pieces_take (hr.mono (by omega)) T.b_Pieces_take .nil pass1))
 (pss_one (ps_set (i := 2) nd rfl (Or.inl rfl) (pe_tup (pa_cons (pv 3) (pa_cons (pv 2) (pa_cons (pe_call G_product_from (hr.mono (by omega)) rfl T.D_product_from.m T.D_product_from.F.kp T.D_product_from.b .nil pass1 (pa_cons (pv 0) (pa_cons (pv 1) pa_nil st_name) st_name)) pa_nil st_call) st_name) st_name))))))
 (pss_one (ps_ret (pv 2))))), rfl, ?_⟩
  walk_at "rd"
  refine ⟨p, l, dx, ps, k, rfl, o, ?_⟩
  rw [PM.sumP_eq] at q
  cases hf : PM.prodP (PM.factor n) (ps.drop k) with
  | none =>
    rw [hf] at q
    exact q
  | some x =>
    obtain ⟨e0, r0⟩ := x
    rw [hf] at q
    intro v0 H0 j0 u0 o0 hj0 rep0
    refine ⟨fun m σ H2 => ∃ (ve : V) (j : Nat) (x : Option V) (e : PM.Tr), m = ps.length - j ∧ σ = [some (.ref p), some (.int d), some ve, x] ∧ Upto p H H2 ∧ PcO t.C_Pieces H2 p l dx ps j ∧ Rep K H2 (dpT e) ve ∧
      PM.loop [[43], [45]] (PM.prodP (PM.factor n)) e0 r0 = PM.loop [[43], [45]] (PM.prodP (PM.factor n)) e (ps.drop j), ⟨_, v0, j0, none, e0, rfl, rfl, u0, o0, rep0, by rw [hj0]⟩, ?_⟩
    rintro m σ H2 ⟨ve, j, x, e, rfl, rfl, u2, o2, rep2, hlp⟩
    have qq : match PM.loop [[43], [45]] (PM.prodP (PM.factor n)) e (ps.drop j) with
        | none => ∀ H', Upto p H H' → E (Value.ref t.C_NoRow) none H'
        | some (t', r) => ∀ v H' j, Upto p H H' → PcO t.C_Pieces H' p l dx ps j → ps.drop j = r → Rep K H' (dpT t') v → Q v H' := by
      rw [← hlp]
      exact q
    walk_at "rd"
    refine ⟨p, dx, _, rfl, o2.ins, rfl, p, l, dx, ps, j, rfl, o2, ?_⟩
    intro a1 ha1
    have o2' := new_in (o' := .tup [V.str (Str.ofString "+"), V.str (Str.ofString "-")]) o2 ha1
    have u2' := u2.new ha1 (.tup [V.str (Str.ofString "+"), V.str (Str.ofString "-")])
    have rep2' : Rep K (upd H2 a1 (.tup [V.str (Str.ofString "+"), V.str (Str.ofString "-")])) (dpT e) ve := rep2.mono (Same.new ha1 _)
    have z : ([V.str (Str.ofString "+"), V.str (Str.ofString "-")] : List V) = ([[43], [45]] : List W).map sv := by decide +kernel
    refine ⟨a1, _, rfl, .inr (.of upd_same), rfl, rfl, _, rfl, ?_⟩
    rw [z] at o2' u2' rep2'
    rw [if_neg Bool.false_ne_true, z, in_words]
    generalize upd H2 a1 (.tup (([[43], [45]] : List W).map sv)) = H2' at *
    cases hd : ps.drop j with
    | nil =>
      refine (if_neg (by decide)).mpr ?_
      rw [hd, PM.loop_nil] at qq
      exact qq ve H2' j u2' o2' hd rep2'
    | cons y r =>
      obtain ⟨hk, hy, hr'⟩ := PcO.headD_ne o2 hd
      rw [List.headD_cons]
      refine ite2 (fun c => ?_) (fun c => ?_)
      · have hop : y ∈ ([[43], [45]] : List W) := List.contains_iff_mem.mp c
        refine ⟨fun σ' H' => ∃ (ve : V) (j' : Nat) (x : Option V) (e : PM.Tr), ps.length - j' < ps.length - j ∧ σ' = [some (.ref p), some (.int d), some ve, x] ∧ Upto p H H' ∧ PcO t.C_Pieces H' p l dx ps j' ∧ Rep K H' (dpT e) ve ∧
          PM.loop [[43], [45]] (PM.prodP (PM.factor n)) e0 r0 = PM.loop [[43], [45]] (PM.prodP (PM.factor n)) e (ps.drop j'), ?_, ?_⟩
        · rintro σ' H' ⟨ve, j', x, e, a1, a2, a3, a4, a5, a6⟩
          exact ⟨_, a1, ve, j', x, e, rfl, a2, a3, a4, a5, a6⟩
        refine ⟨p, dx, _, rfl, o2'.ins, rfl, p, l, dx, ps, j, rfl, o2', ?_⟩
        rw [hd]
        intro H3 u3 o3
        refine ⟨p, l, dx, ps, j + 1, rfl, o3, ?_⟩
        rw [hr']
        rw [hd, PM.loop_go (PM.prod_short (PM.factor_short n)) hop] at qq hlp
        have uu : Upto p H H3 := u2'.trans u3
        cases hf2 : (PM.prodP (PM.factor n)) r with
        | none =>
          rw [hf2] at qq
          exact fun H' u => qq H' (uu.trans u)
        | some z =>
          obtain ⟨e2, r2⟩ := z
          rw [hf2] at qq hlp
          intro v2 H4 j2 u4 o4 hj2 rep4 a ha
          have rv : Rep K H4 (dpT e) ve := (Rep.upto o2'.ins (u3.trans u4)).1 _ _ rep2'
          have sh := (PM.prod_short (PM.factor_short n)) _ _ _ hf2
          refine ⟨.ref a, j2, _, .bin y e e2, ?_, rfl, (uu.trans u4).new ha _, new_in o4 ha, ?_, ?_⟩
          · have e1 := congrArg List.length hj2
            have e2 := congrArg List.length hr'
            rw [List.length_drop] at e1 e2
            have := o4.le
            omega
          · exact Rep.new ha (.cons (Rep.str_iff.mpr rfl) (.cons rv (.cons rep4 .nil)))
          · rw [hlp, hj2]
      · rw [hd, PM.loop_stop (fun e => c (List.contains_iff_mem.mpr e))] at qq
        exact qq ve H2' j u2' o2' hd rep2'
theorem ok_bracket_0 (T : Tx K mg t) : FnOk P w K mg base (CX1 P w) 4 t.f_bracket_from t.fd_bracket_from ["pieces", "depth"] (spBracket K t.C_Pieces t.C_NoRow 0 6) := by
  have G_Pieces_take : FnOk P w K mg base (CX1 P w) 2 t.f_Pieces_take t.fd_Pieces_take ["self"] (spTake t.C_Pieces t.C_NoRow) := ok_Pieces_take T
  have G_sum_from : FnOk P w K mg base (CX1 P w) 0 t.f_sum_from t.fd_sum_from ["pieces", "depth"] (fun _ _ _ _ => False) := ⟨fun vs H Q E h => h.elim, fun A outer s H args us vs Q E _ _ _ _ h => h.elim⟩
  refine T.D_bracket_from.F.okX sc_bracket_from (fun vs H Q E h => ?_) (fun cdv A outer s H vs Q E hr h => ?_)
  · obtain ⟨_, _, _, _, _, rfl, _⟩ := h
    rfl
  obtain ⟨p, l, dx, ps, k, rfl, o, q⟩ := h
  have nd := sc_bracket_from.nd
  obtain ⟨u_MOST_BRACKETS, m_MOST_BRACKETS, r_MOST_BRACKETS⟩ := T.mg_MOST_BRACKETS
  refine ⟨_, [some (.ref p), some (.int 6), none], (pss_cons (ps_if (pt_cmpR op_gt (pv 1) (pe_glob rfl m_MOST_BRACKETS r_MOST_BRACKETS) (nomark _))
 (pss_one (ps_raise flies1 T.x_NoRow rfl T.mg_NoRow rfl (pa_cons pe_str pa_nil st_const)))
 pss_nil)
 (pss_cons (ps_set (i := 2) nd rfl (Or.inl rfl) (pe_call G_sum_from (hr.mono (by omega)) rfl T.D_sum_from.m T.D_sum_from.F.kp T.D_sum_from.b .nil pass1 (pa_cons (pv 0) (pa_cons (pv 1) pa_nil st_name) st_name)))
 (pss_cons (ps_if (pt_cmpR op_ne (pe_meth0 (pv 0) T.cl_Pieces T.M_Pieces_take G_Pieces_take (hr.mono (by omega)) T.b_Pieces_take .nil pass1) pe_str (nomark _))
 (pss_one (ps_raise flies1 T.x_NoRow rfl T.mg_NoRow rfl (pa_cons pe_str pa_nil st_const)))
 pss_nil)
 (pss_one (ps_ret (pv 2)))))), rfl, ?_⟩
  walk_at "rd"
  exact (if_pos (by decide)).mpr ⟨by decide, q H (Upto.refl _ _)⟩
theorem brP_succ (n : Nat) (ps : List W) : brP (n + 1) ps = match PM.sumP (PM.factor n) ps with
    | some (e, q :: r) => if q = [41] then some (e, r) else none
    | _ => none := rfl
theorem ok_bracket_from (T : Tx K mg t) {n : Nat} {d : Int} (hd : d + n = 5) (G_sum_from : FnOk P w K mg base (CX1 P w) (4 * n + 7) t.f_sum_from t.fd_sum_from ["pieces", "depth"] (spRead K t.C_Pieces t.C_NoRow (PM.sumP (PM.factor n)) d)) :
    FnOk P w K mg base (CX1 P w) (4 * n + 8) t.f_bracket_from t.fd_bracket_from ["pieces", "depth"] (spBracket K t.C_Pieces t.C_NoRow (n + 1) d) := by
  have G_Pieces_take : FnOk P w K mg base (CX1 P w) 2 t.f_Pieces_take t.fd_Pieces_take ["self"] (spTake t.C_Pieces t.C_NoRow) := ok_Pieces_take T
  refine T.D_bracket_from.F.okX sc_bracket_from (fun vs H Q E h => ?_) (fun cdv A outer s H vs Q E hr h => ?_)
  · obtain ⟨_, _, _, _, _, rfl, _⟩ := h
    rfl
  obtain ⟨p, l, dx, ps, k, rfl, o, q⟩ := h
  have nd := sc_bracket_from.nd
  obtain ⟨u_MOST_BRACKETS, m_MOST_BRACKETS, r_MOST_BRACKETS⟩ := T.mg_MOST_BRACKETS
  refine ⟨_, [some (.ref p), some (.int d), none], (pss_cons (ps_if (pt_cmpR op_gt (pv 1) (pe_glob rfl m_MOST_BRACKETS r_MOST_BRACKETS) (nomark _))
 (pss_one (ps_raise flies1 T.x_NoRow rfl T.mg_NoRow rfl (pa_cons pe_str pa_nil st_const)))
 pss_nil)
 (pss_cons (ps_set (i := 2) nd rfl (Or.inl rfl) (pe_call G_sum_from (hr.mono (by omega)) rfl T.D_sum_from.m T.D_sum_from.F.kp T.D_sum_from.b .nil pass1 (pa_cons (pv 0) (pa_cons (pv 1) pa_nil st_name) st_name)))
 (pss_cons (ps_if (pt_cmpR op_ne (pe_meth0 (pv 0) T.cl_Pieces T.M_Pieces_take G_Pieces_take (hr.mono (by omega)) T.b_Pieces_take .nil pass1) pe_str (nomark _))
 (pss_one (ps_raise flies1 T.x_NoRow rfl T.mg_NoRow rfl (pa_cons pe_str pa_nil st_const)))
 pss_nil)
 (pss_one (ps_ret (pv 2)))))), rfl, ?_⟩
  walk_at "rd"
  rw [if_neg (by omega)]
  refine ⟨p, l, dx, ps, k, rfl, o, ?_⟩
  rw [brP_succ] at q
  cases hf : PM.sumP (PM.factor n) (ps.drop k) with
  | none =>
    rw [hf] at q
    exact q
  | some x =>
    obtain ⟨e0, r0⟩ := x
    rw [hf] at q
    intro v0 H0 j0 u0 o0 hj0 rep0
    refine ⟨p, dx, _, rfl, o0.ins, rfl, p, l, dx, ps, j0, rfl, o0, ?_⟩
    rw [hj0]
    cases r0 with
    | nil => exact q H0 u0
    | cons y r =>
      obtain ⟨hk, hy, hr'⟩ := PcO.headD_ne o0 hj0
      intro H1 u1 o1
      have z : V.str (Str.ofString ")") = sv [41] := by decide +kernel
      refine ⟨rfl, ?_⟩
      rw [z]
      refine ite2 (fun c => ?_) (fun c => ?_)
      · rw [sv_inj.mp c] at q
        exact q v0 H1 (j0 + 1) (u0.trans u1) o1 hr' ((Rep.upto o0.ins u1).1 _ _ rep0)
      · simp only [if_neg (fun e => c (sv_inj.mpr e))] at q
        exact ⟨by decide, q H1 (u0.trans u1)⟩
theorem ok_readers (T : Tx K mg t) : ∀ (n : Nat) (d : Int), d + n = 5 → FnOk P w K mg base (CX1 P w) (4 * n + 7) t.f_sum_from t.fd_sum_from ["pieces", "depth"] (spRead K t.C_Pieces t.C_NoRow (PM.sumP (PM.factor n)) d)
  | 0, d, h => by
    have e : d = 5 := by omega
    subst e
    exact ok_sum_from T (ok_product_from T (ok_factor_from T (n := 0) (ok_bracket_0 T)))
  | n + 1, d, h => ok_sum_from T (ok_product_from T (ok_factor_from T (ok_bracket_from T (d := d + 1) (by omega) (ok_readers T n (d + 1) (by omega)))))
theorem ok_expression (T : Tx K mg t) : FnOk P w K mg base (CX1 P w) 28 t.f_expression t.fd_expression ["word"] (spExpr K t.C_NoRow) := by
  have G_sum_from := ok_readers (P := P) (w := w) (base := base) T 5 0 rfl
  have G_Pieces_ahead : FnOk P w K mg base CX0 1 t.f_Pieces_ahead t.fd_Pieces_ahead ["self"] (spAhead t.C_Pieces) := ok_Pieces_ahead T
  have G_Pieces_init : FnOk P w K mg base CX0 3 t.f_Pieces_init t.fd_Pieces_init ["self", "word"] (spInit t.C_Pieces) := ok_Pieces_init T
  refine T.D_expression.F.okX sc_expression (fun vs H Q E h => ?_) (fun cdv A outer s H vs Q E hr h => ?_)
  · obtain ⟨_, rfl, _⟩ := h
    rfl
  obtain ⟨wd, rfl, hl, q⟩ := h
  have nd := sc_expression.nd
  obtain ⟨u_MOST_SIGNS, m_MOST_SIGNS, r_MOST_SIGNS⟩ := T.mg_MOST_SIGNS
  refine ⟨_, [some (sv wd), none, none], (pss_cons (ps_if (pt_cmpR op_gt (pe_callB call_len_str rfl T.z_len PyProof.Rows.Boot.«len» (pa_cons (pv 0) pa_nil st_name)) (pe_glob rfl m_MOST_SIGNS r_MOST_SIGNS) (nomark _))
 (pss_one (ps_raise flies1 T.x_NoRow rfl T.mg_NoRow rfl (pa_cons pe_str pa_nil st_const)))
 pss_nil)
 (pss_cons (ps_set (i := 1) nd rfl (Or.inl rfl) (pe_make T.mk_Pieces G_Pieces_init (hr.mono (by omega)) rfl T.mg_Pieces T.b_Pieces_init .nil pass0 (pa_cons (pv 0) pa_nil st_name)))
 (pss_cons (ps_set (i := 2) nd rfl (Or.inl rfl) (pe_call G_sum_from (hr.mono (by omega)) rfl T.D_sum_from.m T.D_sum_from.F.kp T.D_sum_from.b .nil pass1 (pa_cons (pv 1) (pa_cons pe_int pa_nil st_const) st_name)))
 (pss_cons (ps_if (pt_cmpR op_ne (pe_meth0 (pv 1) T.cl_Pieces T.M_Pieces_ahead G_Pieces_ahead (hr.mono (by omega)) T.b_Pieces_ahead .nil pass0) pe_str (nomark _))
 (pss_one (ps_raise flies1 T.x_NoRow rfl T.mg_NoRow rfl (pa_cons pe_str pa_nil st_const)))
 pss_nil)
 (pss_one (ps_ret (pv 2))))))), rfl, ?_⟩
  walk_at "rd"
  have line : sizeLine = 2 ^ 24 := rfl
  refine ⟨S wd, rfl, by rw [S_len]; omega, ?_⟩
  rw [S_len]
  unfold PM.expr at q
  refine ite2 (fun c => ?_) (fun c => ?_)
  · rw [if_pos (by omega)] at q
    exact ⟨by decide, q H (Same.refl _)⟩
  rw [if_neg (by omega)] at q
  intro x dx hx hdx ne
  have hx1 : (upd H dx (.own x)) x = none := by rw [upd_ne (Ne.symm ne)]; exact hx
  refine ⟨x, dx, wd, rfl, upd_same, by rw [upd_ne ne]; exact upd_same, by omega, fun l H1 u1 o1 => ⟨rfl, ?_⟩⟩
  have sm : ∀ {H' : Hp}, Upto x (upd (upd H dx (.own x)) x (.ins t.C_Pieces dx [])) H' → Same H H' := fun u b o' e => by
    have n1 : b ≠ x := ne_of_none e hx
    have n2 : b ≠ dx := ne_of_none e hdx
    refine u b o' n1 ?_
    rw [upd_ne n1, upd_ne n2]
    exact e
  refine ⟨x, l, dx, PM.pieces wd, 0, rfl, o1, ?_⟩
  rw [List.drop_zero]
  cases hf : PM.sumP (PM.factor 5) (PM.pieces wd) with
  | none =>
    rw [hf] at q
    exact fun H' u => q H' (sm (u1.trans u))
  | some z =>
    obtain ⟨e0, r0⟩ := z
    rw [hf] at q
    intro v H2 j u2 o2 hj rep
    refine ⟨x, dx, _, rfl, o2.ins, rfl, x, l, dx, _, j, rfl, o2, rfl, ?_⟩
    rw [hj]
    have z : V.str (Str.ofString "") = sv [] := rfl
    cases r0 with
    | nil => exact (if_pos rfl).mpr (q v H2 (sm (u1.trans u2)) rep)
    | cons y r =>
      obtain ⟨_, hy, _⟩ := PcO.headD_ne o2 hj
      refine (if_neg (fun e => o2.pos y hy (sv_inj.mp (e.trans z)))).mpr ?_
      exact ⟨by decide, q H2 (sm (u1.trans u2))⟩
theorem ok_stir (T : Tx K mg t) : FnOk P w K mg base CX0 1 t.f__law_stir t.fd__law_stir ["cell", "k"] spStir := by
  refine T.D__law_stir.F.okS sc__law_stir (fun vs H Q E h => ?_) (fun cdv A outer s H vs Q E hr h => ?_)
  · obtain ⟨cell, k, rfl, _⟩ := h
    rfl
  obtain ⟨cell, k, rfl, h0, h1, q⟩ := h
  have nd := sc__law_stir.nd
  refine ⟨_, [some (V.int cell), some (V.int k), none], (pss_cons (ps_if (pt_cmpR op_ge (pv 0) (pe_op op_pow pe_int pe_int) (nomark _))
 (pss_one (ps_ret (pe_op op_mod (pe_op op_shr (pe_op op_sub (pv 0) (pe_op op_pow pe_int pe_int)) (pe_op op_mul pe_int (pv 1))) (pe_op op_pow pe_int pe_int))))
 pss_nil)
 (pss_cons (ps_set (i := 2) nd rfl (Or.inl rfl) (pe_op op_mod (pe_op op_mul (pe_op op_add (pe_op op_add (pv 0) (pe_op op_mul pe_int (pv 1))) pe_int) pe_int) pe_int))
 (pss_cons (ps_set (i := 2) nd rfl (Or.inl rfl) (pe_op op_mod (pe_op op_mul (pv 2) (pv 2)) pe_int))
 (pss_one (ps_ret (pe_op op_fdiv (pe_op op_mod (pe_op op_mul (pv 2) pe_int) pe_int) pe_int)))))), rfl, ?_⟩
  walk_at "rd"
  have p18 : CPow 10 18 := ⟨by decide, by decide, by decide⟩
  have p28 : CPow 2 28 := ⟨by decide, by decide, by decide⟩
  refine ⟨p18, ?_⟩
  unfold stir at q
  have e18 : (10 : Int) ^ Int.toNat 18 = 10 ^ 18 := rfl
  have e28 : (2 : Int) ^ Int.toNat 28 = 2 ^ 28 := rfl
  rw [e18, e28]
  refine ite2 (fun hc => ?_) (fun hc => ?_)
  · rw [if_pos hc] at q
    exact ⟨p18, mulL (by decide) (by decide), by omega, p28, by decide, q⟩
  · rw [if_neg hc] at q
    have b1 := Int.emod_nonneg ((cell + 1013 * k + 1) * 16807) (show (2147483647 : Int) ≠ 0 by decide)
    have b2 := Int.emod_lt_of_pos ((cell + 1013 * k + 1) * 16807) (show (0 : Int) < 2147483647 by decide)
    have c1 : CMul ((cell + 1013 * k + 1) * 16807 % 2147483647) ((cell + 1013 * k + 1) * 16807 % 2147483647) := by
      generalize (cell + 1013 * k + 1) * 16807 % 2147483647 = z at b1 b2 ⊢
      exact mulL (by omega) (by omega)
    exact ⟨mulL (by decide) (by decide), mulR (by decide) (by decide), c1, mulR (by decide) (by decide), q⟩
theorem cat_i {H : Hp} {p1 p2 : Addr} {xs zs : List V} {Q : VK} (h1 : H p1 = some (.lst xs)) (h2 : H p2 = some (.lst zs)) (hl : xs.length + zs.length ≤ 2 ^ 24) (q : ∀ p, H p = none → Q (.ref p) (upd H p (.lst (xs ++ zs)))) : rCat (.ref p1) (.ref p2) H Q :=
  ⟨p1, p2, xs, zs, rfl, rfl, h1, h2, hl, q⟩
theorem ok_goodName (T : Tx K mg t) : FnOk P w K mg base CX0 1 t.f__law_good_name t.fd__law_good_name ["word"] spIsName := by
  refine T.D__law_good_name.F.okS sc__law_good_name (fun vs H Q E h => ?_) (fun cdv A outer s H vs Q E hr h => ?_)
  · obtain ⟨_, rfl, _⟩ := h
    rfl
  obtain ⟨wd, rfl, hl, q⟩ := h
  have nd := sc__law_good_name.nd
  have hu := hu_of hr
  refine ⟨_, [some (sv wd), none, none], (by
    rw [hb__law_good_name]
    exact (pss_cons (ps_set (i := 1) nd rfl (Or.inl rfl) (pe_lst (pa_consts (vs := [.str "box", .str "ask", .str "put", .str "say", .str "if", .str "else", .str "while", .str "must", .str "stop", .str "end"]) (by kernel_rfl))))
 (pss_cons (ps_setC (i := 2) nd rfl (Or.inl rfl) (own := ["sign"]) (ix := []) rfl (by rfl) (by rfl) (pi_str (pv 0)) (fun _ _ _ _ => (pg_name (i := 0) (by show List.Nodup (["sign"] : List Str); decide +kernel) rfl (Or.inl rfl))) (fun _ _ _ _ => (pts_one (pt_cmpR op_notin_str (pv 0) pe_str rfl))) (fun _ _ _ _ => (pv 0)))
 (pss_one (ps_ret (pe_and (pe_cmpR (op_eq_nil (hu_of hr)) (pv 2) (pe_lst pa_nil) (nomark _)) (pe_and (pe_chain op_le op_le pe_int (pe_callB call_len_str rfl T.z_len PyProof.Rows.Boot.«len» (pa_cons (pv 0) pa_nil st_name)) pe_int) (pe_one (pe_cmpR op_notIn_seq (pv 0) (pv 1) rfl))))))))), rfl, ?_⟩
  have line : sizeLine = 2 ^ 24 := rfl
  refine seq_gen fun U1 hU1 => ?_
  walk_at "rd"
  intro p hp
  have s1 := Same.new hp (.lst [.str "box", .str "ask", .str "put", .str "say", .str "if", .str "else", .str "while", .str "must", .str "stop", .str "end"])
  have h1 : (upd H p (.lst [.str "box", .str "ask", .str "put", .str "say", .str "if", .str "else", .str "while", .str "must", .str "stop", .str "end"])) p = some (.lst [.str "box", .str "ask", .str "put", .str "say", .str "if", .str "else", .str "while", .str "must", .str "stop", .str "end"]) := upd_same
  generalize upd H p (.lst [.str "box", .str "ask", .str "put", .str "say", .str "if", .str "else", .str "while", .str "must", .str "stop", .str "end"]) = H1 at *
  refine (hU1 _ _).mpr (seq_gen fun U2 hU2 => ?_)
  walk_at "rd"
  refine ⟨_, rfl, S wd, rfl, fun D hD => ?_⟩
  refine comp_str (r := []) (fun c => !PM.isLetter c) (fun c => V.str ⟨#[c]⟩) (by rw [S_len]; omega) (fun c hc ys R hR => ?_) (fun c hc _ ys R hR => ?_) ?_
  · walk_at "rd"
    refine ⟨_, _, rfl, rfl, ?_⟩
    rw [PySem.StrLaws.found_one, in_letters]
    exact hR
  · walk_at "rd"
    exact hR
  rw [S_list]
  have s2 := s1.new1 hD (.lst ((wd.filter fun c => !PM.isLetter c).map fun c => V.str ⟨#[c]⟩))
  have h2 : (upd H1 D (.lst ((wd.filter fun c => !PM.isLetter c).map fun c => V.str ⟨#[c]⟩))) D = some (.lst ((wd.filter fun c => !PM.isLetter c).map fun c => V.str ⟨#[c]⟩)) := upd_same
  have h1' := Same.new hD (.lst ((wd.filter fun c => !PM.isLetter c).map fun c => V.str ⟨#[c]⟩)) _ _ h1
  generalize upd H1 D (.lst ((wd.filter fun c => !PM.isLetter c).map fun c => V.str ⟨#[c]⟩)) = H2 at *
  refine (hU2 _ _).mpr ?_
  walk_at "rd"
  intro p3 hp3
  have s3 := s2.new1 hp3 (.lst [])
  have em : ((wd.filter fun c => !PM.isLetter c).map fun c => V.str ⟨#[c]⟩).isEmpty = wd.all PM.isLetter := by
    rw [Bool.eq_iff_iff, List.isEmpty_iff, List.map_eq_nil_iff, List.filter_eq_nil_iff, List.all_eq_true]
    simp
  refine ⟨D, p3, _, rfl, rfl, .of (Same.new hp3 _ _ _ h2), .of upd_same, ?_⟩
  rw [em]
  have h3 := Same.new hp3 (.lst []) _ _ h1'
  generalize upd H2 p3 (.lst []) = H3 at *
  cases ha : wd.all PM.isLetter with
  | false =>
    have e : PM.isName wd = false := by unfold PM.isName; rw [ha]; simp
    have := q H3 s3
    rw [e] at this
    simpa using this
  | true =>
    simp only [if_true]
    refine ⟨S wd, rfl, by rw [S_len]; omega, ?_⟩
    rw [S_len]
    have qn : ¬ (1 ≤ wd.length ∧ wd.length ≤ 8) → Q (V.bl false) H3 := fun h => by
      have e := all_false_of_len (w := wd) (by omega)
      have := q H3 s3
      rw [e] at this
      exact this
    refine ite2 (fun k1 => ite2 (fun k2 => ?_) (fun k2 => qn (by omega))) (fun k1 => (if_neg Bool.false_ne_true).mpr (qn (by omega)))
    refine ⟨p, _, rfl, .inl (.of h3), rfl, rfl, ?_⟩
    have e : PM.isName wd = !PM.noNames.contains wd := by
      unfold PM.isName
      rw [ha, decide_eq_true (show 1 ≤ wd.length by omega), decide_eq_true (show wd.length ≤ 8 by omega)]
      rfl
    have m : inV (sv wd) [.str "box", .str "ask", .str "put", .str "say", .str "if", .str "else", .str "while", .str "must", .str "stop", .str "end"] = PM.noNames.contains wd := by
      have l : ([.str "box", .str "ask", .str "put", .str "say", .str "if", .str "else", .str "while", .str "must", .str "stop", .str "end"] : List V) = PM.noNames.map sv := by decide +kernel
      rw [l]
      exact in_words wd _
    have q' := q _ s3
    rw [e] at q'
    rw [m]
    exact q'
theorem ok_refL (T : Tx K mg t) : FnOk P w K mg base CX0 29 t.f__law_refused t.fd__law_refused ["word"] spRefL := by
  have G_expression := ok_expression (P := P) (w := w) (base := base) T
  refine T.D__law_refused.F.okS sc__law_refused (fun vs H Q E h => ?_) (fun cdv A outer s H vs Q E hr h => ?_)
  · obtain ⟨_, rfl, _⟩ := h
    rfl
  obtain ⟨wd, rfl, hl, he, q⟩ := h
  have nd := sc__law_refused.nd
  refine ⟨_, [some (sv wd), none, none], (pss_cons (ps_set (i := 1) nd rfl (Or.inl rfl) (pe_lst pa_nil))
 (pss_cons (ps_tryAs (i := 2) nd rfl rfl rfl G_expression (hr.mono (by omega)) rfl T.D_expression.m T.D_expression.F.kp T.D_expression.b (fun _ _ => (pa_cons (pv 0) pa_nil st_name)) rfl rfl rfl T.mg_RowError (fun _ => (pss_cons (ps_set (i := 1) nd rfl (Or.inl rfl) (pe_lst (pa_cons (pe_callB (call_isX (K := K) rfl) rfl T.z_isinstance PyProof.Rows.Boot.«isinstance» (pa_cons (pv 2) (pa_cons (pe_glob (v := .ref t.C_NoRow) rfl T.mg_NoRow rfl) pa_nil st_name) st_name)) (pa_cons (pe_callB (call_isX (K := K) rfl) rfl T.z_isinstance PyProof.Rows.Boot.«isinstance» (pa_cons (pv 2) (pa_cons (pe_glob (v := .ref t.C_NoPlace) rfl T.mg_NoPlace rfl) pa_nil st_name) st_name)) (pa_cons (pe_callB (call_isX (K := K) rfl) rfl T.z_isinstance PyProof.Rows.Boot.«isinstance» (pa_cons (pv 2) (pa_cons (pe_glob (v := .ref t.C_TooLong) rfl T.mg_TooLong rfl) pa_nil st_name) st_name)) (pa_cons (pe_callB (call_isX (K := K) rfl) rfl T.z_isinstance PyProof.Rows.Boot.«isinstance» (pa_cons (pv 2) (pa_cons (pe_glob (v := .ref t.C_TooDeep) rfl T.mg_TooDeep rfl) pa_nil st_name) st_name)) pa_nil st_call) st_call) st_call) st_call)))
 (pss_cons (ps_set (i := 1) nd rfl (Or.inl rfl) (pe_op op_cat (pv 1) (pe_lst (pa_cons (pe_callB (call_isX (K := K) rfl) rfl T.z_isinstance PyProof.Rows.Boot.«isinstance» (pa_cons (pv 2) (pa_cons (pe_glob (v := .ref t.C_NoMeasure) rfl T.mg_NoMeasure rfl) pa_nil st_name) st_name)) (pa_cons (pe_callB (call_isX (K := K) rfl) rfl T.z_isinstance PyProof.Rows.Boot.«isinstance» (pa_cons (pv 2) (pa_cons (pe_glob (v := .ref t.C_Twice) rfl T.mg_Twice rfl) pa_nil st_name) st_name)) (pa_cons (pe_callB (call_isX (K := K) rfl) rfl T.z_isinstance PyProof.Rows.Boot.«isinstance» (pa_cons (pv 2) (pa_cons (pe_glob (v := .ref t.C_Open) rfl T.mg_Open rfl) pa_nil st_name) st_name)) (pa_cons (pe_callB (call_isX (K := K) rfl) rfl T.z_isinstance PyProof.Rows.Boot.«isinstance» (pa_cons (pv 2) (pa_cons (pe_glob (v := .ref t.C_Full) rfl T.mg_Full rfl) pa_nil st_name) st_name)) pa_nil st_call) st_call) st_call) st_call))))
 (pss_cons (ps_set (i := 1) nd rfl (Or.inl rfl) (pe_op op_cat (pv 1) (pe_lst (pa_cons (pe_callB (call_isX (K := K) rfl) rfl T.z_isinstance PyProof.Rows.Boot.«isinstance» (pa_cons (pv 2) (pa_cons (pe_glob (v := .ref t.C_NoBox) rfl T.mg_NoBox rfl) pa_nil st_name) st_name)) (pa_cons (pe_callB (call_isX (K := K) rfl) rfl T.z_isinstance PyProof.Rows.Boot.«isinstance» (pa_cons (pv 2) (pa_cons (pe_glob (v := .ref t.C_NoForm) rfl T.mg_NoForm rfl) pa_nil st_name) st_name)) (pa_cons (pe_callB (call_isX (K := K) rfl) rfl T.z_isinstance PyProof.Rows.Boot.«isinstance» (pa_cons (pv 2) (pa_cons (pe_glob (v := .ref t.C_NoneYet) rfl T.mg_NoneYet rfl) pa_nil st_name) st_name)) (pa_cons (pe_callB (call_isX (K := K) rfl) rfl T.z_isinstance PyProof.Rows.Boot.«isinstance» (pa_cons (pv 2) (pa_cons (pe_glob (v := .ref t.C_NoTarget) rfl T.mg_NoTarget rfl) pa_nil st_name) st_name)) pa_nil st_call) st_call) st_call) st_call))))
 (pss_one (ps_set (i := 1) nd rfl (Or.inl rfl) (pe_op op_cat (pv 1) (pe_lst (pa_cons (pe_callB (call_isX (K := K) rfl) rfl T.z_isinstance PyProof.Rows.Boot.«isinstance» (pa_cons (pv 2) (pa_cons (pe_glob (v := .ref t.C_TooMany) rfl T.mg_TooMany rfl) pa_nil st_name) st_name)) (pa_cons (pe_not (pe_callB (call_isXT (K := K) rfl) rfl T.z_isinstance PyProof.Rows.Boot.«isinstance» (pa_cons (pv 2) (pa_cons (pe_bltn (v := .ty "ValueError") rfl T.z_ValueError PyProof.Rows.Boot.«ValueError» rfl) pa_nil st_name) st_name))) pa_nil st_un) st_call))))))))))
 (pss_one (ps_ret (pv 1))))), rfl, ?_⟩
  have line : sizeLine = 2 ^ 24 := rfl
  refine seq_gen fun U1 hU1 => ?_
  walk_at "rd"
  intro p hp
  have s1 := Same.new hp (.lst [])
  generalize upd H p (.lst []) = H1 at *
  refine (hU1 _ _).mpr (seq_gen fun U2 hU2 => ?_)
  simp only [tTryAs]
  walk_at "rd"
  refine ⟨wd, rfl, by omega, ?_⟩
  rw [he]
  intro H2 s2
  refine ⟨T.xr_NoRow, _, rfl, fun y hy => ?_⟩
  have s3 := (s1.trans s2).new1 hy (ExcO y t.C_NoRow)
  have h3 : (upd H2 y (ExcO y t.C_NoRow)) y = some (ExcO y t.C_NoRow) := upd_same
  generalize upd H2 y (ExcO y t.C_NoRow) = H3 at *
  refine ⟨y, _, _, _, rfl, h3, T.xi_NoRow, T.ki_NoRow_NoRow, ?_⟩
  refine ⟨y, _, _, _, rfl, h3, T.xi_NoRow, T.ki_NoRow_NoPlace, ?_⟩
  refine ⟨y, _, _, _, rfl, h3, T.xi_NoRow, T.ki_NoRow_TooLong, ?_⟩
  refine ⟨y, _, _, _, rfl, h3, T.xi_NoRow, T.ki_NoRow_TooDeep, ?_⟩
  intro p4 hp4
  have s4 := s3.new1 hp4 (.lst [.bl true, .bl false, .bl false, .bl false])
  have h4 := Same.new hp4 (.lst [.bl true, .bl false, .bl false, .bl false]) _ _ h3
  have l4 : (upd H3 p4 (.lst [.bl true, .bl false, .bl false, .bl false])) p4 = some (.lst [.bl true, .bl false, .bl false, .bl false]) := upd_same
  generalize upd H3 p4 (.lst [.bl true, .bl false, .bl false, .bl false]) = H4 at *
  refine ⟨y, _, _, _, rfl, h4, T.xi_NoRow, T.ki_NoRow_NoMeasure, ?_⟩
  refine ⟨y, _, _, _, rfl, h4, T.xi_NoRow, T.ki_NoRow_Twice, ?_⟩
  refine ⟨y, _, _, _, rfl, h4, T.xi_NoRow, T.ki_NoRow_Open, ?_⟩
  refine ⟨y, _, _, _, rfl, h4, T.xi_NoRow, T.ki_NoRow_Full, ?_⟩
  intro p5 hp5
  have s5 := s4.new1 hp5 (.lst [.bl false, .bl false, .bl false, .bl false])
  have h5 := Same.new hp5 (.lst [.bl false, .bl false, .bl false, .bl false]) _ _ h4
  have l5 := Same.new hp5 (.lst [.bl false, .bl false, .bl false, .bl false]) _ _ l4
  have m5 : (upd H4 p5 (.lst [.bl false, .bl false, .bl false, .bl false])) p5 = some (.lst [.bl false, .bl false, .bl false, .bl false]) := upd_same
  generalize upd H4 p5 (.lst [.bl false, .bl false, .bl false, .bl false]) = H5 at *
  refine cat_i l5 m5 (by decide) fun p6 hp6 => ?_
  have s6 := s5.new1 hp6 (.lst ([.bl true, .bl false, .bl false, .bl false] ++ [.bl false, .bl false, .bl false, .bl false]))
  have h6 := Same.new hp6 (.lst ([.bl true, .bl false, .bl false, .bl false] ++ [.bl false, .bl false, .bl false, .bl false])) _ _ h5
  have l6 : (upd H5 p6 (.lst ([.bl true, .bl false, .bl false, .bl false] ++ [.bl false, .bl false, .bl false, .bl false]))) p6 = some (.lst ([.bl true, .bl false, .bl false, .bl false] ++ [.bl false, .bl false, .bl false, .bl false])) := upd_same
  generalize upd H5 p6 (.lst ([.bl true, .bl false, .bl false, .bl false] ++ [.bl false, .bl false, .bl false, .bl false])) = H6 at *
  refine ⟨y, _, _, _, rfl, h6, T.xi_NoRow, T.ki_NoRow_NoBox, ?_⟩
  refine ⟨y, _, _, _, rfl, h6, T.xi_NoRow, T.ki_NoRow_NoForm, ?_⟩
  refine ⟨y, _, _, _, rfl, h6, T.xi_NoRow, T.ki_NoRow_NoneYet, ?_⟩
  refine ⟨y, _, _, _, rfl, h6, T.xi_NoRow, T.ki_NoRow_NoTarget, ?_⟩
  intro p7 hp7
  have s7 := s6.new1 hp7 (.lst [.bl false, .bl false, .bl false, .bl false])
  have h7 := Same.new hp7 (.lst [.bl false, .bl false, .bl false, .bl false]) _ _ h6
  have l7 := Same.new hp7 (.lst [.bl false, .bl false, .bl false, .bl false]) _ _ l6
  have m7 : (upd H6 p7 (.lst [.bl false, .bl false, .bl false, .bl false])) p7 = some (.lst [.bl false, .bl false, .bl false, .bl false]) := upd_same
  generalize upd H6 p7 (.lst [.bl false, .bl false, .bl false, .bl false]) = H7 at *
  refine cat_i l7 m7 (by decide) fun p8 hp8 => ?_
  have s8 := s7.new1 hp8 (.lst ([.bl true, .bl false, .bl false, .bl false] ++ [.bl false, .bl false, .bl false, .bl false] ++ [.bl false, .bl false, .bl false, .bl false]))
  have h8 := Same.new hp8 (.lst ([.bl true, .bl false, .bl false, .bl false] ++ [.bl false, .bl false, .bl false, .bl false] ++ [.bl false, .bl false, .bl false, .bl false])) _ _ h7
  have l8 : (upd H7 p8 (.lst ([.bl true, .bl false, .bl false, .bl false] ++ [.bl false, .bl false, .bl false, .bl false] ++ [.bl false, .bl false, .bl false, .bl false]))) p8 = some (.lst ([.bl true, .bl false, .bl false, .bl false] ++ [.bl false, .bl false, .bl false, .bl false] ++ [.bl false, .bl false, .bl false, .bl false])) := upd_same
  generalize upd H7 p8 (.lst ([.bl true, .bl false, .bl false, .bl false] ++ [.bl false, .bl false, .bl false, .bl false] ++ [.bl false, .bl false, .bl false, .bl false])) = H8 at *
  refine ⟨y, _, _, _, rfl, h8, T.xi_NoRow, T.ki_NoRow_TooMany, ?_⟩
  refine ⟨y, _, _, _, rfl, h8, T.xi_NoRow, T.kv_NoRow, ?_⟩
  intro p9 hp9
  have s9 := s8.new1 hp9 (.lst [.bl false, .bl (!true)])
  have l9 := Same.new hp9 (.lst [.bl false, .bl (!true)]) _ _ l8
  have m9 : (upd H8 p9 (.lst [.bl false, .bl (!true)])) p9 = some (.lst [.bl false, .bl (!true)]) := upd_same
  generalize upd H8 p9 (.lst [.bl false, .bl (!true)]) = H9 at *
  refine cat_i l9 m9 (by decide) fun pa hpa => ?_
  show U2 [some (sv wd), some (V.ref pa), none] _
  refine (hU2 _ _).mpr ?_
  walk_at "rd"
  exact q _ _ (s9.new1 hpa _) (by rw [upd_same]; rfl)
theorem cut_head (u : W) : cutS (S u) none (some 1) = S (u.take 1) := by
  unfold cutS
  rw [HT.sIx_none, show (1 : Int) = ((1 : Nat) : Int) from rfl, HT.sIx_nat, S_len, S_list, List.drop_zero, Nat.sub_zero]
  show S _ = S _
  congr 1
  cases u with
  | nil => rfl
  | cons c r => simp
theorem sIx_m1 (n d : Nat) : HT.sIx n d (some (-1)) = n - 1 := by
  show (if (-1 : Int) < 0 then ((-1 : Int) + (n : Int)).toNat else min (-1 : Int).toNat n) = n - 1
  rw [if_pos (by decide)]
  omega
theorem cut_last (u : W) : cutS (S u) (some (-1)) none = S (u.drop (u.length - 1)) := by
  unfold cutS
  rw [HT.sIx_none, sIx_m1, S_len, S_list]
  show S _ = S _
  congr 1
  exact List.take_of_length_le (by rw [List.length_drop]; omega)
theorem cut_mid (u : W) : cutS (S u) (some 1) (some (-1)) = S (u.tail.dropLast) := by
  unfold cutS
  rw [sIx_m1, show (1 : Int) = ((1 : Nat) : Int) from rfl, HT.sIx_nat, S_len, S_list]
  show S _ = S _
  congr 1
  cases u with
  | nil => rfl
  | cons c r =>
    simp only [List.length_cons, List.tail_cons]
    rw [show min 1 (r.length + 1) = 1 by omega, List.drop_succ_cons, List.drop_zero, List.dropLast_eq_take, show r.length + 1 - 1 - 1 = r.length - 1 by omega]
theorem head_is (u : W) : (S (u.take 1) = Str.ofString "(") ↔ u.head? = some 40 := by
  have e : Str.ofString "(" = S [40] := by decide +kernel
  rw [e, S_inj]
  cases u with
  | nil => simp
  | cons c r => simp
theorem last_is (u : W) : (S (u.drop (u.length - 1)) = Str.ofString ")") ↔ u.getLast? = some 41 := by
  have e : Str.ofString ")" = S [41] := by decide +kernel
  rw [e, S_inj]
  rcases List.eq_nil_or_concat u with rfl | ⟨r, c, rfl⟩
  · simp
  · simp
theorem ok_due (T : Tx K mg t) : FnOk P w K mg base CX0 2 t.f__law_due t.fd__law_due ["word"] (spDueW K) := by
  have G__law_good_name : FnOk P w K mg base CX0 1 t.f__law_good_name t.fd__law_good_name ["word"] spIsName := ok_goodName T
  refine T.D__law_due.F.okS sc__law_due (fun vs H Q E h => ?_) (fun cdv A outer s H vs Q E hr h => ?_)
  · obtain ⟨_, rfl, _⟩ := h
    rfl
  obtain ⟨wd, rfl, hl, q⟩ := h
  have nd := sc__law_due.nd
  refine ⟨_, [some (sv wd), none, none], (pss_cons (ps_set (i := 1) nd rfl (Or.inl rfl) pe_int)
 (pss_cons (ps_while PassesOwn.never (PW.pt (pw_and (pt_cmpR op_eq (pe_slice sl_str (pv 0) po_none (po_some pe_int)) pe_str (nomark _)) (pw_and (pt_cmpR op_eq (pe_slice sl_str (pv 0) (po_some (pe_un un_neg pe_int)) po_none) pe_str (nomark _)) (pw_and1 (pt_cmpR op_lt (pv 1) pe_int (nomark _))))))
 (pss_cons (ps_set (i := 0) nd rfl (Or.inl rfl) (pe_slice sl_str (pv 0) (po_some pe_int) (po_some (pe_un un_neg pe_int))))
 (pss_one (ps_set (i := 1) nd rfl (Or.inl rfl) (pe_op op_add (pv 1) pe_int)))))
 (pss_cons (ps_if (pt_cmpR op_gt (pv 1) pe_int (nomark _))
 (pss_one (ps_ret pe_non))
 pss_nil)
 (pss_cons (ps_if (pt_val (pe_call G__law_good_name (hr.mono (by omega)) rfl T.D__law_good_name.m T.D__law_good_name.F.kp T.D__law_good_name.b .nil pass0 (pa_cons (pv 0) pa_nil st_name)))
 (pss_one (ps_ret (pe_tup (pa_cons pe_str (pa_cons (pv 0) pa_nil st_name) st_const))))
 pss_nil)
 (pss_cons (ps_setC (i := 2) nd rfl (Or.inl rfl) (own := ["sign"]) (ix := []) rfl (by rfl) (by rfl) (pi_str (pv 0)) (fun _ _ _ _ => (pg_name (i := 0) (by show List.Nodup (["sign"] : List Str); decide +kernel) rfl (Or.inl rfl))) (fun _ _ _ _ => (pts_one (pt_cmpR op_notin_str (pv 0) pe_str rfl))) (fun _ _ _ _ => (pv 0)))
 (pss_cons (ps_if (PW.pt (pw_or (pt_cmpR (op_ne_nil (hu_of hr)) (pv 2) (pe_lst pa_nil) (nomark _)) (pw_or (pt_not (pt_chain op_le op_le pe_int (pe_callB call_len_str rfl T.z_len PyProof.Rows.Boot.«len» (pa_cons (pv 0) pa_nil st_name)) pe_int)) (pw_or1 (PW.pt (pw_and (pt_cmpR op_eq (pe_ix ix_str (pv 0) pe_int pl_const) pe_str (nomark _)) (pw_and1 (pt_cmpR op_ne (pv 0) pe_str (nomark _)))))))))
 (pss_one (ps_ret pe_non))
 pss_nil)
 (pss_one (ps_ret (pe_tup (pa_cons pe_str (pa_cons (pe_callTy call_int_str rfl T.z_int PyProof.Rows.Boot.«int» (pa_cons (pv 0) pa_nil st_name)) pa_nil st_call) st_const)))))))))), rfl, ?_⟩
  have line : sizeLine = 2 ^ 24 := rfl
  refine seq_gen fun U1 hU1 => ?_
  walk_at "rd"
  refine (hU1 _ _).mpr (seq_gen fun U2 hU2 => ?_)
  have behind : ∀ (j : Nat) (u : W), PM.strip 6 wd = (j, u) → u.length ≤ wd.length → U2 [some (sv u), some (.int j), none] H := by
    intro j u es lu
    have due : PM.due wd = if 5 < j then none else PM.leaf u := by unfold PM.due; rw [es]
    refine (hU2 _ _).mpr (seq_gen fun U3 hU3 => ?_)
    walk_at "rd"
    have qn : PM.due wd = none → ∀ H', Same H H' → Q V.non H' := fun e => by rw [e] at q; exact q
    have qs : ∀ tr, PM.due wd = some tr → ∀ v H', Same H H' → Rep K H' (dpT tr) v → Q v H' := fun tr e => by rw [e] at q; exact q
    clear q
    refine ite2 (fun c => qn (by rw [due, if_pos (by omega)]) _ (Same.refl _)) (fun c => (hU3 _ _).mpr (seq_gen fun U4 hU4 => ?_))
    rw [if_neg (by omega)] at due
    walk_at "rd"
    refine ⟨u, rfl, by omega, fun H1 s1 => ?_⟩
    refine ⟨_, rfl, ?_⟩
    cases hn : PM.isName u with
    | true =>
      simp only [if_true]
      intro p hp
      have dl : PM.due wd = some (.box u) := by rw [due]; unfold PM.leaf; rw [if_pos hn]
      exact qs _ dl _ _ (s1.new1 hp _) (Rep.new hp (.cons (Rep.str_iff.mpr rfl) (.cons (Rep.str_iff.mpr rfl) .nil)))
    | false =>
      rw [if_neg Bool.false_ne_true]
      refine (hU4 _ _).mpr (seq_gen fun U5 hU5 => ?_)
      walk_at "rd"
      refine ⟨_, rfl, S u, rfl, fun D hD => ?_⟩
      refine comp_str (r := []) (fun c => !PM.isFigure c) (fun c => V.str ⟨#[c]⟩) (by rw [S_len]; omega) (fun c hc ys R hR => ?_) (fun c hc _ ys R hR => ?_) ?_
      · walk_at "rd"
        refine ⟨_, _, rfl, rfl, ?_⟩
        rw [PySem.StrLaws.found_one, in_figures]
        exact hR
      · walk_at "rd"
        exact hR
      rw [S_list]
      have s2 := s1.new1 hD (.lst ((u.filter fun c => !PM.isFigure c).map fun c => V.str ⟨#[c]⟩))
      have h2 : (upd H1 D (.lst ((u.filter fun c => !PM.isFigure c).map fun c => V.str ⟨#[c]⟩))) D = some (.lst ((u.filter fun c => !PM.isFigure c).map fun c => V.str ⟨#[c]⟩)) := upd_same
      generalize upd H1 D (.lst ((u.filter fun c => !PM.isFigure c).map fun c => V.str ⟨#[c]⟩)) = H2 at *
      refine (hU5 _ _).mpr (seq_gen fun U6 hU6 => ?_)
      walk_at "rd"
      have dl : PM.due wd = if PM.isNumber u then some (.num (PM.numVal u)) else none := by rw [due]; unfold PM.leaf; rw [if_neg (by rw [hn]; exact Bool.false_ne_true)]
      intro p hp
      have s3 := s2.new1 hp (.lst [])
      have em : ((u.filter fun c => !PM.isFigure c).map fun c => V.str ⟨#[c]⟩).isEmpty = u.all PM.isFigure := by
        rw [Bool.eq_iff_iff, List.isEmpty_iff, List.map_eq_nil_iff, List.filter_eq_nil_iff, List.all_eq_true]
        simp
      refine ⟨D, p, _, rfl, rfl, .of (Same.new hp _ _ _ h2), .of upd_same, ?_⟩
      rw [em]
      generalize upd H2 p (.lst []) = H3 at *
      have no : PM.isNumber u = false → Q V.non H3 := fun e => qn (by rw [dl, e]; rfl) H3 s3
      have yes : PM.isNumber u = true → U6 [some (sv u), some (.int j), some (.ref D)] H3 := fun e => by
        refine (hU6 _ _).mpr ?_
        walk_at "rd"
        refine ⟨S u, _, rfl, num_text e, by rw [S_len]; simp only [PM.isNumber, Bool.and_eq_true, decide_eq_true_eq] at e; omega, ?_⟩
        intro p4 hp4
        exact qs _ (by rw [dl, e]; rfl) _ _ (s3.new1 hp4 _) (Rep.new hp4 (.cons (Rep.str_iff.mpr rfl) (.cons (Rep.int_iff.mpr rfl) .nil)))
      cases ha : u.all PM.isFigure with
      | false =>
        simp only [Bool.not_false, if_true]
        exact no (by unfold PM.isNumber; rw [ha]; simp)
      | true =>
        rw [if_neg (by decide)]
        refine ⟨S u, rfl, by rw [S_len]; omega, ?_⟩
        rw [S_len]
        refine ite2 (fun k1 => ite2 (fun k2 => ?_) (fun k2 => (if_pos trivial).mpr (no ?_))) (fun k1 => (if_pos (by decide)).mpr ((if_pos trivial).mpr (no ?_)))
        · cases u with
          | nil => simp at k1
          | cons c r =>
            have num : PM.isNumber (c :: r) = (decide (c :: r = [48]) || !decide (c = 48)) := by
              unfold PM.isNumber
              rw [ha, decide_eq_true (show 1 ≤ (c :: r).length by simp), decide_eq_true (show (c :: r).length ≤ 3 by omega)]
              simp
            have at0 : atI (S (c :: r)).cps.toList ((0 : Nat) : Int) = some c := atI_nat (by rw [S_list]; rfl)
            refine ⟨S (c :: r), 0, c, rfl, rfl, by rw [S_len]; omega, at0, rfl, ?_⟩
            have e0 : (V.str ⟨#[c]⟩ = V.str (Str.ofString "0")) ↔ c = 48 := by
              have e : Str.ofString "0" = S [48] := by decide +kernel
              rw [e, V.str.injEq, S_one, S_inj]
              simp
            have e1 : (sv (c :: r) = V.str (Str.ofString "0")) ↔ c :: r = [48] := by
              have e : V.str (Str.ofString "0") = sv [48] := by decide +kernel
              rw [e, sv_inj]
            refine ite2 (fun z1 => ⟨rfl, ite2 (fun z2 => yes ?_) (fun z2 => no ?_)⟩) (fun z1 => (if_neg Bool.false_ne_true).mpr (yes ?_))
            · rw [num, decide_eq_true (e1.mp z2)]; rfl
            · rw [num, decide_eq_false (fun z => z2 (e1.mpr z)), decide_eq_true (e0.mp z1)]; rfl
            · rw [num, decide_eq_false (fun z => z1 (e0.mpr z))]; simp
        · unfold PM.isNumber; rw [decide_eq_false (show ¬ u.length ≤ 3 by omega)]; simp
        · unfold PM.isNumber; rw [decide_eq_false (show ¬ 1 ≤ u.length by omega)]; simp
  refine ⟨fun m σ H1 => H1 = H ∧ ∃ (j : Nat) (u : W), σ = [some (sv u), some (.int j), none] ∧ j + m = 6 ∧ u.length ≤ wd.length ∧ PM.strip 6 wd = (j + (PM.strip m u).1, (PM.strip m u).2), ⟨6, rfl, 0, wd, rfl, rfl, Nat.le_refl _, by simp⟩, ?_⟩
  rintro m σ H1 ⟨rfl, j, u, rfl, hj, lu, es⟩
  have nope : ¬ (m ≠ 0 ∧ u.head? = some 40 ∧ u.getLast? = some 41) → U2 [some (sv u), some (.int j), none] H1 := fun h => behind j u (by
    rw [es]
    cases m with
    | zero => rfl
    | succ m =>
      unfold PM.strip
      rw [if_neg (fun z => h ⟨by omega, z⟩)]
      rfl) lu
  walk_at "rd"
  refine ⟨1, rfl, S u, rfl, by rw [S_len]; omega, rfl, ?_⟩
  rw [cut_head]
  refine ite2 (fun c1 => ?_) (fun c1 => (if_neg Bool.false_ne_true).mpr (nope fun z => c1 (by rw [(head_is u).mpr z.2.1])))
  have c1' := (head_is u).mp (by simpa using c1)
  refine ⟨1, rfl, -1, rfl, S u, rfl, by rw [S_len]; omega, rfl, ?_⟩
  rw [cut_last]
  refine ite2 (fun c2 => ?_) (fun c2 => (if_neg Bool.false_ne_true).mpr (nope fun z => c2 (by rw [(last_is u).mpr z.2.2])))
  have c2' := (last_is u).mp (by simpa using c2)
  refine ite2 (fun c3 => ?_) (fun c3 => nope fun z => z.1 (by omega))
  obtain ⟨n, rfl⟩ : ∃ n, m = n + 1 := ⟨m - 1, by omega⟩
  refine ⟨fun σ H2 => H2 = H1 ∧ σ = [some (sv u.tail.dropLast), some (.int (j + 1)), none], ?_, ?_⟩
  · rintro σ H2 ⟨rfl, rfl⟩
    refine ⟨n, by omega, rfl, j + 1, u.tail.dropLast, rfl, by omega, ?_, ?_⟩
    · rw [List.length_dropLast, List.length_tail]; omega
    · rw [es]
      unfold PM.strip
      rw [if_pos ⟨c1', c2'⟩]
      simp only [Prod.mk.injEq, and_true]
      cases n <;> simp [PM.strip] <;> omega
  · refine ⟨1, rfl, 1, rfl, -1, rfl, S u, rfl, by rw [S_len]; omega, ?_⟩
    rw [cut_mid]
    exact ⟨rfl, rfl⟩
theorem getD_all {α : Type} {L : List α} {p : α → Prop} (h : ∀ z ∈ L, p z) {i : Nat} (hi : i < L.length) (d : α) : p (L.getD i d) := by
  rw [List.getD_eq_getElem?_getD, List.getElem?_eq_getElem hi]
  exact h _ (List.getElem_mem hi)
theorem chr_at {z : Str} {i : Int} (h0 : 0 ≤ i) (h1 : i < z.length) : ∃ c, atI z.cps.toList i = some c ∧ c ∈ z.cps.toList := by
  have hl : i.toNat < z.cps.toList.length := by
    have : z.length = z.cps.toList.length := by simp [Str.length]
    omega
  refine ⟨z.cps.toList.getD i.toNat 0, atI_getD 0 h0 (by omega), getD_all (fun _ h => h) hl 0⟩
theorem letters_ok : NoS (Str.ofString "abcdefghijklmnopqrstuvwxyz") ∧ (Str.ofString "abcdefghijklmnopqrstuvwxyz").length = 26 := by
  unfold NoS PM.NoOp
  decide +kernel
theorem signs_ok : NoS (Str.ofString " !\"#$&'(),./0123456789:;<=>?@ABCXYZ[]^_{|}~\n") ∧ (Str.ofString " !\"#$&'(),./0123456789:;<=>?@ABCXYZ[]^_{|}~\n").length = 44 := by
  unfold NoS PM.NoOp
  decide +kernel
theorem barred_ok : ∀ u ∈ PM.noNames, NoS (S u) ∧ (S u).length ≤ 5 := by
  unfold NoS PM.NoOp
  decide +kernel
theorem barred_at {K : PySem.W.Frag} {H : Hp} {p : Addr} {i : Int} {Q : VK} (h : H p = some (.lst (PM.noNames.map sv))) (h0 : 0 ≤ i) (h1 : i < 10) (q : ∀ z : Str, NoS z → z.length ≤ 5 → Q (V.str z) H) : rIxL K (.ref p) (.int i) H Q := by
  have h2 : i < PM.noNames.length := h1
  obtain ⟨a, b⟩ := getD_all barred_ok (i := i.toNat) (by omega) []
  exact rIxL_i (.of h) (atI_map (f := sv) (xs := PM.noNames) [] h0 h2) (q _ a b)
theorem digits_ok (n : Int) (h0 : 0 ≤ n) (h1 : n < 10000) : NoS (Str.ofString (toString n)) ∧ (Str.ofString (toString n)).length ≤ 10 := by
  have e : Str.ofString (toString n) = S (PM.dig n.toNat) := V.str.inj (str_dig n h0)
  obtain ⟨a, b⟩ := PM.dig_NoOp n.toNat (by omega)
  rw [e]
  exact ⟨fun c hc => a c (by rw [S_list] at hc; exact hc), by rw [S_len]; exact b⟩
theorem sum_ones (l : List Nat) : (l.map fun _ => 1).sum = l.length := by
  induction l with
  | nil => rfl
  | cons a l ih => rw [List.map_cons, List.sum_cons, ih, List.length_cons]; omega
theorem ok_word (T : Tx K mg t) : FnOk P w K mg base CX0 2 t.f__law_word t.fd__law_word ["cell"] spWord := by
  have G__law_stir : FnOk P w K mg base CX0 1 t.f__law_stir t.fd__law_stir ["cell", "k"] spStir := ok_stir T
  refine T.D__law_word.F.okS sc__law_word (fun vs H Q E h => ?_) (fun cdv A outer s H vs Q E hr h => ?_)
  · obtain ⟨_, rfl, _⟩ := h
    rfl
  obtain ⟨cell, rfl, q⟩ := h
  have nd := sc__law_word.nd
  refine ⟨_, [some (.int cell), none, none, none, none, none, none, none, none, none, none, none], (by
    rw [hb__law_word]
    exact (pss_cons (ps_set (i := 1) nd rfl (Or.inl rfl) (pe_call G__law_stir (hr.mono (by omega)) rfl T.D__law_stir.m T.D__law_stir.F.kp T.D__law_stir.b .nil pass0 (pa_cons (pv 0) (pa_cons pe_int pa_nil st_const) st_name)))
 (pss_cons (ps_set (i := 2) nd rfl (Or.inl rfl) (pe_call G__law_stir (hr.mono (by omega)) rfl T.D__law_stir.m T.D__law_stir.F.kp T.D__law_stir.b .nil pass0 (pa_cons (pv 0) (pa_cons pe_int pa_nil st_const) st_name)))
 (pss_cons (ps_set (i := 3) nd rfl (Or.inl rfl) (pe_lst (pa_consts (vs := [.str "box", .str "ask", .str "put", .str "say", .str "if", .str "else", .str "while", .str "must", .str "stop", .str "end"]) (by kernel_rfl))))
 (pss_cons (ps_set (i := 4) nd rfl (Or.inl rfl) pe_str)
 (pss_cons (ps_if (pt_cmpR op_lt (pe_op op_mod (pv 1) pe_int) pe_int (nomark _))
 (pss_cons (ps_set (i := 5) nd rfl (Or.inr rfl) (pe_ix ix_list (pe_lst (pa_cons pe_str (pa_cons (pv 4) pa_nil st_name) st_const)) (pe_op op_mod (pe_op op_fdiv (pv 1) pe_int) pe_int) pl_bin))
 (pss_one (ps_ret (pe_bm PySem.F.plainAttrs_str PySem.F.slot_str_join PySem.F.type_str_join mt_join pe_str (pa_cons (pe_comp (own := ["k"]) (ix := [0, 5]) rfl (by rfl) (by rfl) (pi_range1 rfl T.z_range (pa_cons (pe_op op_add pe_int (pe_op op_mod (pv 2) pe_int)) pa_nil st_bin)) (fun _ _ _ _ => (pg_name (i := 0) (by show List.Nodup (["k", "cell", "few"] : List Str); decide +kernel) rfl (Or.inl rfl))) (fun _ _ _ _ => pts_nil) (fun _ _ _ _ => (pe_ix ix_str (pv 2) (pe_op op_mod (pe_call G__law_stir (hr.mono (by omega)) rfl T.D__law_stir.m T.D__law_stir.F.kp T.D__law_stir.b .nil pass0 (pa_cons (pv 1) (pa_cons (pe_op op_add pe_int (pv 0)) pa_nil st_bin) st_name)) (pe_callB call_len_str rfl T.z_len PyProof.Rows.Boot.«len» (pa_cons (pv 2) pa_nil st_name))) pl_bin))) pa_nil st_comp)))))
 pss_nil)
 (pss_cons (ps_if (pt_cmpR op_eq (pe_op op_mod (pv 1) pe_int) pe_int (nomark _))
 (pss_one (ps_ret (pe_ix ix_list (pv 3) (pe_op op_mod (pv 2) pe_int) pl_bin)))
 pss_nil)
 (pss_cons (ps_if (pt_cmpR op_eq (pe_op op_mod (pv 1) pe_int) pe_int (nomark _))
 (pss_cons (ps_set (i := 6) nd rfl (Or.inl rfl) (pe_ix ix_list (pv 3) (pe_op op_mod (pv 2) pe_int) pl_bin))
 (pss_one (ps_ret (pe_ix ix_list (pe_lst (pa_cons (pe_op op_add_str (pv 6) (pe_ix ix_str (pv 4) (pe_op op_mod (pe_op op_fdiv (pv 2) pe_int) pe_int) pl_bin)) (pa_cons (pe_slice sl_str (pv 6) (po_some pe_int) po_none) (pa_cons (pe_op op_add_str (pe_ix ix_str (pv 4) (pe_op op_mod (pe_op op_fdiv (pv 2) pe_int) pe_int) pl_bin) (pv 6)) pa_nil st_bin) st_sub) st_bin)) (pe_op op_mod (pe_op op_fdiv (pv 2) pe_int) pe_int) pl_bin))))
 pss_nil)
 (pss_cons (ps_if (pt_cmpR op_eq (pe_op op_mod (pv 1) pe_int) pe_int (nomark _))
 (pss_cons (ps_set (i := 7) nd rfl (Or.inl rfl) pe_str)
 (pss_cons (ps_set (i := 6) nd rfl (Or.inl rfl) (pe_slice sl_str (pv 4) (po_some (pe_op op_mod (pv 2) pe_int)) (po_some (pe_op op_add (pe_op op_add (pe_op op_mod (pv 2) pe_int) pe_int) (pe_op op_mod (pe_op op_fdiv (pv 2) pe_int) pe_int)))))
 (pss_cons (ps_set (i := 8) nd rfl (Or.inl rfl) (pe_op op_mod (pe_op op_fdiv (pv 2) pe_int) (pe_op op_add (pe_callB call_len_str rfl T.z_len PyProof.Rows.Boot.«len» (pa_cons (pv 6) pa_nil st_name)) pe_int)))
 (pss_one (ps_ret (pe_op op_add_str (pe_op op_add_str (pe_slice sl_str (pv 6) po_none (po_some (pv 8))) (pe_ix ix_str (pv 7) (pe_op op_mod (pe_op op_fdiv (pv 2) pe_int) (pe_callB call_len_str rfl T.z_len PyProof.Rows.Boot.«len» (pa_cons (pv 7) pa_nil st_name))) pl_bin)) (pe_slice sl_str (pv 6) (po_some (pv 8)) po_none)))))))
 pss_nil)
 (pss_cons (ps_if (pt_cmpR op_eq (pe_op op_mod (pv 1) pe_int) pe_int (nomark _))
 (pss_one (ps_ret (pe_op op_add_str (pe_op op_rep_str pe_str (pe_op op_mod (pv 2) pe_int)) (pe_callTy call_str_any rfl T.z_str PyProof.Rows.Boot.«str» (pa_cons (pe_op op_mod (pe_op op_fdiv (pv 2) pe_int) (pe_ix ix_list (pe_lst (pa_consts (vs := [.int 10, .int 100, .int 1000, .int 10000]) (by kernel_rfl))) (pe_op op_mod (pe_op op_fdiv (pv 2) pe_int) pe_int) pl_bin)) pa_nil st_bin)))))
 pss_nil)
 (pss_cons (ps_if (pt_cmpR op_eq (pe_op op_mod (pv 1) pe_int) pe_int (nomark _))
 (pss_cons (ps_set (i := 9) nd rfl (Or.inl rfl) (pe_op op_add pe_int (pe_op op_mod (pv 2) pe_int)))
 (pss_cons (ps_set (i := 10) nd rfl (Or.inl rfl) (pe_ix ix_list (pe_lst (pa_consts (vs := [.str "a", .str "0", .str "77", .str "boxes", .str "end", .str ""]) (by kernel_rfl))) (pe_op op_mod (pe_op op_fdiv (pv 2) pe_int) pe_int) pl_bin))
 (pss_one (ps_ret (pe_op op_add_str (pe_op op_add_str (pe_op op_rep_str pe_str (pv 9)) (pv 10)) (pe_op op_rep_str pe_str (pe_op op_sub (pv 9) (pe_ix ix_list (pe_lst (pa_consts (vs := [.int 0, .int 0, .int 0, .int 1]) (by kernel_rfl))) (pe_op op_mod (pe_op op_fdiv (pv 2) pe_int) pe_int) pl_bin))))))))
 pss_nil)
 (pss_cons (ps_set (i := 11) nd rfl (Or.inl rfl) (pe_lst (pa_constR (vs := [.str "", .str "-", .str "-1", .str "00", .str "007", .str "0", .str "999", .str "1000", .str "aaaaaaaa", .str "aaaaaaaaa", .str "1_0", .str "asks", .str "i", .str "1", .str "99"]) (by kernel_rfl))))
 (pss_one (ps_ret (pe_ix ix_list (pv 11) (pe_op op_mod (pv 2) pe_int) pl_bin))))))))))))))), rfl, ?_⟩
  have line : sizeLine = 2 ^ 24 := rfl
  have fin : ∀ (z : Str) (H' : Hp), z.length ≤ 200 → NoS z → Same H H' → Q (V.str z) H' := fun z H' hz hn s' => q z H' hz hn.due s'
  refine seq_gen fun U1 hU1 => ?_
  walk_at "rd"
  simp only [spStir_i]
  refine ⟨by decide, by decide, (hU1 _ _).mpr (seq_gen fun U2 hU2 => ?_)⟩
  clear hU1
  walk_at "rd"
  simp only [spStir_i]
  refine ⟨by decide, by decide, (hU2 _ _).mpr (seq_gen fun U3 hU3 => ?_)⟩
  clear hU2
  obtain ⟨a0, a1⟩ := stir_bound cell 0
  obtain ⟨b0, b1⟩ := stir_bound cell 1
  generalize stir cell 0 = n at *
  generalize stir cell 1 = f at *
  walk_at "rd"
  intro p hp
  have s1 := Same.new hp (.lst (PM.noNames.map sv))
  have eb : ([.str "box", .str "ask", .str "put", .str "say", .str "if", .str "else", .str "while", .str "must", .str "stop", .str "end"] : List V) = PM.noNames.map sv := by decide +kernel
  rw [eb]
  have h1 : (upd H p (.lst (PM.noNames.map sv))) p = some (.lst (PM.noNames.map sv)) := upd_same
  generalize upd H p (.lst (PM.noNames.map sv)) = H1 at *
  refine (hU3 _ _).mpr (seq_gen fun U4 hU4 => ?_)
  clear hU3
  walk_at "rd"
  refine (hU4 _ _).mpr (seq_gen fun U5 hU5 => ?_)
  clear hU4
  walk_at "rd"
  refine ite2 (fun k1 => ?_) (fun k1 => (hU5 _ _).mpr (seq_gen fun U6 hU6 => ?_))
  · clear hU5
    intro p2 hp2
    obtain ⟨fs, hfs, nf, l0, l1⟩ : ∃ fs : Str, atI [V.str (Str.ofString "xyz"), V.str (Str.ofString "abcdefghijklmnopqrstuvwxyz")] (n / 8 % 2) = some (V.str fs) ∧ NoS fs ∧ 0 < fs.length ∧ fs.length ≤ 26 := by
      have z : n / 8 % 2 = 0 ∨ n / 8 % 2 = 1 := by omega
      have e3 : NoS (Str.ofString "xyz") ∧ (Str.ofString "xyz").length = 3 := by unfold NoS PM.NoOp; decide +kernel
      rcases z with z | z
      · exact ⟨_, by rw [z]; exact atI_nat (j := 0) rfl, e3.1, by rw [e3.2]; decide, by rw [e3.2]; decide⟩
      · exact ⟨_, by rw [z]; exact atI_nat (j := 1) rfl, letters_ok.1, by rw [letters_ok.2]; decide, by rw [letters_ok.2]; decide⟩
    refine rIxL_new hfs ⟨rfl, ?_⟩
    have s2 := s1.new1 hp2 (.lst [V.str (Str.ofString "xyz"), V.str (Str.ofString "abcdefghijklmnopqrstuvwxyz")])
    generalize upd H1 p2 (.lst [V.str (Str.ofString "xyz"), V.str (Str.ofString "abcdefghijklmnopqrstuvwxyz")]) = H2 at *
    simp only [tComp]
    walk_at "rd"
    refine ⟨_, rfl, by omega, by omega, fun D hD => ?_⟩
    have ch : ∀ k : Nat, ∃ c, atI fs.cps.toList (stir cell (2 + k) % (fs.length : Int)) = some c ∧ c ∈ fs.cps.toList := fun k => chr_at (Int.emod_nonneg _ (by omega)) (Int.emod_lt_of_pos _ (by omega))
    refine comp_rng (n := (1 + f % 9).toNat) (r := [some (V.int cell), some (V.str fs)]) (fun k => sv [Classical.choose (ch k)]) (by omega) (fun k hk ys R hR => ?_) ?_
    · walk_at "rd"
      simp only [spStir_i]
      walk_at "rd"
      refine ⟨by omega, by omega, fs, rfl, by omega, by omega, ?_⟩
      exact ⟨fs, _, _, rfl, rfl, by omega, (Classical.choose_spec (ch k)).1, hR⟩
    · refine ⟨D, (List.range (1 + f % 9).toNat).map fun k => [Classical.choose (ch k)], rfl, .of ?_, ?_, ?_⟩
      · rw [upd_same, List.map_map]; rfl
      · rw [List.length_flatten, List.map_map]
        have : (List.map (List.length ∘ fun k => [Classical.choose (ch k)]) (List.range (1 + f % 9).toNat)).sum = (1 + f % 9).toNat := by
          have e : (List.length ∘ fun k : Nat => ([Classical.choose (ch k)] : W)) = fun _ => 1 := rfl
          rw [e, sum_ones, List.length_range]
        rw [this]; omega
      · refine fin _ _ ?_ ?_ (s2.new1 hD _)
        · rw [S_len, List.length_flatten, List.map_map]
          have : (List.map (List.length ∘ fun k => [Classical.choose (ch k)]) (List.range (1 + f % 9).toNat)).sum = (1 + f % 9).toNat := by
            have e : (List.length ∘ fun k : Nat => ([Classical.choose (ch k)] : W)) = fun _ => 1 := rfl
            rw [e, sum_ones, List.length_range]
          rw [this]; omega
        · intro c hc
          rw [S_list] at hc
          obtain ⟨l, hl, hcl⟩ := List.mem_flatten.mp hc
          obtain ⟨k, _, rfl⟩ := List.mem_map.mp hl
          rw [List.mem_singleton.mp hcl]
          exact nf _ (Classical.choose_spec (ch k)).2
  clear hU5
  walk_at "rd"
  refine ite2 (fun k2 => ?_) (fun k2 => (hU6 _ _).mpr (seq_gen fun U7 hU7 => ?_))
  · clear hU6
    exact barred_at h1 (by omega) (by omega) fun z nz lz => fin z H1 (by omega) nz s1
  clear hU6
  walk_at "rd"
  refine ite2 (fun k3 => ?_) (fun k3 => (hU7 _ _).mpr (seq_gen fun U8 hU8 => ?_))
  · clear hU7
    refine barred_at h1 (by omega) (by omega) fun z nz lz => ?_
    obtain ⟨c, hc, mc⟩ := chr_at (z := Str.ofString "abcdefghijklmnopqrstuvwxyz") (i := f / 10 % 26) (by omega) (by rw [letters_ok.2]; omega)
    have nc := letters_ok.1.one mc
    have one : (⟨#[c]⟩ : Str).length = 1 := rfl
    have lc := cutS_len z (some 1) none
    refine ⟨_, _, _, rfl, rfl, by rw [letters_ok.2]; omega, hc, z, ⟨#[c]⟩, rfl, rfl, by rw [one]; omega, 1, rfl, z, rfl, by omega, ?_⟩
    refine ⟨_, _, _, rfl, rfl, by rw [letters_ok.2]; omega, hc, ⟨#[c]⟩, z, rfl, rfl, by rw [one]; omega, fun p2 hp2 => ?_⟩
    have key : ∀ i : Int, 0 ≤ i → i < 3 → rIxL K (V.ref p2) (V.int i) (upd H1 p2 (.lst [V.str (z ++ ⟨#[c]⟩), V.str (cutS z (some 1) none), V.str (⟨#[c]⟩ ++ z)])) Q := fun i h0 h3 => by
      have z3 : i = 0 ∨ i = 1 ∨ i = 2 := by omega
      have s2 := s1.new1 hp2 (.lst [V.str (z ++ ⟨#[c]⟩), V.str (cutS z (some 1) none), V.str (⟨#[c]⟩ ++ z)])
      rcases z3 with rfl | rfl | rfl
      · exact rIxL_new (atI_nat (j := 0) rfl) (fin _ _ (by rw [app_len, one]; omega) (nz.app nc) s2)
      · exact rIxL_new (atI_nat (j := 1) rfl) (fin _ _ (by omega) (nz.cut _ _) s2)
      · exact rIxL_new (atI_nat (j := 2) rfl) (fin _ _ (by rw [app_len, one]; omega) (nc.app nz) s2)
    exact key _ (by omega) (by omega)
  clear hU7
  walk_at "rd"
  refine ite2 (fun k4 => ?_) (fun k4 => (hU8 _ _).mpr (seq_gen fun U9 hU9 => ?_))
  · clear hU8
    have nz := letters_ok.1.cut (some (f % 20)) (some (f % 20 + 1 + f / 20 % 6))
    have lz := cutS_len (Str.ofString "abcdefghijklmnopqrstuvwxyz") (some (f % 20)) (some (f % 20 + 1 + f / 20 % 6))
    rw [letters_ok.2] at lz
    refine ⟨_, rfl, _, rfl, _, rfl, by rw [letters_ok.2]; omega, ?_⟩
    generalize cutS (Str.ofString "abcdefghijklmnopqrstuvwxyz") (some (f % 20)) (some (f % 20 + 1 + f / 20 % 6)) = z at *
    have l2 := cutS_len z none (some (f / 120 % ((z.length : Int) + 1)))
    have l3 := cutS_len z (some (f / 120 % ((z.length : Int) + 1))) none
    obtain ⟨c, hc, mc⟩ := chr_at (z := Str.ofString " !\"#$&'(),./0123456789:;<=>?@ABCXYZ[]^_{|}~\n") (i := f / 840 % 44) (by omega) (by rw [signs_ok.2]; omega)
    have nc := signs_ok.1.one mc
    have one : (⟨#[c]⟩ : Str).length = 1 := rfl
    refine ⟨z, rfl, by omega, by omega, _, rfl, z, rfl, by omega, _, rfl, by rw [signs_ok.2]; omega, by rw [signs_ok.2]; omega, ?_⟩
    rw [signs_ok.2]
    refine ⟨_, _, _, rfl, rfl, by rw [signs_ok.2]; omega, hc, _, _, rfl, rfl, by rw [one]; omega, _, rfl, z, rfl, by omega, _, _, rfl, rfl, by rw [app_len, one]; omega, ?_⟩
    exact fin _ _ (by rw [app_len, app_len, one]; omega) (((nz.cut _ _).app nc).app (nz.cut _ _)) s1
  clear hU8
  walk_at "rd"
  refine ite2 (fun k5 => ?_) (fun k5 => (hU9 _ _).mpr (seq_gen fun Ua hUa => ?_))
  · clear hU9
    have n0 : NoS (Str.ofString "0") ∧ (Str.ofString "0").length = 1 := by unfold NoS PM.NoOp; decide +kernel
    refine ⟨_, _, rfl, rfl, by omega, by omega, by rw [n0.2]; omega, fun p2 hp2 => ?_⟩
    have s2 := s1.new1 hp2 (.lst [V.int 10, V.int 100, V.int 1000, V.int 10000])
    have key : ∀ i : Int, 0 ≤ i → i < 4 → ∃ m : Int, atI [V.int 10, V.int 100, V.int 1000, V.int 10000] i = some (V.int m) ∧ 0 < m ∧ m ≤ 10000 := fun i h0 h4 => by
      have z4 : i = 0 ∨ i = 1 ∨ i = 2 ∨ i = 3 := by omega
      rcases z4 with rfl | rfl | rfl | rfl
      · exact ⟨10, atI_nat (j := 0) rfl, by decide, by decide⟩
      · exact ⟨100, atI_nat (j := 1) rfl, by decide, by decide⟩
      · exact ⟨1000, atI_nat (j := 2) rfl, by decide, by decide⟩
      · exact ⟨10000, atI_nat (j := 3) rfl, by decide, by decide⟩
    obtain ⟨m, hm, m0, m1⟩ := key (f / 4 % 4) (by omega) (by omega)
    refine rIxL_new hm ?_
    generalize upd H1 p2 (.lst [V.int 10, V.int 100, V.int 1000, V.int 10000]) = H2 at *
    walk_at "rd"
    refine ⟨m0, .inl ⟨_, rfl, ?_, ?_⟩⟩
    · have d0 := Int.emod_nonneg (f / 2) (show m ≠ 0 by omega)
      have d1 := Int.emod_lt_of_pos (f / 2) m0
      generalize f / 2 % m = d at *
      have : d.natAbs < 2 ^ 14 := by omega
      have := Nat.log2_lt (n := d.natAbs) (k := 14)
      by_cases z : d.natAbs = 0
      · rw [z]; decide
      · have := (Nat.log2_lt z).mpr (show d.natAbs < 2 ^ 14 by omega)
        omega
    · have d0 := Int.emod_nonneg (f / 2) (show m ≠ 0 by omega)
      have d1 := Int.emod_lt_of_pos (f / 2) m0
      obtain ⟨x1, x2⟩ := digits_ok (f / 2 % m) d0 (by omega)
      have rl := repS_len (Str.ofString "0") (f % 2).toNat
      rw [n0.2, Nat.one_mul] at rl
      refine ⟨_, _, rfl, rfl, by omega, fin _ _ (by rw [app_len]; omega) ((n0.1.rep _).app x1) s2⟩
  clear hU9
  walk_at "rd"
  refine ite2 (fun k6 => ?_) (fun k6 => (hUa _ _).mpr (seq_gen fun Ub hUb => ?_))
  · clear hUa
    intro p2 hp2
    have ins : ∀ z ∈ ([Str.ofString "a", Str.ofString "0", Str.ofString "77", Str.ofString "boxes", Str.ofString "end", Str.ofString ""] : List Str), NoS z ∧ z.length ≤ 5 := by unfold NoS PM.NoOp; decide +kernel
    obtain ⟨nz, lz⟩ := getD_all ins (i := (f / 6 % 6).toNat) (by show _ < 6; omega) ""
    refine rIxL_new (atI_map (f := V.str) (xs := [Str.ofString "a", Str.ofString "0", Str.ofString "77", Str.ofString "boxes", Str.ofString "end", Str.ofString ""]) "" (by omega) (by show f / 6 % 6 < 6; omega)) ?_
    have s2 := s1.new1 hp2 (.lst [V.str (Str.ofString "a"), V.str (Str.ofString "0"), V.str (Str.ofString "77"), V.str (Str.ofString "boxes"), V.str (Str.ofString "end"), V.str (Str.ofString "")])
    generalize upd H1 p2 (.lst [V.str (Str.ofString "a"), V.str (Str.ofString "0"), V.str (Str.ofString "77"), V.str (Str.ofString "boxes"), V.str (Str.ofString "end"), V.str (Str.ofString "")]) = H2 at *
    generalize ([Str.ofString "a", Str.ofString "0", Str.ofString "77", Str.ofString "boxes", Str.ofString "end", Str.ofString ""] : List Str).getD (f / 6 % 6).toNat "" = z at *
    have o1 : NoS (Str.ofString "(") ∧ (Str.ofString "(").length = 1 := by unfold NoS PM.NoOp; decide +kernel
    have o2 : NoS (Str.ofString ")") ∧ (Str.ofString ")").length = 1 := by unfold NoS PM.NoOp; decide +kernel
    have rl := repS_len (Str.ofString "(") (1 + f % 6).toNat
    rw [o1.2, Nat.one_mul] at rl
    refine ⟨_, _, rfl, rfl, by omega, by omega, by rw [o1.2]; omega, _, z, rfl, rfl, by omega, fun p3 hp3 => ?_⟩
    have s3 := s2.new1 hp3 (.lst [V.int 0, V.int 0, V.int 0, V.int 1])
    have key : ∀ i : Int, 0 ≤ i → i < 4 → ∃ m : Int, atI [V.int 0, V.int 0, V.int 0, V.int 1] i = some (V.int m) ∧ 0 ≤ m ∧ m ≤ 1 := fun i h0 h4 => by
      have z4 : i = 0 ∨ i = 1 ∨ i = 2 ∨ i = 3 := by omega
      rcases z4 with rfl | rfl | rfl | rfl
      · exact ⟨0, atI_nat (j := 0) rfl, by decide, by decide⟩
      · exact ⟨0, atI_nat (j := 1) rfl, by decide, by decide⟩
      · exact ⟨0, atI_nat (j := 2) rfl, by decide, by decide⟩
      · exact ⟨1, atI_nat (j := 3) rfl, by decide, by decide⟩
    obtain ⟨m, hm, m0, m1⟩ := key (f / 36 % 4) (by omega) (by omega)
    refine rIxL_new hm ?_
    generalize upd H2 p3 (.lst [V.int 0, V.int 0, V.int 0, V.int 1]) = H3 at *
    walk_at "rd"
    have rl2 := repS_len (Str.ofString ")") (1 + f % 6 - m).toNat
    rw [o2.2, Nat.one_mul] at rl2
    refine ⟨_, _, rfl, rfl, by omega, by omega, by rw [o2.2]; omega, _, _, rfl, rfl, by rw [app_len]; omega, ?_⟩
    exact fin _ _ (by rw [app_len, app_len]; omega) (((o1.1.rep _).app nz).app (o2.1.rep _)) s3
  clear hUa
  walk_at "rd"
  intro p2 hp2
  have s2 := s1.new1 hp2 (.lst [V.str (Str.ofString ""), V.str (Str.ofString "-"), V.str (Str.ofString "-1"), V.str (Str.ofString "00"), V.str (Str.ofString "007"), V.str (Str.ofString "0"), V.str (Str.ofString "999"), V.str (Str.ofString "1000"), V.str (Str.ofString "aaaaaaaa"), V.str (Str.ofString "aaaaaaaaa"), V.str (Str.ofString "1_0"), V.str (Str.ofString "asks"), V.str (Str.ofString "i"), V.str (Str.ofString "1"), V.str (Str.ofString "99")])
  refine (hUb _ _).mpr ?_
  walk_at "rd"
  have sm : ∀ z ∈ ([Str.ofString "", Str.ofString "-", Str.ofString "-1", Str.ofString "00", Str.ofString "007", Str.ofString "0", Str.ofString "999", Str.ofString "1000", Str.ofString "aaaaaaaa", Str.ofString "aaaaaaaaa", Str.ofString "1_0", Str.ofString "asks", Str.ofString "i", Str.ofString "1", Str.ofString "99"] : List Str), PM.expr z.cps.toList = PM.due z.cps.toList ∧ z.length ≤ 20 := by decide +kernel
  obtain ⟨ez, lz⟩ := getD_all sm (i := (f % 15).toNat) (by show _ < 15; omega) ""
  refine rIxL_new (atI_map (f := V.str) (xs := [Str.ofString "", Str.ofString "-", Str.ofString "-1", Str.ofString "00", Str.ofString "007", Str.ofString "0", Str.ofString "999", Str.ofString "1000", Str.ofString "aaaaaaaa", Str.ofString "aaaaaaaaa", Str.ofString "1_0", Str.ofString "asks", Str.ofString "i", Str.ofString "1", Str.ofString "99"]) "" (by omega) (by show f % 15 < 15; omega)) ?_
  exact q _ _ (by omega) ez s2
theorem reps_bl {K : PySem.W.Frag} {H : Hp} : ∀ bs : List Bool, Reps K H (bs.map Dp.bl) (bs.map V.bl)
  | [] => .nil
  | b :: r => .cons (Rep.bl_iff.mpr rfl) (reps_bl r)
theorem ok_law (T : Tx K mg t) : FnOk P w K mg base CX0 30 t.f_law t.fd_law ["script"] (spLaw K) := by
  have G__law_stir : FnOk P w K mg base CX0 1 t.f__law_stir t.fd__law_stir ["cell", "k"] spStir := ok_stir T
  have G__law_word := ok_word (P := P) (w := w) (base := base) T
  have G_is_name := ok_is_name (P := P) (w := w) (base := base) T
  have G__law_good_name := ok_goodName (P := P) (w := w) (base := base) T
  have G__law_due := ok_due (P := P) (w := w) (base := base) T
  have G__law_refused := ok_refL (P := P) (w := w) (base := base) T
  have G_expression := ok_expression (P := P) (w := w) (base := base) T
  refine T.D_law.F.okS sc_law (fun vs H Q E h => ?_) (fun cdv A outer s H vs Q E hr h => ?_)
  · obtain ⟨_, _, rfl, _⟩ := h
    rfl
  obtain ⟨a, ns, rfl, hS, h63, q⟩ := h
  have nd := sc_law.nd
  have hu := hu_of hr
  refine ⟨_, [some (V.ref a), none, none, none, none, none, none], (pss_cons (ps_for PassesOwn.never rfl (pi_enum rfl T.z_enumerate (pa_cons (pe_slice sl_list (pv 0) po_none (po_some pe_int)) pa_nil st_sub)) (pg_tup rfl (pgs_cons (pg_name (i := 1) nd rfl (Or.inl rfl)) (pgs_cons (pg_name (i := 2) nd rfl (Or.inl rfl)) pgs_nil)))
 (pss_cons (ps_set (i := 3) nd rfl (Or.inl rfl) (pe_call G__law_word (hr.mono (by omega)) rfl T.D__law_word.m T.D__law_word.F.kp T.D__law_word.b .nil pass0 (pa_cons (pv 2) pa_nil st_name)))
 (pss_cons (ps_if (PW.pt (pw_and (pt_cmpR op_lt (pv 1) pe_int (nomark _)) (pw_and1 (pt_cmpR op_eq (pe_op op_mod (pe_call G__law_stir (hr.mono (by omega)) rfl T.D__law_stir.m T.D__law_stir.F.kp T.D__law_stir.b .nil pass0 (pa_cons (pv 2) (pa_cons pe_int pa_nil st_const) st_name)) pe_int) pe_int (nomark _)))))
 (pss_one (ps_set (i := 3) nd rfl (Or.inl rfl) (pe_op op_rep_str (pe_ix ix_list (pe_lst (pa_consts (vs := [.str "9", .str "a", .str "(", .str "0"]) (by kernel_rfl))) (pe_op op_mod (pe_call G__law_stir (hr.mono (by omega)) rfl T.D__law_stir.m T.D__law_stir.F.kp T.D__law_stir.b .nil pass0 (pa_cons (pv 2) (pa_cons pe_int pa_nil st_const) st_name)) pe_int) pl_bin) (pe_op op_add pe_int (pe_op op_mod (pe_call G__law_stir (hr.mono (by omega)) rfl T.D__law_stir.m T.D__law_stir.F.kp T.D__law_stir.b .nil pass0 (pa_cons (pv 2) (pa_cons pe_int pa_nil st_const) st_name)) pe_int)))))
 pss_nil)
 (pss_cons (ps_set (i := 4) nd rfl (Or.inl rfl) (pe_call G_is_name (hr.mono (by omega)) rfl T.D_is_name.m T.D_is_name.F.kp T.D_is_name.b .nil pass0 (pa_cons (pv 3) pa_nil st_name)))
 (pss_cons (ps_if (PW.pt (pw_or (pt_not (pt_val (pe_callB call_isT rfl T.z_isinstance PyProof.Rows.Boot.«isinstance» (pa_cons (pv 4) (pa_cons (pe_bltn (v := .ty "bool") rfl T.z_bool PyProof.Rows.Boot.«bool» rfl) pa_nil st_name) st_name)))) (pw_or1 (pt_cmpR op_ne (pv 4) (pe_call G__law_good_name (hr.mono (by omega)) rfl T.D__law_good_name.m T.D__law_good_name.F.kp T.D__law_good_name.b .nil pass0 (pa_cons (pv 3) pa_nil st_name)) (nomark _)))))
 (pss_one (ps_ret pe_bl))
 pss_nil)
 (pss_cons (ps_set (i := 5) nd rfl (Or.inl rfl) (pe_call G__law_due (hr.mono (by omega)) rfl T.D__law_due.m T.D__law_due.F.kp T.D__law_due.b .nil pass0 (pa_cons (pv 3) pa_nil st_name)))
 (pss_one (ps_if (pt_cmpR op_isN (pv 5) pe_non (nomark _))
 (pss_one (ps_if (pt_cmpR (op_neD (hu64 hr)) (pe_call G__law_refused (hr.mono (by omega)) rfl T.D__law_refused.m T.D__law_refused.F.kp T.D__law_refused.b .nil pass0 (pa_cons (pv 3) pa_nil st_name)) (pe_comp (own := ["k"]) (ix := []) rfl (by rfl) (by rfl) (pi_range1 rfl T.z_range (pa_cons pe_int pa_nil st_const)) (fun _ _ _ _ => (pg_name (i := 0) (by show List.Nodup (["k"] : List Str); decide +kernel) rfl (Or.inl rfl))) (fun _ _ _ _ => pts_nil) (fun _ _ _ _ => (pe_cmpR op_eq (pv 0) pe_int (nomark _)))) (nomark _))
 (pss_one (ps_ret pe_bl))
 pss_nil))
 (pss_cons (ps_set (i := 6) nd rfl (Or.inl rfl) (pe_call G_expression (hr.mono (by omega)) rfl T.D_expression.m T.D_expression.F.kp T.D_expression.b .nil pass10 (pa_cons (pv 3) pa_nil st_name)))
 (pss_one (ps_if (PW.pt (pw_or (pt_not (pt_val (pe_callB call_isQ rfl T.z_isinstance PyProof.Rows.Boot.«isinstance» (pa_cons (pv 6) (pa_cons (pe_bltn (v := .ty "tuple") rfl T.z_tuple PyProof.Rows.Boot.«tuple» rfl) pa_nil st_name) st_name)))) (pw_or (pt_cmpR (op_neD (hu64 hr)) (pv 6) (pv 5) (nomark _)) (pw_or1 (pt_val (pe_callB call_isT rfl T.z_isinstance PyProof.Rows.Boot.«isinstance» (pa_cons (pe_ix ix_tup (pv 6) (pe_un un_neg pe_int) pl_un) (pa_cons (pe_bltn (v := .ty "bool") rfl T.z_bool PyProof.Rows.Boot.«bool» rfl) pa_nil st_name) st_sub)))))))
 (pss_one (ps_ret pe_bl))
 pss_nil)))))))))))
 (pss_one (ps_ret pe_bl))), rfl, ?_⟩
  have line : sizeLine = 2 ^ 24 := rfl
  walk_at "rd"
  refine ⟨_, rfl, 63, rfl, a, _, rfl, hS, fun p hp => ?_⟩
  rw [cut63 ns h63]
  refine ⟨p, rfl, ⟨_, .of upd_same⟩, for_enum (K := K) (a := p) (xs := ns.map V.int) (fun i σ H2 => (∃ x1 x2 x3 x4 x5 x6 : Option V, σ = [some (V.ref a), x1, x2, x3, x4, x5, x6]) ∧ Same (upd H p (.lst (ns.map V.int))) H2) ⟨⟨none, none, none, none, none, none, rfl⟩, Same.refl _⟩ (fun i σ H2 _ ⟨_, s2⟩ => .of (s2 _ _ upd_same)) ?_ ?_⟩
  · rintro i y σ H2 tp hi ⟨⟨x1, x2, x3, x4, x5, x6, rfl⟩, s2⟩ htp
    obtain ⟨cell, rfl⟩ : ∃ z, y = V.int z := by
      rw [List.getElem?_map] at hi
      cases e : ns[i]? with
      | none => rw [e] at hi; cases hi
      | some z => rw [e] at hi; exact ⟨z, (Option.some.inj hi).symm⟩
    have s3 := s2.new1 htp (.tup [.int i, .int cell])
    have h3 : (upd H2 tp (.tup [.int i, .int cell])) tp = some (.tup [.int i, .int cell]) := upd_same
    generalize upd H2 tp (.tup [.int i, .int cell]) = H3 at *
    refine ⟨tp, _, rfl, .of h3, rfl, _, _, rfl, _, _, rfl, rfl, ?_⟩
    refine seq_gen fun U1 hU1 => ?_
    walk_at "rd"
    refine ⟨cell, rfl, fun z0 H4 lz0 ez0 s4 => ?_⟩
    have s5 := s3.trans s4
    refine (hU1 _ _).mpr (seq_gen fun U2 hU2 => ?_)
    clear hU1
    have step2 : ∀ (z : Str) (H4 : Hp), z.length ≤ 6000 → PM.expr z.cps.toList = PM.due z.cps.toList → Same (upd H p (.lst (ns.map V.int))) H4 → U2 [some (V.ref a), some (.int i), some (.int cell), some (V.str z), x4, x5, x6] H4 := by
      intro z H4 lz ez s5
      obtain ⟨wd, rfl⟩ : ∃ wd, z = S wd := ⟨z.cps.toList, (S_eta z).symm⟩
      rw [S_list] at ez
      rw [S_len] at lz
      refine (hU2 _ _).mpr (seq_gen fun U3 hU3 => ?_)
      walk_at "rd"
      refine ⟨wd, rfl, by omega, fun H5 s6 => (hU3 _ _).mpr (seq_gen fun U4 hU4 => ?_)⟩
      clear hU3
      walk_at "rd"
      refine ⟨_, _, _, _, rfl, .bl _, kt_bb, ?_⟩
      rw [if_neg (by decide)]
      refine ⟨wd, rfl, by omega, fun H6 s7 => ⟨rfl, ?_⟩⟩
      rw [if_pos rfl]
      refine (hU4 _ _).mpr (seq_gen fun U5 hU5 => ?_)
      clear hU4
      have s8 := (s5.trans s6).trans s7
      have fin : ∀ y4 y5 y6 H9, Same (upd H p (.lst (ns.map V.int))) H9 → (∃ x1 x2 x3 x4 x5 x6 : Option V, [some (V.ref a), some (V.int i), some (V.int cell), some (V.str (S wd)), y4, y5, y6] = [some (V.ref a), x1, x2, x3, x4, x5, x6]) ∧ Same (upd H p (.lst (ns.map V.int))) H9 := fun y4 y5 y6 H9 s9 => ⟨⟨_, _, _, _, _, _, rfl⟩, s9⟩
      walk_at "rd"
      refine ⟨wd, rfl, by omega, ?_⟩
      cases hd : PM.due wd with
      | none =>
        rw [hd] at ez
        intro H7 s9
        refine (hU5 _ _).mpr ?_
        walk_at "rd"
        rw [if_pos trivial]
        refine ⟨wd, rfl, by omega, ez, fun a2 H8 s10 h8 => ?_⟩
        simp only [tComp]
        walk_at "rd"
        refine ⟨_, rfl, by decide, by decide, fun D hD => ?_⟩
        refine comp_rng (n := 14) (r := []) (fun k => V.bl (decide ((k : Int) = 0))) (by decide) (fun k hk ys R hR => ?_) ?_
        · walk_at "rd"
          exact hR
        have el : (List.range 14).map (fun k : Nat => V.bl (decide ((k : Int) = 0))) = (true :: List.replicate 13 false).map V.bl := by decide +kernel
        rw [el]
        have s11 := ((s8.trans s9).trans s10).new1 hD (.lst ((true :: List.replicate 13 false).map V.bl))
        refine ⟨.lst ((true :: List.replicate 13 false).map Dp.bl), .lst ((true :: List.replicate 13 false).map Dp.bl), Rep.lst_iff.mpr ⟨a2, _, rfl, .of (Same.new hD _ _ _ h8), reps_bl _⟩, Rep.lst_iff.mpr ⟨D, _, rfl, .of upd_same, reps_bl _⟩, by decide +kernel, by decide +kernel, ?_⟩
        rw [eqv_refl]
        exact ⟨_, rfl, (if_neg (by decide)).mpr ⟨⟨_, _, _, _, _, _, rfl⟩, s11⟩⟩
      | some tr =>
        rw [hd] at ez
        intro v H7 s9 r9
        refine (hU5 _ _).mpr ?_
        walk_at "rd"
        obtain ⟨la, hsh, hlast⟩ : ∃ la : List Dp, dpT tr = .tup la ∧ SeqAt.shaped (dpT tr).py = true ∧ ((∃ x n, la = [.str x, .int n]) ∨ ∃ x y, la = [.str x, .str y]) := by
          obtain ⟨k, u, _, _, lf⟩ := (PM.due_iff wd tr).mp hd
          unfold PM.leaf at lf
          split at lf
          · rename_i hn
            cases lf
            exact ⟨_, rfl, dpT_shaped (t := .box u) hn (by show 0 ≤ 60; decide), .inr ⟨_, _, rfl⟩⟩
          · split at lf
            · cases lf
              refine ⟨_, rfl, ?_, .inl ⟨_, _, rfl⟩⟩
              have e : PyData.strOk (Str.ofString "number") = true := by decide +kernel
              simp [SeqAt.shaped, dpT, Dp.py, Dp.pys, PyData.canLay0, PyData.canLayAll0, PyData.depth, PyData.depthAll, e]
            · cases lf
        obtain ⟨hsh, hlast⟩ := hlast
        have r9' := r9
        rw [‹dpT tr = Dp.tup la›, Rep.tup_iff] at r9'
        obtain ⟨av, xs9, rfl, _, _⟩ := r9'
        rw [if_neg (by intro z; cases z)]
        refine ⟨wd, rfl, by omega, ?_⟩
        rw [ez]
        intro v2 H8 s10 r10
        have r10' := r10
        rw [‹dpT tr = Dp.tup la›, Rep.tup_iff] at r10'
        obtain ⟨a2, xs, rfl, q2, rs⟩ := r10'
        refine ⟨a2, _, xs, _, rfl, q2, kt_tt, ?_⟩
        rw [if_neg (by decide)]
        refine ⟨dpT tr, dpT tr, r10, r9.mono s10, hsh, hsh, ?_⟩
        rw [eqv_refl]
        refine ⟨_, rfl, (if_neg (by decide)).mpr ?_⟩
        have s12 := (s8.trans s9).trans s10
        rcases hlast with ⟨x, n, rfl⟩ | ⟨x, y, rfl⟩
        · rw [Reps.cons_iff] at rs
          obtain ⟨v1, r1, rfl, e1, rs⟩ := rs
          rw [Reps.cons_iff] at rs
          obtain ⟨v2, r2, rfl, e2, rs⟩ := rs
          rw [Reps.nil_iff] at rs
          subst rs
          rw [Rep.int_iff] at e2
          subst e2
          refine ⟨1, rfl, rIxT_i (v := V.int n) q2 rfl ⟨_, _, _, _, rfl, .int _, kt_ib, ?_⟩⟩
          exact (if_neg (by decide)).mpr ⟨⟨_, _, _, _, _, _, rfl⟩, s12⟩
        · rw [Reps.cons_iff] at rs
          obtain ⟨v1, r1, rfl, e1, rs⟩ := rs
          rw [Reps.cons_iff] at rs
          obtain ⟨v2, r2, rfl, e2, rs⟩ := rs
          rw [Reps.nil_iff] at rs
          subst rs
          rw [Rep.str_iff] at e2
          subst e2
          refine ⟨1, rfl, rIxT_i (v := V.str y) q2 rfl ⟨_, _, _, _, rfl, .str _, kt_sb, ?_⟩⟩
          exact (if_neg (by decide)).mpr ⟨⟨_, _, _, _, _, _, rfl⟩, s12⟩
    walk_at "rd"
    simp only [spStir_i]
    walk_at "rd"
    refine ite2 (fun _ => ?_) (fun _ => (if_neg Bool.false_ne_true).mpr (step2 z0 H4 (by omega) ez0 s5))
    refine ite2 (fun _ => ?_) (fun _ => step2 z0 H4 (by omega) ez0 s5)
    intro p2 hp2
    obtain ⟨b0, b1⟩ := stir_bound cell 21
    have f0 : 0 ≤ stir cell 22 % 6000 ∧ stir cell 22 % 6000 < 6000 := ⟨Int.emod_nonneg _ (by decide), Int.emod_lt_of_pos _ (by decide)⟩
    generalize stir cell 22 % 6000 = fr at f0 ⊢
    have ins : ∀ z ∈ ([Str.ofString "9", Str.ofString "a", Str.ofString "(", Str.ofString "0"] : List Str), NoS z ∧ z.length = 1 := by unfold NoS PM.NoOp; decide +kernel
    obtain ⟨nz, lz⟩ := getD_all ins (i := (stir cell 21 % 4).toNat) (by show _ < 4; omega) ""
    refine rIxL_new (atI_map (f := V.str) (xs := [Str.ofString "9", Str.ofString "a", Str.ofString "(", Str.ofString "0"]) "" (by omega) (by show stir cell 21 % 4 < 4; omega)) ?_
    have s6 := s5.new1 hp2 (.lst [V.str (Str.ofString "9"), V.str (Str.ofString "a"), V.str (Str.ofString "("), V.str (Str.ofString "0")])
    generalize ([Str.ofString "9", Str.ofString "a", Str.ofString "(", Str.ofString "0"] : List Str).getD (stir cell 21 % 4).toNat "" = z at *
    have rl := repS_len z (1 + fr).toNat
    rw [lz, Nat.one_mul] at rl
    exact ⟨z, _, rfl, rfl, by omega, by omega, by rw [lz]; omega, step2 _ _ (by omega) (nz.rep _).due s6⟩
  · rintro σ H2 ⟨⟨x1, x2, x3, x4, x5, x6, rfl⟩, s2⟩
    walk_at "rd"
    exact q H2
end
end K01
end

section
set_option maxHeartbeats 4000000
namespace K01
open PySem L2
section
variable {P : Program} {w : World} {K : PySem.W.Frag} {mg : Str → Option Value} {base : Heap}
theorem all_mk {l : PySem.W.OpenLaw} {h : Heap} {fa : Addr} (X : K.In h) (G : h.Ns mainGlobals mg) (hfa : mg "law" = some (.ref fa))
    {f_is_of : Addr} {od_is_of an_is_of : Option Addr} {sl_is_of : Array (Option Value)} {oc_is_of kV_is_of dc_is_of pm_is_of cd_is_of ct_is_of : Value}
    {f_is_name : Addr} {od_is_name an_is_name : Option Addr} {sl_is_name : Array (Option Value)} {oc_is_name kV_is_name dc_is_name pm_is_name cd_is_name ct_is_name : Value}
    {f_is_number : Addr} {od_is_number an_is_number : Option Addr} {sl_is_number : Array (Option Value)} {oc_is_number kV_is_number dc_is_number pm_is_number cd_is_number ct_is_number : Value}
    {f_expression : Addr} {od_expression an_expression : Option Addr} {sl_expression : Array (Option Value)} {oc_expression kV_expression dc_expression pm_expression cd_expression ct_expression : Value}
    {f_pieces_of : Addr} {od_pieces_of an_pieces_of : Option Addr} {sl_pieces_of : Array (Option Value)} {oc_pieces_of kV_pieces_of dc_pieces_of pm_pieces_of cd_pieces_of ct_pieces_of : Value}
    {f_kind_of : Addr} {od_kind_of an_kind_of : Option Addr} {sl_kind_of : Array (Option Value)} {oc_kind_of kV_kind_of dc_kind_of pm_kind_of cd_kind_of ct_kind_of : Value}
    {f_sum_from : Addr} {od_sum_from an_sum_from : Option Addr} {sl_sum_from : Array (Option Value)} {oc_sum_from kV_sum_from dc_sum_from pm_sum_from cd_sum_from ct_sum_from : Value}
    {f_product_from : Addr} {od_product_from an_product_from : Option Addr} {sl_product_from : Array (Option Value)} {oc_product_from kV_product_from dc_product_from pm_product_from cd_product_from ct_product_from : Value}
    {f_factor_from : Addr} {od_factor_from an_factor_from : Option Addr} {sl_factor_from : Array (Option Value)} {oc_factor_from kV_factor_from dc_factor_from pm_factor_from cd_factor_from ct_factor_from : Value}
    {f_bracket_from : Addr} {od_bracket_from an_bracket_from : Option Addr} {sl_bracket_from : Array (Option Value)} {oc_bracket_from kV_bracket_from dc_bracket_from pm_bracket_from cd_bracket_from ct_bracket_from : Value}
    {f__law_stir : Addr} {od__law_stir an__law_stir : Option Addr} {sl__law_stir : Array (Option Value)} {oc__law_stir kV__law_stir dc__law_stir pm__law_stir cd__law_stir ct__law_stir : Value}
    {f__law_word : Addr} {od__law_word an__law_word : Option Addr} {sl__law_word : Array (Option Value)} {oc__law_word kV__law_word dc__law_word pm__law_word cd__law_word ct__law_word : Value}
    {f__law_good_name : Addr} {od__law_good_name an__law_good_name : Option Addr} {sl__law_good_name : Array (Option Value)} {oc__law_good_name kV__law_good_name dc__law_good_name pm__law_good_name cd__law_good_name ct__law_good_name : Value}
    {f__law_due : Addr} {od__law_due an__law_due : Option Addr} {sl__law_due : Array (Option Value)} {oc__law_due kV__law_due dc__law_due pm__law_due cd__law_due ct__law_due : Value}
    {f__law_refused : Addr} {od__law_refused an__law_refused : Option Addr} {sl__law_refused : Array (Option Value)} {oc__law_refused kV__law_refused dc__law_refused pm__law_refused cd__law_refused ct__law_refused : Value}
    {f_law : Addr} {od_law an_law : Option Addr} {sl_law : Array (Option Value)} {oc_law kV_law dc_law pm_law cd_law ct_law : Value}
    {C_Pieces : Addr}
    {f_Pieces_init : Addr} {od_Pieces_init an_Pieces_init : Option Addr} {sl_Pieces_init : Array (Option Value)} {oc_Pieces_init kV_Pieces_init dc_Pieces_init pm_Pieces_init cd_Pieces_init ct_Pieces_init : Value}
    {f_Pieces_ahead : Addr} {od_Pieces_ahead an_Pieces_ahead : Option Addr} {sl_Pieces_ahead : Array (Option Value)} {oc_Pieces_ahead kV_Pieces_ahead dc_Pieces_ahead pm_Pieces_ahead cd_Pieces_ahead ct_Pieces_ahead : Value}
    {f_Pieces_take : Addr} {od_Pieces_take an_Pieces_take : Option Addr} {sl_Pieces_take : Array (Option Value)} {oc_Pieces_take kV_Pieces_take dc_Pieces_take pm_Pieces_take cd_Pieces_take ct_Pieces_take : Value}
    {C_RowError : Addr}
    {C_TooLong : Addr}
    {C_NoRow : Addr}
    {C_NoPlace : Addr}
    {C_TooDeep : Addr}
    {C_NoMeasure : Addr}
    {C_Twice : Addr}
    {C_Full : Addr}
    {C_NoBox : Addr}
    {C_Open : Addr}
    {C_TooMany : Addr}
    {C_NoForm : Addr}
    {C_NoneYet : Addr}
    {C_NoTarget : Addr}
    {t_LETTERS : _}
    {t_FIGURES : _}
    {a_NO_NAMES : Addr} {od_NO_NAMES : Option Addr} {sl_NO_NAMES : Array (Option Value)} {z_NO_NAMES : Nat} {its_NO_NAMES : Array Value}
    {t_MOST_LETTERS : _}
    {t_MOST_FIGURES : _}
    {t_MOST_SIGNS : _}
    {t_MOST_BRACKETS : _}
    (a_is_of : PySem.W.nsIn K mainGlobals "is_of" = some (some (.ref f_is_of)))
    (l_is_of : K.lookup f_is_of = some ⟨oc_is_of, od_is_of, .func (PySem.W.fnOf "is_of" "is_of" (defArgs s_is_of) (defBody s_is_of) (defScope s_is_of) .none kV_is_of dc_is_of pm_is_of an_is_of cd_is_of ct_is_of), sl_is_of⟩)
    (c_is_of : PySem.W.codeIn K cd_is_of "is_of" = true)
    (k_is_of : PySem.W.keepIn K (.ref f_is_of) = true)
    (a_is_name : PySem.W.nsIn K mainGlobals "is_name" = some (some (.ref f_is_name)))
    (l_is_name : K.lookup f_is_name = some ⟨oc_is_name, od_is_name, .func (PySem.W.fnOf "is_name" "is_name" (defArgs s_is_name) (defBody s_is_name) (defScope s_is_name) .none kV_is_name dc_is_name pm_is_name an_is_name cd_is_name ct_is_name), sl_is_name⟩)
    (c_is_name : PySem.W.codeIn K cd_is_name "is_name" = true)
    (k_is_name : PySem.W.keepIn K (.ref f_is_name) = true)
    (a_is_number : PySem.W.nsIn K mainGlobals "is_number" = some (some (.ref f_is_number)))
    (l_is_number : K.lookup f_is_number = some ⟨oc_is_number, od_is_number, .func (PySem.W.fnOf "is_number" "is_number" (defArgs s_is_number) (defBody s_is_number) (defScope s_is_number) .none kV_is_number dc_is_number pm_is_number an_is_number cd_is_number ct_is_number), sl_is_number⟩)
    (c_is_number : PySem.W.codeIn K cd_is_number "is_number" = true)
    (k_is_number : PySem.W.keepIn K (.ref f_is_number) = true)
    (a_expression : PySem.W.nsIn K mainGlobals "expression" = some (some (.ref f_expression)))
    (l_expression : K.lookup f_expression = some ⟨oc_expression, od_expression, .func (PySem.W.fnOf "expression" "expression" (defArgs s_expression) (defBody s_expression) (defScope s_expression) .none kV_expression dc_expression pm_expression an_expression cd_expression ct_expression), sl_expression⟩)
    (c_expression : PySem.W.codeIn K cd_expression "expression" = true)
    (k_expression : PySem.W.keepIn K (.ref f_expression) = true)
    (a_pieces_of : PySem.W.nsIn K mainGlobals "pieces_of" = some (some (.ref f_pieces_of)))
    (l_pieces_of : K.lookup f_pieces_of = some ⟨oc_pieces_of, od_pieces_of, .func (PySem.W.fnOf "pieces_of" "pieces_of" (defArgs s_pieces_of) (defBody s_pieces_of) (defScope s_pieces_of) .none kV_pieces_of dc_pieces_of pm_pieces_of an_pieces_of cd_pieces_of ct_pieces_of), sl_pieces_of⟩)
    (c_pieces_of : PySem.W.codeIn K cd_pieces_of "pieces_of" = true)
    (k_pieces_of : PySem.W.keepIn K (.ref f_pieces_of) = true)
    (a_kind_of : PySem.W.nsIn K mainGlobals "kind_of" = some (some (.ref f_kind_of)))
    (l_kind_of : K.lookup f_kind_of = some ⟨oc_kind_of, od_kind_of, .func (PySem.W.fnOf "kind_of" "kind_of" (defArgs s_kind_of) (defBody s_kind_of) (defScope s_kind_of) .none kV_kind_of dc_kind_of pm_kind_of an_kind_of cd_kind_of ct_kind_of), sl_kind_of⟩)
    (c_kind_of : PySem.W.codeIn K cd_kind_of "kind_of" = true)
    (k_kind_of : PySem.W.keepIn K (.ref f_kind_of) = true)
    (a_sum_from : PySem.W.nsIn K mainGlobals "sum_from" = some (some (.ref f_sum_from)))
    (l_sum_from : K.lookup f_sum_from = some ⟨oc_sum_from, od_sum_from, .func (PySem.W.fnOf "sum_from" "sum_from" (defArgs s_sum_from) (defBody s_sum_from) (defScope s_sum_from) .none kV_sum_from dc_sum_from pm_sum_from an_sum_from cd_sum_from ct_sum_from), sl_sum_from⟩)
    (c_sum_from : PySem.W.codeIn K cd_sum_from "sum_from" = true)
    (k_sum_from : PySem.W.keepIn K (.ref f_sum_from) = true)
    (a_product_from : PySem.W.nsIn K mainGlobals "product_from" = some (some (.ref f_product_from)))
    (l_product_from : K.lookup f_product_from = some ⟨oc_product_from, od_product_from, .func (PySem.W.fnOf "product_from" "product_from" (defArgs s_product_from) (defBody s_product_from) (defScope s_product_from) .none kV_product_from dc_product_from pm_product_from an_product_from cd_product_from ct_product_from), sl_product_from⟩)
    (c_product_from : PySem.W.codeIn K cd_product_from "product_from" = true)
    (k_product_from : PySem.W.keepIn K (.ref f_product_from) = true)
    (a_factor_from : PySem.W.nsIn K mainGlobals "factor_from" = some (some (.ref f_factor_from)))
    (l_factor_from : K.lookup f_factor_from = some ⟨oc_factor_from, od_factor_from, .func (PySem.W.fnOf "factor_from" "factor_from" (defArgs s_factor_from) (defBody s_factor_from) (defScope s_factor_from) .none kV_factor_from dc_factor_from pm_factor_from an_factor_from cd_factor_from ct_factor_from), sl_factor_from⟩)
    (c_factor_from : PySem.W.codeIn K cd_factor_from "factor_from" = true)
    (k_factor_from : PySem.W.keepIn K (.ref f_factor_from) = true)
    (a_bracket_from : PySem.W.nsIn K mainGlobals "bracket_from" = some (some (.ref f_bracket_from)))
    (l_bracket_from : K.lookup f_bracket_from = some ⟨oc_bracket_from, od_bracket_from, .func (PySem.W.fnOf "bracket_from" "bracket_from" (defArgs s_bracket_from) (defBody s_bracket_from) (defScope s_bracket_from) .none kV_bracket_from dc_bracket_from pm_bracket_from an_bracket_from cd_bracket_from ct_bracket_from), sl_bracket_from⟩)
    (c_bracket_from : PySem.W.codeIn K cd_bracket_from "bracket_from" = true)
    (k_bracket_from : PySem.W.keepIn K (.ref f_bracket_from) = true)
    (a__law_stir : PySem.W.nsIn K mainGlobals "_law_stir" = some (some (.ref f__law_stir)))
    (l__law_stir : K.lookup f__law_stir = some ⟨oc__law_stir, od__law_stir, .func (PySem.W.fnOf "_law_stir" "_law_stir" (defArgs s__law_stir) (defBody s__law_stir) (defScope s__law_stir) .none kV__law_stir dc__law_stir pm__law_stir an__law_stir cd__law_stir ct__law_stir), sl__law_stir⟩)
    (c__law_stir : PySem.W.codeIn K cd__law_stir "_law_stir" = true)
    (k__law_stir : PySem.W.keepIn K (.ref f__law_stir) = true)
    (a__law_word : PySem.W.nsIn K mainGlobals "_law_word" = some (some (.ref f__law_word)))
    (l__law_word : K.lookup f__law_word = some ⟨oc__law_word, od__law_word, .func (PySem.W.fnOf "_law_word" "_law_word" (defArgs s__law_word) (defBody s__law_word) (defScope s__law_word) .none kV__law_word dc__law_word pm__law_word an__law_word cd__law_word ct__law_word), sl__law_word⟩)
    (c__law_word : PySem.W.codeIn K cd__law_word "_law_word" = true)
    (k__law_word : PySem.W.keepIn K (.ref f__law_word) = true)
    (a__law_good_name : PySem.W.nsIn K mainGlobals "_law_good_name" = some (some (.ref f__law_good_name)))
    (l__law_good_name : K.lookup f__law_good_name = some ⟨oc__law_good_name, od__law_good_name, .func (PySem.W.fnOf "_law_good_name" "_law_good_name" (defArgs s__law_good_name) (defBody s__law_good_name) (defScope s__law_good_name) .none kV__law_good_name dc__law_good_name pm__law_good_name an__law_good_name cd__law_good_name ct__law_good_name), sl__law_good_name⟩)
    (c__law_good_name : PySem.W.codeIn K cd__law_good_name "_law_good_name" = true)
    (k__law_good_name : PySem.W.keepIn K (.ref f__law_good_name) = true)
    (a__law_due : PySem.W.nsIn K mainGlobals "_law_due" = some (some (.ref f__law_due)))
    (l__law_due : K.lookup f__law_due = some ⟨oc__law_due, od__law_due, .func (PySem.W.fnOf "_law_due" "_law_due" (defArgs s__law_due) (defBody s__law_due) (defScope s__law_due) .none kV__law_due dc__law_due pm__law_due an__law_due cd__law_due ct__law_due), sl__law_due⟩)
    (c__law_due : PySem.W.codeIn K cd__law_due "_law_due" = true)
    (k__law_due : PySem.W.keepIn K (.ref f__law_due) = true)
    (a__law_refused : PySem.W.nsIn K mainGlobals "_law_refused" = some (some (.ref f__law_refused)))
    (l__law_refused : K.lookup f__law_refused = some ⟨oc__law_refused, od__law_refused, .func (PySem.W.fnOf "_law_refused" "_law_refused" (defArgs s__law_refused) (defBody s__law_refused) (defScope s__law_refused) .none kV__law_refused dc__law_refused pm__law_refused an__law_refused cd__law_refused ct__law_refused), sl__law_refused⟩)
    (c__law_refused : PySem.W.codeIn K cd__law_refused "_law_refused" = true)
    (k__law_refused : PySem.W.keepIn K (.ref f__law_refused) = true)
    (a_law : PySem.W.nsIn K mainGlobals "law" = some (some (.ref f_law)))
    (l_law : K.lookup f_law = some ⟨oc_law, od_law, .func (PySem.W.fnOf "law" "law" (defArgs s_law) (defBody s_law) (defScope s_law) .none kV_law dc_law pm_law an_law cd_law ct_law), sl_law⟩)
    (c_law : PySem.W.codeIn K cd_law "law" = true)
    (k_law : PySem.W.keepIn K (.ref f_law) = true)
    (a_Pieces : PySem.W.nsIn K mainGlobals "Pieces" = some (some (.ref C_Pieces)))
    (pg_Pieces : PySem.W.plainGet K C_Pieces Str.empty = true)
    (hd_Pieces : PySem.W.hasDictIn K C_Pieces = true)
    (po_Pieces : PySem.W.plainOver K C_Pieces = true)
    (sa_Pieces : PySem.W.findIn K (.ref C_Pieces) "__setattr__" = some (some (.builtin "object.__setattr__")))
    (a_Pieces_init : PySem.W.findIn K (.ref C_Pieces) "__init__" = some (some (.ref f_Pieces_init)))
    (l_Pieces_init : K.lookup f_Pieces_init = some ⟨oc_Pieces_init, od_Pieces_init, .func (PySem.W.fnOf "__init__" "Pieces.__init__" (defArgs s_Pieces_init) (defBody s_Pieces_init) (defScope s_Pieces_init) .none kV_Pieces_init dc_Pieces_init pm_Pieces_init an_Pieces_init cd_Pieces_init ct_Pieces_init), sl_Pieces_init⟩)
    (c_Pieces_init : PySem.W.codeIn K cd_Pieces_init "Pieces.__init__" = true)
    (k_Pieces_init : PySem.W.keepIn K (.ref f_Pieces_init) = true)
    (n_Pieces_init : PySem.W.isFn K (.ref f_Pieces_init) = true)
    (mk_Pieces : PySem.W.makesIn K C_Pieces = true)
    (kc_Pieces : PySem.W.keepIn K (.ref C_Pieces) = true)
    (a_Pieces_ahead : PySem.W.findIn K (.ref C_Pieces) "ahead" = some (some (.ref f_Pieces_ahead)))
    (l_Pieces_ahead : K.lookup f_Pieces_ahead = some ⟨oc_Pieces_ahead, od_Pieces_ahead, .func (PySem.W.fnOf "ahead" "Pieces.ahead" (defArgs s_Pieces_ahead) (defBody s_Pieces_ahead) (defScope s_Pieces_ahead) .none kV_Pieces_ahead dc_Pieces_ahead pm_Pieces_ahead an_Pieces_ahead cd_Pieces_ahead ct_Pieces_ahead), sl_Pieces_ahead⟩)
    (c_Pieces_ahead : PySem.W.codeIn K cd_Pieces_ahead "Pieces.ahead" = true)
    (k_Pieces_ahead : PySem.W.keepIn K (.ref f_Pieces_ahead) = true)
    (n_Pieces_ahead : PySem.W.isFn K (.ref f_Pieces_ahead) = true)
    (a_Pieces_take : PySem.W.findIn K (.ref C_Pieces) "take" = some (some (.ref f_Pieces_take)))
    (l_Pieces_take : K.lookup f_Pieces_take = some ⟨oc_Pieces_take, od_Pieces_take, .func (PySem.W.fnOf "take" "Pieces.take" (defArgs s_Pieces_take) (defBody s_Pieces_take) (defScope s_Pieces_take) .none kV_Pieces_take dc_Pieces_take pm_Pieces_take an_Pieces_take cd_Pieces_take ct_Pieces_take), sl_Pieces_take⟩)
    (c_Pieces_take : PySem.W.codeIn K cd_Pieces_take "Pieces.take" = true)
    (k_Pieces_take : PySem.W.keepIn K (.ref f_Pieces_take) = true)
    (n_Pieces_take : PySem.W.isFn K (.ref f_Pieces_take) = true)
    (no_Pieces_pieces : PySem.W.findIn K (.ref C_Pieces) "pieces" = some none)
    (no_Pieces_place : PySem.W.findIn K (.ref C_Pieces) "place" = some none)
    (a_RowError : PySem.W.nsIn K mainGlobals "RowError" = some (some (.ref C_RowError)))
    (a_TooLong : PySem.W.nsIn K mainGlobals "TooLong" = some (some (.ref C_TooLong)))
    (a_NoRow : PySem.W.nsIn K mainGlobals "NoRow" = some (some (.ref C_NoRow)))
    (x_NoRow : PySem.W.excIn K C_NoRow [.type "ValueError", .type "Exception", .type "BaseException", .type "object"] "ValueError.__new__" = true)
    (xm_NoRow : PySem.W.exmOne K (.ref C_NoRow) (.ref C_NoRow) = some true)
    (a_NoPlace : PySem.W.nsIn K mainGlobals "NoPlace" = some (some (.ref C_NoPlace)))
    (a_TooDeep : PySem.W.nsIn K mainGlobals "TooDeep" = some (some (.ref C_TooDeep)))
    (a_NoMeasure : PySem.W.nsIn K mainGlobals "NoMeasure" = some (some (.ref C_NoMeasure)))
    (a_Twice : PySem.W.nsIn K mainGlobals "Twice" = some (some (.ref C_Twice)))
    (a_Full : PySem.W.nsIn K mainGlobals "Full" = some (some (.ref C_Full)))
    (a_NoBox : PySem.W.nsIn K mainGlobals "NoBox" = some (some (.ref C_NoBox)))
    (a_Open : PySem.W.nsIn K mainGlobals "Open" = some (some (.ref C_Open)))
    (a_TooMany : PySem.W.nsIn K mainGlobals "TooMany" = some (some (.ref C_TooMany)))
    (a_NoForm : PySem.W.nsIn K mainGlobals "NoForm" = some (some (.ref C_NoForm)))
    (a_NoneYet : PySem.W.nsIn K mainGlobals "NoneYet" = some (some (.ref C_NoneYet)))
    (a_NoTarget : PySem.W.nsIn K mainGlobals "NoTarget" = some (some (.ref C_NoTarget)))
    (xr_NoRow : PySem.W.exmOne K (.ref C_NoRow) (.ref C_RowError) = some true)
    (xi1_NoRow : PySem.W.hasDictIn K C_NoRow = true)
    (xi2_NoRow : PySem.W.findIn K (.ref C_NoRow) "__getattribute__" = some (some (.builtin "BaseException.__getattribute__")))
    (xi3_NoRow : PySem.W.findIn K (.ref C_NoRow) "__getattr__" = some none)
    (xi4_NoRow : PySem.W.findIn K (.ref C_NoRow) "__class__" = some (some (.builtin "object.__class__")))
    (xi5_NoRow : PySem.W.mroIn K C_NoRow (.type "object") = some true)
    (xi6_NoRow : PySem.W.mroIn K C_NoRow (.type "BaseException") = some true)
    (kv_NoRow : PySem.W.kitOne K (.ref C_NoRow) (.type "ValueError") = some true)
    (ki_NoRow_RowError : PySem.W.kitOne K (.ref C_NoRow) (.ref C_RowError) = some true)
    (ki_NoRow_TooLong : PySem.W.kitOne K (.ref C_NoRow) (.ref C_TooLong) = some false)
    (ki_NoRow_NoRow : PySem.W.kitOne K (.ref C_NoRow) (.ref C_NoRow) = some true)
    (ki_NoRow_NoPlace : PySem.W.kitOne K (.ref C_NoRow) (.ref C_NoPlace) = some false)
    (ki_NoRow_TooDeep : PySem.W.kitOne K (.ref C_NoRow) (.ref C_TooDeep) = some false)
    (ki_NoRow_NoMeasure : PySem.W.kitOne K (.ref C_NoRow) (.ref C_NoMeasure) = some false)
    (ki_NoRow_Twice : PySem.W.kitOne K (.ref C_NoRow) (.ref C_Twice) = some false)
    (ki_NoRow_Full : PySem.W.kitOne K (.ref C_NoRow) (.ref C_Full) = some false)
    (ki_NoRow_NoBox : PySem.W.kitOne K (.ref C_NoRow) (.ref C_NoBox) = some false)
    (ki_NoRow_Open : PySem.W.kitOne K (.ref C_NoRow) (.ref C_Open) = some false)
    (ki_NoRow_TooMany : PySem.W.kitOne K (.ref C_NoRow) (.ref C_TooMany) = some false)
    (ki_NoRow_NoForm : PySem.W.kitOne K (.ref C_NoRow) (.ref C_NoForm) = some false)
    (ki_NoRow_NoneYet : PySem.W.kitOne K (.ref C_NoRow) (.ref C_NoneYet) = some false)
    (ki_NoRow_NoTarget : PySem.W.kitOne K (.ref C_NoRow) (.ref C_NoTarget) = some false)
    (g_LETTERS : PySem.W.nsIn K mainGlobals "LETTERS" = some (some (.str "abcdefghijklmnopqrstuvwxyz" t_LETTERS)))
    (g_FIGURES : PySem.W.nsIn K mainGlobals "FIGURES" = some (some (.str "0123456789" t_FIGURES)))
    (g_NO_NAMES : PySem.W.nsIn K mainGlobals "NO_NAMES" = some (some (.ref a_NO_NAMES)))
    (l_NO_NAMES : K.lookup a_NO_NAMES = some ⟨.type "tuple", od_NO_NAMES, .seq its_NO_NAMES z_NO_NAMES, sl_NO_NAMES⟩)
    (v_NO_NAMES : Vals [.str "box", .str "ask", .str "put", .str "say", .str "if", .str "else", .str "while", .str "must", .str "stop", .str "end"] its_NO_NAMES.toList)
    (g_MOST_LETTERS : PySem.W.nsIn K mainGlobals "MOST_LETTERS" = some (some (.int 8 t_MOST_LETTERS)))
    (g_MOST_FIGURES : PySem.W.nsIn K mainGlobals "MOST_FIGURES" = some (some (.int 3 t_MOST_FIGURES)))
    (g_MOST_SIGNS : PySem.W.nsIn K mainGlobals "MOST_SIGNS" = some (some (.int 60 t_MOST_SIGNS)))
    (g_MOST_BRACKETS : PySem.W.nsIn K mainGlobals "MOST_BRACKETS" = some (some (.int 5 t_MOST_BRACKETS)))
    (z_len : PySem.W.nsIn K mainGlobals "len" = some none)
    (z_range : PySem.W.nsIn K mainGlobals "range" = some none)
    (z_int : PySem.W.nsIn K mainGlobals "int" = some none)
    (z_bool : PySem.W.nsIn K mainGlobals "bool" = some none)
    (z_str : PySem.W.nsIn K mainGlobals "str" = some none)
    (z_tuple : PySem.W.nsIn K mainGlobals "tuple" = some none)
    (z_all : PySem.W.nsIn K mainGlobals "all" = some none)
    (z_isinstance : PySem.W.nsIn K mainGlobals "isinstance" = some none)
    (z_enumerate : PySem.W.nsIn K mainGlobals "enumerate" = some none)
    (z_ValueError : PySem.W.nsIn K mainGlobals "ValueError" = some none)
    : ∃ fd : FuncData, (∀ (s : Shared) (v : Value), BindsTo s fd ⟨[v], []⟩ [("script", v)]) ∧ ∀ base : Heap, K.In base → base.Ns mainGlobals mg → FnOk l.prog w K mg base CX0 30 fa fd ["script"] (spLaw K) := by
  have e := hfa.symm.trans (PySem.W.mg_of X G a_law)
  cases e
  have F_is_of := fun_mk (st := s_is_of) l_is_of c_is_of k_is_of
  have B_is_of := F_is_of.binds (ps := ["word", "signs"]) fun _ _ _ _ _ _ us hl => match us, hl with | [_, _], _ => rfl
  have F_is_name := fun_mk (st := s_is_name) l_is_name c_is_name k_is_name
  have B_is_name := F_is_name.binds (ps := ["word"]) fun _ _ _ _ _ _ us hl => match us, hl with | [_], _ => rfl
  have F_is_number := fun_mk (st := s_is_number) l_is_number c_is_number k_is_number
  have B_is_number := F_is_number.binds (ps := ["word"]) fun _ _ _ _ _ _ us hl => match us, hl with | [_], _ => rfl
  have F_expression := fun_mk (st := s_expression) l_expression c_expression k_expression
  have B_expression := F_expression.binds (ps := ["word"]) fun _ _ _ _ _ _ us hl => match us, hl with | [_], _ => rfl
  have F_pieces_of := fun_mk (st := s_pieces_of) l_pieces_of c_pieces_of k_pieces_of
  have B_pieces_of := F_pieces_of.binds (ps := ["word"]) fun _ _ _ _ _ _ us hl => match us, hl with | [_], _ => rfl
  have F_kind_of := fun_mk (st := s_kind_of) l_kind_of c_kind_of k_kind_of
  have B_kind_of := F_kind_of.binds (ps := ["sign"]) fun _ _ _ _ _ _ us hl => match us, hl with | [_], _ => rfl
  have F_sum_from := fun_mk (st := s_sum_from) l_sum_from c_sum_from k_sum_from
  have B_sum_from := F_sum_from.binds (ps := ["pieces", "depth"]) fun _ _ _ _ _ _ us hl => match us, hl with | [_, _], _ => rfl
  have F_product_from := fun_mk (st := s_product_from) l_product_from c_product_from k_product_from
  have B_product_from := F_product_from.binds (ps := ["pieces", "depth"]) fun _ _ _ _ _ _ us hl => match us, hl with | [_, _], _ => rfl
  have F_factor_from := fun_mk (st := s_factor_from) l_factor_from c_factor_from k_factor_from
  have B_factor_from := F_factor_from.binds (ps := ["pieces", "depth"]) fun _ _ _ _ _ _ us hl => match us, hl with | [_, _], _ => rfl
  have F_bracket_from := fun_mk (st := s_bracket_from) l_bracket_from c_bracket_from k_bracket_from
  have B_bracket_from := F_bracket_from.binds (ps := ["pieces", "depth"]) fun _ _ _ _ _ _ us hl => match us, hl with | [_, _], _ => rfl
  have F__law_stir := fun_mk (st := s__law_stir) l__law_stir c__law_stir k__law_stir
  have B__law_stir := F__law_stir.binds (ps := ["cell", "k"]) fun _ _ _ _ _ _ us hl => match us, hl with | [_, _], _ => rfl
  have F__law_word := fun_mk (st := s__law_word) l__law_word c__law_word k__law_word
  have B__law_word := F__law_word.binds (ps := ["cell"]) fun _ _ _ _ _ _ us hl => match us, hl with | [_], _ => rfl
  have F__law_good_name := fun_mk (st := s__law_good_name) l__law_good_name c__law_good_name k__law_good_name
  have B__law_good_name := F__law_good_name.binds (ps := ["word"]) fun _ _ _ _ _ _ us hl => match us, hl with | [_], _ => rfl
  have F__law_due := fun_mk (st := s__law_due) l__law_due c__law_due k__law_due
  have B__law_due := F__law_due.binds (ps := ["word"]) fun _ _ _ _ _ _ us hl => match us, hl with | [_], _ => rfl
  have F__law_refused := fun_mk (st := s__law_refused) l__law_refused c__law_refused k__law_refused
  have B__law_refused := F__law_refused.binds (ps := ["word"]) fun _ _ _ _ _ _ us hl => match us, hl with | [_], _ => rfl
  have F_law := fun_mk (st := s_law) l_law c_law k_law
  have B_law := F_law.binds (ps := ["script"]) fun _ _ _ _ _ _ us hl => match us, hl with | [_], _ => rfl
  have F_Pieces_init := fun_mk (st := s_Pieces_init) l_Pieces_init c_Pieces_init k_Pieces_init
  have B_Pieces_init := F_Pieces_init.binds (ps := ["self", "word"]) fun _ _ _ _ _ _ us hl => match us, hl with | [_, _], _ => rfl
  have F_Pieces_ahead := fun_mk (st := s_Pieces_ahead) l_Pieces_ahead c_Pieces_ahead k_Pieces_ahead
  have B_Pieces_ahead := F_Pieces_ahead.binds (ps := ["self"]) fun _ _ _ _ _ _ us hl => match us, hl with | [_], _ => rfl
  have F_Pieces_take := fun_mk (st := s_Pieces_take) l_Pieces_take c_Pieces_take k_Pieces_take
  have B_Pieces_take := F_Pieces_take.binds (ps := ["self"]) fun _ _ _ _ _ _ us hl => match us, hl with | [_], _ => rfl
  let t : Ad := ⟨f_is_of,
    PySem.W.fnOf "is_of" "is_of" (defArgs s_is_of) (defBody s_is_of) (defScope s_is_of) .none kV_is_of dc_is_of pm_is_of an_is_of cd_is_of ct_is_of,
    f_is_name,
    PySem.W.fnOf "is_name" "is_name" (defArgs s_is_name) (defBody s_is_name) (defScope s_is_name) .none kV_is_name dc_is_name pm_is_name an_is_name cd_is_name ct_is_name,
    f_is_number,
    PySem.W.fnOf "is_number" "is_number" (defArgs s_is_number) (defBody s_is_number) (defScope s_is_number) .none kV_is_number dc_is_number pm_is_number an_is_number cd_is_number ct_is_number,
    f_expression,
    PySem.W.fnOf "expression" "expression" (defArgs s_expression) (defBody s_expression) (defScope s_expression) .none kV_expression dc_expression pm_expression an_expression cd_expression ct_expression,
    f_pieces_of,
    PySem.W.fnOf "pieces_of" "pieces_of" (defArgs s_pieces_of) (defBody s_pieces_of) (defScope s_pieces_of) .none kV_pieces_of dc_pieces_of pm_pieces_of an_pieces_of cd_pieces_of ct_pieces_of,
    f_kind_of,
    PySem.W.fnOf "kind_of" "kind_of" (defArgs s_kind_of) (defBody s_kind_of) (defScope s_kind_of) .none kV_kind_of dc_kind_of pm_kind_of an_kind_of cd_kind_of ct_kind_of,
    f_sum_from,
    PySem.W.fnOf "sum_from" "sum_from" (defArgs s_sum_from) (defBody s_sum_from) (defScope s_sum_from) .none kV_sum_from dc_sum_from pm_sum_from an_sum_from cd_sum_from ct_sum_from,
    f_product_from,
    PySem.W.fnOf "product_from" "product_from" (defArgs s_product_from) (defBody s_product_from) (defScope s_product_from) .none kV_product_from dc_product_from pm_product_from an_product_from cd_product_from ct_product_from,
    f_factor_from,
    PySem.W.fnOf "factor_from" "factor_from" (defArgs s_factor_from) (defBody s_factor_from) (defScope s_factor_from) .none kV_factor_from dc_factor_from pm_factor_from an_factor_from cd_factor_from ct_factor_from,
    f_bracket_from,
    PySem.W.fnOf "bracket_from" "bracket_from" (defArgs s_bracket_from) (defBody s_bracket_from) (defScope s_bracket_from) .none kV_bracket_from dc_bracket_from pm_bracket_from an_bracket_from cd_bracket_from ct_bracket_from,
    f__law_stir,
    PySem.W.fnOf "_law_stir" "_law_stir" (defArgs s__law_stir) (defBody s__law_stir) (defScope s__law_stir) .none kV__law_stir dc__law_stir pm__law_stir an__law_stir cd__law_stir ct__law_stir,
    f__law_word,
    PySem.W.fnOf "_law_word" "_law_word" (defArgs s__law_word) (defBody s__law_word) (defScope s__law_word) .none kV__law_word dc__law_word pm__law_word an__law_word cd__law_word ct__law_word,
    f__law_good_name,
    PySem.W.fnOf "_law_good_name" "_law_good_name" (defArgs s__law_good_name) (defBody s__law_good_name) (defScope s__law_good_name) .none kV__law_good_name dc__law_good_name pm__law_good_name an__law_good_name cd__law_good_name ct__law_good_name,
    f__law_due,
    PySem.W.fnOf "_law_due" "_law_due" (defArgs s__law_due) (defBody s__law_due) (defScope s__law_due) .none kV__law_due dc__law_due pm__law_due an__law_due cd__law_due ct__law_due,
    f__law_refused,
    PySem.W.fnOf "_law_refused" "_law_refused" (defArgs s__law_refused) (defBody s__law_refused) (defScope s__law_refused) .none kV__law_refused dc__law_refused pm__law_refused an__law_refused cd__law_refused ct__law_refused,
    fa,
    PySem.W.fnOf "law" "law" (defArgs s_law) (defBody s_law) (defScope s_law) .none kV_law dc_law pm_law an_law cd_law ct_law,
    f_Pieces_init,
    PySem.W.fnOf "__init__" "Pieces.__init__" (defArgs s_Pieces_init) (defBody s_Pieces_init) (defScope s_Pieces_init) .none kV_Pieces_init dc_Pieces_init pm_Pieces_init an_Pieces_init cd_Pieces_init ct_Pieces_init,
    f_Pieces_ahead,
    PySem.W.fnOf "ahead" "Pieces.ahead" (defArgs s_Pieces_ahead) (defBody s_Pieces_ahead) (defScope s_Pieces_ahead) .none kV_Pieces_ahead dc_Pieces_ahead pm_Pieces_ahead an_Pieces_ahead cd_Pieces_ahead ct_Pieces_ahead,
    f_Pieces_take,
    PySem.W.fnOf "take" "Pieces.take" (defArgs s_Pieces_take) (defBody s_Pieces_take) (defScope s_Pieces_take) .none kV_Pieces_take dc_Pieces_take pm_Pieces_take an_Pieces_take cd_Pieces_take ct_Pieces_take,
    C_Pieces,
    C_RowError,
    C_TooLong,
    C_NoRow,
    C_NoPlace,
    C_TooDeep,
    C_NoMeasure,
    C_Twice,
    C_Full,
    C_NoBox,
    C_Open,
    C_TooMany,
    C_NoForm,
    C_NoneYet,
    C_NoTarget,
    a_NO_NAMES⟩
  have T : Tx K mg t := ⟨⟨F_is_of, B_is_of, PySem.W.mg_of X G a_is_of⟩,
    ⟨F_is_name, B_is_name, PySem.W.mg_of X G a_is_name⟩,
    ⟨F_is_number, B_is_number, PySem.W.mg_of X G a_is_number⟩,
    ⟨F_expression, B_expression, PySem.W.mg_of X G a_expression⟩,
    ⟨F_pieces_of, B_pieces_of, PySem.W.mg_of X G a_pieces_of⟩,
    ⟨F_kind_of, B_kind_of, PySem.W.mg_of X G a_kind_of⟩,
    ⟨F_sum_from, B_sum_from, PySem.W.mg_of X G a_sum_from⟩,
    ⟨F_product_from, B_product_from, PySem.W.mg_of X G a_product_from⟩,
    ⟨F_factor_from, B_factor_from, PySem.W.mg_of X G a_factor_from⟩,
    ⟨F_bracket_from, B_bracket_from, PySem.W.mg_of X G a_bracket_from⟩,
    ⟨F__law_stir, B__law_stir, PySem.W.mg_of X G a__law_stir⟩,
    ⟨F__law_word, B__law_word, PySem.W.mg_of X G a__law_word⟩,
    ⟨F__law_good_name, B__law_good_name, PySem.W.mg_of X G a__law_good_name⟩,
    ⟨F__law_due, B__law_due, PySem.W.mg_of X G a__law_due⟩,
    ⟨F__law_refused, B__law_refused, PySem.W.mg_of X G a__law_refused⟩,
    ⟨F_law, B_law, PySem.W.mg_of X G a_law⟩,
    F_Pieces_init,
    B_Pieces_init,
    F_Pieces_ahead,
    B_Pieces_ahead,
    ⟨a_Pieces_ahead, n_Pieces_ahead, k_Pieces_ahead⟩,
    F_Pieces_take,
    B_Pieces_take,
    ⟨a_Pieces_take, n_Pieces_take, k_Pieces_take⟩,
    ⟨pg_Pieces, hd_Pieces, po_Pieces, sa_Pieces⟩,
    PySem.W.mg_of X G a_Pieces,
    ⟨mk_Pieces, a_Pieces_init, n_Pieces_init, kc_Pieces⟩,
    no_Pieces_pieces,
    no_Pieces_place,
    PySem.W.mg_of X G a_RowError,
    PySem.W.mg_of X G a_TooLong,
    ⟨x_NoRow⟩,
    xm_NoRow,
    PySem.W.mg_of X G a_NoRow,
    PySem.W.mg_of X G a_NoPlace,
    PySem.W.mg_of X G a_TooDeep,
    PySem.W.mg_of X G a_NoMeasure,
    PySem.W.mg_of X G a_Twice,
    PySem.W.mg_of X G a_Full,
    PySem.W.mg_of X G a_NoBox,
    PySem.W.mg_of X G a_Open,
    PySem.W.mg_of X G a_TooMany,
    PySem.W.mg_of X G a_NoForm,
    PySem.W.mg_of X G a_NoneYet,
    PySem.W.mg_of X G a_NoTarget,
    xr_NoRow,
    ⟨xi1_NoRow, xi2_NoRow, xi3_NoRow, xi4_NoRow, xi5_NoRow, xi6_NoRow⟩,
    kv_NoRow,
    ki_NoRow_RowError,
    ki_NoRow_TooLong,
    ki_NoRow_NoRow,
    ki_NoRow_NoPlace,
    ki_NoRow_TooDeep,
    ki_NoRow_NoMeasure,
    ki_NoRow_Twice,
    ki_NoRow_Full,
    ki_NoRow_NoBox,
    ki_NoRow_Open,
    ki_NoRow_TooMany,
    ki_NoRow_NoForm,
    ki_NoRow_NoneYet,
    ki_NoRow_NoTarget,
    ⟨_, PySem.W.mg_of X G g_LETTERS, _, rfl⟩,
    ⟨_, PySem.W.mg_of X G g_FIGURES, _, rfl⟩,
    PySem.W.mg_of X G g_NO_NAMES,
    fun _ => .inr ⟨_, _, _, l_NO_NAMES, rfl, rfl, by have := v_NO_NAMES.length; simp only [List.length_cons, List.length_nil, Array.length_toList] at this; rw [← this]; decide, v_NO_NAMES⟩,
    ⟨_, PySem.W.mg_of X G g_MOST_LETTERS, _, rfl⟩,
    ⟨_, PySem.W.mg_of X G g_MOST_FIGURES, _, rfl⟩,
    ⟨_, PySem.W.mg_of X G g_MOST_SIGNS, _, rfl⟩,
    ⟨_, PySem.W.mg_of X G g_MOST_BRACKETS, _, rfl⟩,
    PySem.W.mg_none_of X G z_len,
    PySem.W.mg_none_of X G z_range,
    PySem.W.mg_none_of X G z_int,
    PySem.W.mg_none_of X G z_bool,
    PySem.W.mg_none_of X G z_str,
    PySem.W.mg_none_of X G z_tuple,
    PySem.W.mg_none_of X G z_all,
    PySem.W.mg_none_of X G z_isinstance,
    PySem.W.mg_none_of X G z_enumerate,
    PySem.W.mg_none_of X G z_ValueError⟩
  refine ⟨t.fd_law, ?_, fun base _ _ => ok_law T⟩
  exact fun s v => .of_eq rfl
theorem walk {l : PySem.W.OpenLaw} {q : Program} {loose : List Str} {XP : (Str → Option Value) → Heap → Prop} {YP : World → Heap → Prop} {d : DefRec} {K : Params → PySem.W.Frag} (hn : l.most = some 63) (hdf : d.params.defaults = [])
    (hY : ∀ (w : World) (h : Heap), YP w h → (K w.params).In h)
    (F : ∀ (w : World) (mg : Str → Option Value) (fa : Addr) (h : Heap), (K w.params).In h → h.Ns mainGlobals mg → mg d.name = some (.ref fa) →
      ∃ fd : FuncData, (∀ (s : Shared) (u : Value), BindsTo s fd ⟨[u], []⟩ [("script", u)]) ∧ ∀ base : Heap, (K w.params).In base → base.Ns mainGlobals mg → FnOk l.prog w (K w.params) mg base CX0 30 fa fd ["script"] (spLaw (K w.params))) :
    PySem.W.WalkO q loose XP YP l.row.toRowW d [] (fun f vs => PySem.call f vs) :=
  L2.walk_of (n := 63) (k := 30) (x := "script") (CX := fun _ => CX0) (sp := fun w => spLaw (K w.params)) hn (by decide) hdf ⟨rfl, by decide, by decide⟩ hY F (fun _ _ a ns hl _ hS => ⟨a, ns, rfl, hS, hl, fun _ => rfl⟩) fun _ _ _ _ _ z => z
end
end K01

end

open PySem PySem.W PyProof.Rows
set_option maxRecDepth 100000 in
set_option maxHeartbeats 0 in
theorem PySem.Challenge.cw_everyrow_k01_names_and_leaves_holds : PySem.Challenge.rw_everyrow_k01_names_and_leaves.Holds := by
  w_on; o_law; k_head; (case hw => w_witness2)
  k_fill
  refine K01.walk (l := PySem.Challenge.rw_everyrow_k01_names_and_leaves) rfl rfl (fun w h Y => PySem.W.kIn_of Y) ?F
  case F =>
    intro w mg fa h KX G hmg
    refine' K01.all_mk KX G hmg ?a_is_of ?l_is_of ?c_is_of ?k_is_of ?a_is_name ?l_is_name ?c_is_name ?k_is_name ?a_is_number ?l_is_number ?c_is_number ?k_is_number ?a_expression ?l_expression ?c_expression ?k_expression ?a_pieces_of ?l_pieces_of ?c_pieces_of ?k_pieces_of ?a_kind_of ?l_kind_of ?c_kind_of ?k_kind_of ?a_sum_from ?l_sum_from ?c_sum_from ?k_sum_from ?a_product_from ?l_product_from ?c_product_from ?k_product_from ?a_factor_from ?l_factor_from ?c_factor_from ?k_factor_from ?a_bracket_from ?l_bracket_from ?c_bracket_from ?k_bracket_from ?a__law_stir ?l__law_stir ?c__law_stir ?k__law_stir ?a__law_word ?l__law_word ?c__law_word ?k__law_word ?a__law_good_name ?l__law_good_name ?c__law_good_name ?k__law_good_name ?a__law_due ?l__law_due ?c__law_due ?k__law_due ?a__law_refused ?l__law_refused ?c__law_refused ?k__law_refused ?a_law ?l_law ?c_law ?k_law ?a_Pieces ?pg_Pieces ?hd_Pieces ?po_Pieces ?sa_Pieces ?a_Pieces_init ?l_Pieces_init ?c_Pieces_init ?k_Pieces_init ?n_Pieces_init ?mk_Pieces ?kc_Pieces ?a_Pieces_ahead ?l_Pieces_ahead ?c_Pieces_ahead ?k_Pieces_ahead ?n_Pieces_ahead ?a_Pieces_take ?l_Pieces_take ?c_Pieces_take ?k_Pieces_take ?n_Pieces_take ?no_Pieces_pieces ?no_Pieces_place ?a_RowError ?a_TooLong ?a_NoRow ?x_NoRow ?xm_NoRow ?a_NoPlace ?a_TooDeep ?a_NoMeasure ?a_Twice ?a_Full ?a_NoBox ?a_Open ?a_TooMany ?a_NoForm ?a_NoneYet ?a_NoTarget ?xr_NoRow ?xi1_NoRow ?xi2_NoRow ?xi3_NoRow ?xi4_NoRow ?xi5_NoRow ?xi6_NoRow ?kv_NoRow ?ki_NoRow_RowError ?ki_NoRow_TooLong ?ki_NoRow_NoRow ?ki_NoRow_NoPlace ?ki_NoRow_TooDeep ?ki_NoRow_NoMeasure ?ki_NoRow_Twice ?ki_NoRow_Full ?ki_NoRow_NoBox ?ki_NoRow_Open ?ki_NoRow_TooMany ?ki_NoRow_NoForm ?ki_NoRow_NoneYet ?ki_NoRow_NoTarget ?g_LETTERS ?g_FIGURES ?g_NO_NAMES ?l_NO_NAMES ?v_NO_NAMES ?g_MOST_LETTERS ?g_MOST_FIGURES ?g_MOST_SIGNS ?g_MOST_BRACKETS ?z_len ?z_range ?z_int ?z_bool ?z_str ?z_tuple ?z_all ?z_isinstance ?z_enumerate ?z_ValueError
    (case a_is_of => k_is)
    (case l_is_of => k_is)
    (case c_is_of => k_is)
    (case k_is_of => k_is)
    (case a_is_name => k_is)
    (case l_is_name => k_is)
    (case c_is_name => k_is)
    (case k_is_name => k_is)
    (case a_is_number => k_is)
    (case l_is_number => k_is)
    (case c_is_number => k_is)
    (case k_is_number => k_is)
    (case a_expression => k_is)
    (case l_expression => k_is)
    (case c_expression => k_is)
    (case k_expression => k_is)
    (case a_pieces_of => k_is)
    (case l_pieces_of => k_is)
    (case c_pieces_of => k_is)
    (case k_pieces_of => k_is)
    (case a_kind_of => k_is)
    (case l_kind_of => k_is)
    (case c_kind_of => k_is)
    (case k_kind_of => k_is)
    (case a_sum_from => k_is)
    (case l_sum_from => k_is)
    (case c_sum_from => k_is)
    (case k_sum_from => k_is)
    (case a_product_from => k_is)
    (case l_product_from => k_is)
    (case c_product_from => k_is)
    (case k_product_from => k_is)
    (case a_factor_from => k_is)
    (case l_factor_from => k_is)
    (case c_factor_from => k_is)
    (case k_factor_from => k_is)
    (case a_bracket_from => k_is)
    (case l_bracket_from => k_is)
    (case c_bracket_from => k_is)
    (case k_bracket_from => k_is)
    (case a__law_stir => k_is)
    (case l__law_stir => k_is)
    (case c__law_stir => k_is)
    (case k__law_stir => k_is)
    (case a__law_word => k_is)
    (case l__law_word => k_is)
    (case c__law_word => k_is)
    (case k__law_word => k_is)
    (case a__law_good_name => k_is)
    (case l__law_good_name => k_is)
    (case c__law_good_name => k_is)
    (case k__law_good_name => k_is)
    (case a__law_due => k_is)
    (case l__law_due => k_is)
    (case c__law_due => k_is)
    (case k__law_due => k_is)
    (case a__law_refused => k_is)
    (case l__law_refused => k_is)
    (case c__law_refused => k_is)
    (case k__law_refused => k_is)
    (case a_law => k_is)
    (case l_law => k_is)
    (case c_law => k_is)
    (case k_law => k_is)
    (case a_Pieces => k_is)
    (case pg_Pieces => k_is)
    (case hd_Pieces => k_is)
    (case po_Pieces => k_is)
    (case sa_Pieces => k_is)
    (case a_Pieces_init => k_is)
    (case l_Pieces_init => k_is)
    (case c_Pieces_init => k_is)
    (case k_Pieces_init => k_is)
    (case n_Pieces_init => k_is)
    (case mk_Pieces => k_is)
    (case kc_Pieces => k_is)
    (case a_Pieces_ahead => k_is)
    (case l_Pieces_ahead => k_is)
    (case c_Pieces_ahead => k_is)
    (case k_Pieces_ahead => k_is)
    (case n_Pieces_ahead => k_is)
    (case a_Pieces_take => k_is)
    (case l_Pieces_take => k_is)
    (case c_Pieces_take => k_is)
    (case k_Pieces_take => k_is)
    (case n_Pieces_take => k_is)
    (case no_Pieces_pieces => k_is)
    (case no_Pieces_place => k_is)
    (case a_RowError => k_is)
    (case a_TooLong => k_is)
    (case a_NoRow => k_is)
    (case x_NoRow => k_exc)
    (case xm_NoRow => kts_exm)
    (case a_NoPlace => k_is)
    (case a_TooDeep => k_is)
    (case a_NoMeasure => k_is)
    (case a_Twice => k_is)
    (case a_Full => k_is)
    (case a_NoBox => k_is)
    (case a_Open => k_is)
    (case a_TooMany => k_is)
    (case a_NoForm => k_is)
    (case a_NoneYet => k_is)
    (case a_NoTarget => k_is)
    (case xr_NoRow => kts_exm)
    (case xi1_NoRow => k_is)
    (case xi2_NoRow => k_is)
    (case xi3_NoRow => k_is)
    (case xi4_NoRow => k_is)
    (case xi5_NoRow => k_is)
    (case xi6_NoRow => k_is)
    (case kv_NoRow => kit_is)
    (case ki_NoRow_RowError => kit_is)
    (case ki_NoRow_TooLong => kit_is)
    (case ki_NoRow_NoRow => kit_is)
    (case ki_NoRow_NoPlace => kit_is)
    (case ki_NoRow_TooDeep => kit_is)
    (case ki_NoRow_NoMeasure => kit_is)
    (case ki_NoRow_Twice => kit_is)
    (case ki_NoRow_Full => kit_is)
    (case ki_NoRow_NoBox => kit_is)
    (case ki_NoRow_Open => kit_is)
    (case ki_NoRow_TooMany => kit_is)
    (case ki_NoRow_NoForm => kit_is)
    (case ki_NoRow_NoneYet => kit_is)
    (case ki_NoRow_NoTarget => kit_is)
    (case g_LETTERS => k_is)
    (case g_FIGURES => k_is)
    (case g_NO_NAMES => k_is)
    (case l_NO_NAMES => k_is)
    (case v_NO_NAMES => exact .cons ⟨_, rfl⟩ (.cons ⟨_, rfl⟩ (.cons ⟨_, rfl⟩ (.cons ⟨_, rfl⟩ (.cons ⟨_, rfl⟩ (.cons ⟨_, rfl⟩ (.cons ⟨_, rfl⟩ (.cons ⟨_, rfl⟩ (.cons ⟨_, rfl⟩ (.cons ⟨_, rfl⟩ (.nil)))))))))))
    (case g_MOST_LETTERS => k_is)
    (case g_MOST_FIGURES => k_is)
    (case g_MOST_SIGNS => k_is)
    (case g_MOST_BRACKETS => k_is)
    (case z_len => k_is)
    (case z_range => k_is)
    (case z_int => k_is)
    (case z_bool => k_is)
    (case z_str => k_is)
    (case z_tuple => k_is)
    (case z_all => k_is)
    (case z_isinstance => k_is)
    (case z_enumerate => k_is)
    (case z_ValueError => k_is)

